import Derived.Test.YtoknbkfclhmapaaGreatDoorC16
import Derived.Deep.OwnRows
import Derived.Deep.LoopGhost
import Derived.Deep.DeepCutAuto
import Derived.Test.YtoknbkfclhmapaaGreatDoorC20
import Derived.Test.YtoknbkfclhmapaaGreatDoorC14
import Derived.Test.YtoknbkfclhmapaaGreatDoorC02
import Derived.Deep.CutBlock
import Derived.Test.YtoknbkfclhmapaaGreatDoorC22
namespace Go.Proofs.YtoknbkfclhmapaaGreatDoor
open Go.RowKit
def boolA (l:List Bool):Array Value:=(l.map Value.bool).toArray
theorem info_bool:(Tryz.prog.info? 4).map (fun i=>(i.zero,i.size,i.bytes))=some (some (.bool false),1,1):=by kernel_rfl
theorem made_bool (n:Nat):madeCells #[.bool false] n=boolA (List.replicate n false):=by
 apply Array.ext_getElem?
 intro i
 by_cases h:i<n
 ·simp [madeCells,boolA,h,Nat.mod_one]
 ·simp [madeCells,boolA,h]
theorem boolA_set (l:List Bool) (k:Nat) (b:Bool):(boolA l).setIfInBounds k (.bool b)=boolA (l.set k b):=by
 simp [boolA,List.map_set]
structure FRd (w:World) (fb off slots:Nat) (vL vA vB vP:Value) (name:ByteArray) (ls:List RIns) (ats:List Int) (lab:List (ByteArray × Int)):Prop where
 c0:w.cell? ⟨fb,off,none⟩=some (.string name)
 c1:w.cell? ⟨fb,off+1,none⟩=some vL
 c2:w.cell? ⟨fb,off+2,none⟩=some vA
 c3:w.cell? ⟨fb,off+3,none⟩=some (.int .i64 slots)
 c4:w.cell? ⟨fb,off+4,none⟩=some vB
 c5:w.cell? ⟨fb,off+5,none⟩=some vP
 lt:fb<w.heap.size
 sl:Sl w 51 8 vL ls.length (insL ls)
 sa:Sl w 3 1 vA ats.length (intL ats)
 sb:Sl w 9 1 vB lab.length (strL (lab.map (·.1)))
 sp:Sl w 3 1 vP lab.length (intL (lab.map (·.2)))
theorem FRd.quiet {w w':World} {fb off slots:Nat} {vL vA vB vP:Value} {name:ByteArray} {ls:List RIns} {ats:List Int} {lab:List (ByteArray × Int)} (h:FRd w fb off slots vL vA vB vP name ls ats lab) (m:Mods Nil' w w'):FRd w' fb off slots vL vA vB vP name ls ats lab:=by
 have hb:w'.heap[fb]?=w.heap[fb]?:=m.block fb h.lt (fun e=>e)
 have hc:∀ o,w'.cell? ⟨fb,o,none⟩=w.cell? ⟨fb,o,none⟩:=fun o=>World.cell?_of_block (a:=⟨fb,o,none⟩) hb
 exact ⟨(hc _).trans h.c0,(hc _).trans h.c1,(hc _).trans h.c2,(hc _).trans h.c3,(hc _).trans h.c4,(hc _).trans h.c5,Nat.lt_of_lt_of_le h.lt m.size,h.sl.mods m (fun _ _ e=>e),h.sa.mods m (fun _ _ e=>e),h.sb.mods m (fun _ _ e=>e),h.sp.mods m (fun _ _ e=>e)⟩
structure MOk (m:RMap):Prop where
 n:m.name.size<=300
 k0:0<=m.key
 k1:m.key<=255
 v0:0<=m.value
 v1:m.value<=255
 e0:0<=m.entries
 e1:m.entries<=255
structure TOk (f:RFn) (o:FOut):Prop where
 fit:∀ i∈o.ls,i.Fit
 al:o.ats.length=o.ls.length
 ab:∀ a∈o.ats,0<=a/\a<f.slots
 jl:∀ i∈o.ls,sortM i.word=106->0<=labelM i.label o.lab/\labelM i.label o.lab<f.slots
 sl:f.slots<=200
 ll:o.ls.length<=200
 lb:o.lab.length<=200
 nm:f.name.size<=300
theorem label_fit (i:RIns) (h:i.Fit) (x:ByteArray) (hx:x.size<=100):RIns.Fit { i with label:=x } :=
 ⟨h.d0,h.d1,h.s1,h.s0,h.j0,h.j1,h.n0,h.n1,h.word,hx,h.name,h.is32,h.sort⟩
theorem rnm_size (s:ByteArray) (r:RS):(rnm s r).1.size<=255:=by
 have h:=rb_le s r
 unfold rnm
 dsimp only
 split
 ·show ByteArray.empty.size<=255
  decide
 ·show (s.extract _ _).size<=255
  rw [ByteArray.size_extract];omega
theorem rdMaps_ok (s:ByteArray):∀ (n:Nat) (r:RS) (acc:List RMap),(∀ m∈acc,MOk m)->∀ m∈(rdMaps s n r acc).1,MOk m
 | 0,_,_,h=>h
 | n+1,r,acc,h=>by
  rw [rdMaps]
  split
  ·exact h
  ·refine rdMaps_ok s n _ _ (fun m hm=>?_)
   rcases List.mem_append.1 hm with hm | hm
   ·exact h m hm
   ·rw [List.mem_singleton.1 hm]
    have h1:=rnm_size s r
    have h2:=rb_le s (rnm s r).2
    have h3:=rb_le s (rb s (rnm s r).2).2
    have h4:=rb_le s (rb s (rb s (rnm s r).2).2).2
    exact ⟨by show (rnm s r).1.size<=300;omega,by simp,by show ((rb s (rnm s r).2).1:Int)<=255;omega,by simp,by show ((rb s (rb s (rnm s r).2).2).1:Int)<=255;omega,by simp,by show ((rb s (rb s (rb s (rnm s r).2).2).2).1:Int)<=255;omega⟩
theorem rdFns_ok (s:ByteArray):∀ (n:Nat) (r:RS) (acc:List RFn) (t:Nat),(∀ f∈acc,f.name.size<=300)->∀ f∈(rdFns s n r acc t).1,f.name.size<=300
 | 0,_,_,_,h=>h
 | n+1,r,acc,t,h=>by
  rw [rdFns]
  split
  ·exact h
  ·refine rdFns_ok s n _ _ _ (fun f hf=>?_)
   rcases List.mem_append.1 hf with hf | hf
   ·exact h f hf
   ·rw [List.mem_singleton.1 hf]
    have:=rnm_size s r
    show (rnm s r).1.size<=300;omega
theorem bodyL_lt (s:ByteArray) (slots:Nat):∀ (f:Nat) (r:RS) (p:Nat) (ls:List RIns) (ats js:List Int) (b:BOut),bodyL s slots f r p ls ats js=some b->(∀ x∈ats,x<(slots:Int))->∀ x∈b.ats,x<(slots:Int)
 | 0,_,_,_,_,_,_,h,_=>by cases h
 | f+1,r,p,ls,ats,js,b,h,g=>by
  rw [bodyL] at h
  split at h
  ·rename_i hp
   split at h
   ·cases h
   ·split at h
    ·cases h
    ·refine bodyL_lt s slots f _ _ _ _ _ b h (fun x hx=>?_)
     rcases List.mem_append.1 hx with hx | hx
     ·exact g x hx
     ·rw [List.mem_singleton.1 hx];omega
  ·cases h;exact g
theorem labelM_mem (nm:ByteArray):∀ (l:Labs),(∃ p,(nm,p)∈l)->∃ p,(nm,p)∈l/\labelM nm l=p
 | [],h=>by obtain ⟨p,hp⟩:=h;cases hp
 | (a,b)::l,h=>by
  rw [labelM]
  by_cases e:a=nm
  ·rw [if_pos e];subst e;exact ⟨b,by simp,rfl⟩
  ·rw [if_neg e];obtain ⟨p,hp⟩:=h
   rcases List.mem_cons.1 hp with hp | hp
   ·cases hp;exact absurd rfl e
   ·obtain ⟨p',h1,h2⟩:=labelM_mem nm l ⟨p,hp⟩
    exact ⟨p',List.mem_cons_of_mem _ h1,h2⟩
theorem labelM_or (nm:ByteArray):∀ (l:Labs),labelM nm l<0\/∃ p,(nm,p)∈l
 | []=>.inl (by rw [labelM];omega)
 | (a,b)::l=>by
  by_cases e:a=nm
  ·subst e;exact .inr ⟨b,by simp⟩
  ·rw [labelM,if_neg e]
   rcases labelM_or nm l with h | ⟨p,h⟩
   ·exact .inl h
   ·exact .inr ⟨p,List.mem_cons_of_mem _ h⟩
theorem labName_size (p:Int):(labName p).size<=100:=by
 have:=decM_len p.toNat
 rw [labName,T_size,List.length_cons];omega
structure LabOk (ats:List Int) (ls:List RIns) (lab:Labs):Prop where
 f:∀ i∈ls,i.Fit
 p:∀ x∈lab,x.2∈ats
 l:∀ i∈ls,sortM i.word=106->∃ p,(i.label,p)∈lab
 n:lab.length<=ls.length
theorem labG_ok (ats:List Int):∀ (rest:List (RIns × Int × Int)) (done:List RIns) (lab:Labs) (o:List RIns × Labs),labG ats done rest lab=some o->LabOk ats done lab->(∀ x∈rest,x.1.Fit)->LabOk ats o.1 o.2
 | [],done,lab,o,h,g,_=>by rw [labG] at h;cases h;exact g
 | (i,a,j)::rest,done,lab,o,h,g,hr=>by
  have hi:i.Fit:=hr (i,a,j) (by simp)
  have hr':∀ x∈rest,x.1.Fit:=fun x hx=>hr x (List.mem_cons_of_mem _ hx)
  rw [labG] at h
  split at h
  ·rename_i hs
   split at h
   ·rename_i hm
    generalize a+(slotsI i.word:Int)+j=t at *
    refine labG_ok ats rest _ _ o h ⟨?_,?_,?_,?_⟩ hr'
    ·intro x hx
     rcases List.mem_append.1 hx with hx | hx
     ·exact g.f x hx
     ·rw [List.mem_singleton.1 hx];exact label_fit i hi _ (labName_size t)
    ·intro x hx
     split at hx
     ·rcases List.mem_append.1 hx with hx | hx
      ·exact g.p x hx
      ·rw [List.mem_singleton.1 hx];exact hm
     ·exact g.p x hx
    ·intro x hx hsx
     rcases List.mem_append.1 hx with hx | hx
     ·obtain ⟨p,hp⟩:=g.l x hx hsx
      refine ⟨p,?_⟩
      split
      ·exact List.mem_append_left _ hp
      ·exact hp
     ·rw [List.mem_singleton.1 hx]
      split
      ·exact ⟨t,List.mem_append_right _ (List.mem_singleton.2 rfl)⟩
      ·rename_i hn
       rcases labelM_or (labName t) lab with h1 | ⟨p,h1⟩
       ·exact absurd h1 hn
       ·exact ⟨p,h1⟩
    ·have:=g.n
     split
     ·simp;exact this
     ·simp;omega
   ·cases h
  ·refine labG_ok ats rest _ _ o h ⟨?_,g.p,?_,?_⟩ hr'
   ·intro x hx
    rcases List.mem_append.1 hx with hx | hx
    ·exact g.f x hx
    ·rw [List.mem_singleton.1 hx];exact hi
   ·rename_i hs
    intro x hx hsx
    rcases List.mem_append.1 hx with hx | hx
    ·exact g.l x hx hsx
    ·rw [List.mem_singleton.1 hx] at hsx;exact absurd hsx hs
   ·have:=g.n;simp;omega
structure FOk (slots:Nat) (o:FOut):Prop where
 fit:∀ i∈o.ls,i.Fit
 al:o.ats.length=o.ls.length
 ab:∀ a∈o.ats,0<=a/\a<(slots:Int)
 jl:∀ i∈o.ls,sortM i.word=106->0<=labelM i.label o.lab/\labelM i.label o.lab<(slots:Int)
 ll:o.ls.length<=200
 lb:o.lab.length<=200
theorem body_fok (s:ByteArray) (slots:Nat) (r:RS) (o:FOut) (h:bodyM s slots r=some o) (hr:r.pos<=s.size) (hs:slots<=200):FOk slots o:=by
 have hk:=body_ok s slots r o h hr hs
 unfold bodyM at h
 split at h
 ·cases h
 ·rename_i b hb
  split at h
  ·cases h
  ·rename_i hc
   split at h
   ·cases h
   ·rename_i q hq
    cases h
    have h1:=bodyL_pos s slots _ _ _ _ _ _ b hb hr (by simp)
    have g:=bodyL_good s slots _ _ _ _ _ _ b hb (good_nil slots)
    have hlt:=bodyL_lt s slots _ _ _ _ _ _ b hb (fun x hx=>by cases hx)
    have h2:=labG_len _ _ _ _ q hq
    have hz:(zip3 b.ls b.ats b.js).length=b.ls.length:=by
     have:=g.al;have:=g.jl
     simp [zip3];omega
    have hp:b.pos=slots:=by
     by_cases e:b.pos=slots
     ·exact e
     ·exact absurd (.inl e) hc
    have hl:=labG_ok b.ats _ _ _ q hq ⟨fun _ h=>(by cases h),fun _ h=>(by cases h),fun _ h=>(by cases h),by simp⟩ (fun x hx=>g.f x.1 (List.of_mem_zip hx).1)
    have hll:q.1.length<=200:=by rw [h2,hz];simp;omega
    refine ⟨hl.f,hk.2.2,fun a ha=>⟨(g.a a ha).1,hlt a ha⟩,fun i hi hsi=>?_,hll,Nat.le_trans hl.n hll⟩
    obtain ⟨p,hp1,hp2⟩:=labelM_mem i.label q.2 (hl.l i hi hsi)
    have:=hl.p _ hp1
    rw [show labelM i.label q.2=p from hp2]
    exact ⟨(g.a p this).1,hlt p this⟩
theorem name_fit2 (i:RIns) (h:i.Fit) (x:ByteArray) (hx:x.size<=300):RIns.Fit { i with name:=x } :=
 ⟨h.d0,h.d1,h.s1,h.s0,h.j0,h.j1,h.n0,h.n1,h.word,h.label,hx,h.is32,h.sort⟩
theorem refI_ok (s:ByteArray) (ms:List RMap) (i:Nat) (P:RIns->Prop) (hP:∀ x (n:ByteArray),n.size<=300->P x->P { x with name:=n }):∀ (rest:List (RIns × Int)) (done:List RIns) (c:Nat) (r:RS) (o:List RIns × Nat × RS),refI s ms i done rest c r=some o->(∀ x∈done,P x)->(∀ x∈rest,P x.1)->(∀ x∈o.1,P x)/\o.1.length=done.length+rest.length
 | [],done,c,r,o,h,h1,_=>by rw [refI] at h;cases h;exact ⟨h1,by simp⟩
 | (x,a)::rest,done,c,r,o,h,h1,h2=>by
  have hx:P x:=h2 (x,a) (by simp)
  have hr:∀ y∈rest,P y.1:=fun y hy=>h2 y (List.mem_cons_of_mem _ hy)
  rw [refI] at h
  split at h
  ·split at h
   ·cases h
   ·split at h
    ·cases h
    ·have:=refI_ok s ms i P hP rest _ _ _ o h (fun y hy=>by
      rcases List.mem_append.1 hy with hy | hy
      ·exact h1 y hy
      ·rw [List.mem_singleton.1 hy];exact hP x _ (by have:=rnm_size s (rw2 s (rb s r).2).2;omega) hx) hr
     exact ⟨this.1,by rw [this.2];simp;omega⟩
  ·have:=refI_ok s ms i P hP rest _ _ _ o h (fun y hy=>by
    rcases List.mem_append.1 hy with hy | hy
    ·exact h1 y hy
    ·rw [List.mem_singleton.1 hy];exact hx) hr
   exact ⟨this.1,by rw [this.2];simp;omega⟩
theorem refI_fok (s:ByteArray) (ms:List RMap) (i slots:Nat) (o:FOut) (c:Nat) (r:RS) (q:List RIns × Nat × RS) (g:FOk slots o) (h:refI s ms i [] (o.ls.zip o.ats) c r=some q):FOk slots { o with ls:=q.1 }:=by
 have hz:(o.ls.zip o.ats).length=o.ls.length:=by have:=g.al;simp;omega
 have:=refI_ok s ms i (fun x=>x.Fit/\(sortM x.word=106->0<=labelM x.label o.lab/\labelM x.label o.lab<(slots:Int))) (fun x n hn hx=>⟨name_fit2 x hx.1 n hn,hx.2⟩) _ _ _ _ q h (fun x hx=>by cases hx) (fun x hx=>⟨g.fit _ (List.of_mem_zip hx).1,g.jl _ (List.of_mem_zip hx).1⟩)
 have hl:q.1.length=o.ls.length:=by rw [this.2,hz];simp
 exact ⟨fun x hx=>(this.1 x hx).1,by show o.ats.length=q.1.length;rw [hl];exact g.al,g.ab,fun x hx=>(this.1 x hx).2,by show q.1.length<=200;rw [hl];exact g.ll,g.lb⟩
def All2 (P:RFn->FOut->Prop):List RFn->List FOut->Prop
 | [],[]=>True
 | f::fs,o::os=>P f o/\All2 P fs os
 | _,_=>False
theorem All2.get {P:RFn->FOut->Prop}:∀ {fs:List RFn} {os:List FOut},All2 P fs os->∀ i (h:i<fs.length) (h':i<os.length),P fs[i] os[i]
 | [],_,_,_,h,_=>by simp at h
 | _::_,_::_,h,0,_,_=>h.1
 | _::_,_::_,h,i+1,h1,h2=>h.2.get i (by simpa using h1) (by simpa using h2)
 | _::_,[],h,_,_,_=>h.elim
theorem All2.snoc {P:RFn->FOut->Prop}:∀ {fs:List RFn} {os:List FOut},All2 P fs os->∀ (f:RFn) (o:FOut),P f o->All2 P (fs++[f]) (os++[o])
 | [],[],_,_,_,h=>⟨h,trivial⟩
 | _::_,_::_,h,f,o,hp=>⟨h.1,h.2.snoc f o hp⟩
 | [],_::_,h,_,_,_=>h.elim
 | _::_,[],h,_,_,_=>h.elim
theorem rdBodies_ok (s:ByteArray):∀ (l:List RFn) (r:RS) (acc:List FOut) (o:List FOut × RS) (d:List RFn),rdBodies s l r acc=some o->r.pos<=s.size->(∀ f∈l,f.slots<=200)->All2 (fun f o=>FOk f.slots o) d acc->All2 (fun f o=>FOk f.slots o) (d++l) o.1
 | [],r,acc,o,d,h,_,_,g=>by rw [rdBodies] at h;cases h;simpa using g
 | f::l,r,acc,o,d,h,hp,hs,g=>by
  rw [rdBodies] at h
  split at h
  ·cases h
  ·rename_i x hx
   have hfs:=hs f (by simp)
   have h1:=body_fok s f.slots r x hx hp hfs
   have h2:=body_ok s f.slots r x hx hp hfs
   have:=rdBodies_ok s l x.r (acc++[x]) o (d++[f]) h h2.1 (fun y hy=>hs y (List.mem_cons_of_mem _ hy)) (g.snoc f x h1)
   simpa using this
theorem All2.split {P:RFn->FOut->Prop}:∀ {fs:List RFn} {d:List FOut} {o:FOut} {l:List FOut},All2 P fs (d++o::l)->∀ o',(∀ f,P f o->P f o')->All2 P fs (d++o'::l)
 | [],[],_,_,h,_,_=>h.elim
 | _::_,[],_,_,h,_,hp=>⟨hp _ h.1,h.2⟩
 | [],_::_,_,_,h,_,_=>h.elim
 | _::_,_::_,_,_,h,o',hp=>⟨h.1,h.2.split o' hp⟩
theorem refF_ok (s:ByteArray) (ms:List RMap) (fs:List RFn):∀ (rest done:List FOut) (c:Nat) (r:RS) (o:List FOut × Nat × RS),refF s ms done rest c r=some o->All2 (fun f o=>FOk f.slots o) fs (done++rest)->All2 (fun f o=>FOk f.slots o) fs o.1
 | [],done,c,r,o,h,g=>by rw [refF] at h;cases h;simpa using g
 | x::rest,done,c,r,o,h,g=>by
  rw [refF] at h
  split at h
  ·cases h
  ·rename_i ls c' r' hq
   refine refF_ok s ms fs rest _ _ _ o h ?_
   have:=g.split { x with ls:=ls } (fun f hf=>refI_fok s ms _ f.slots x c r _ hf hq)
   simpa using this
structure OpenOk (ms:List RMap) (fs:List RFn) (os:List FOut):Prop where
 m:∀ x∈ms,MOk x
 ml:ms.length<=8
 fl:fs.length<=16
 n:∀ f∈fs,f.name.size<=300
 s:∀ f∈fs,f.slots<=200
 a:All2 (fun f o=>FOk f.slots o) fs os
theorem rdFns_pos (s:ByteArray):∀ (n:Nat) (r:RS) (acc:List RFn) (t:Nat),r.pos<=s.size->(rdFns s n r acc t).2.2.pos<=s.size
 | 0,_,_,_,h=>h
 | n+1,r,acc,t,h=>by
  rw [rdFns]
  split
  ·exact h
  ·exact rdFns_pos s n _ _ _ (rw2_pos s _ (rnm_pos s r h))
theorem rdMaps_pos (s:ByteArray):∀ (n:Nat) (r:RS) (acc:List RMap),r.pos<=s.size->(rdMaps s n r acc).2.pos<=s.size
 | 0,_,_,h=>h
 | n+1,r,acc,h=>by
  rw [rdMaps]
  split
  ·exact h
  ·exact rdMaps_pos s n _ _ (rb_pos s _ (rb_pos s _ (rb_pos s _ (rnm_pos s r h))))
theorem open_ok (s:ByteArray) (o:List RMap × List RFn × List FOut) (h:openM s=some o):OpenOk o.1 o.2.1 o.2.2:=by
 unfold openM at h
 split at h
 ·cases h
 rename_i hc
 dsimp only at h
 have h5:(⟨5,false⟩:RS).pos<=s.size:=by show 5<=s.size;omega
 have p1:=rb_pos s _ h5
 have p2:=rdMaps_pos s (rb s ⟨5,false⟩).1 _ [] p1
 have p3:=rb_pos s _ p2
 have hm:=rdMaps_ok s (rb s ⟨5,false⟩).1 (rb s ⟨5,false⟩).2 [] (fun m hm=>by cases hm)
 generalize rdMaps s (rb s ⟨5,false⟩).1 (rb s ⟨5,false⟩).2 []=M at *;obtain ⟨ms,r1⟩:=M
 dsimp only at *
 have p4:=rdFns_pos s (rb s r1).1 (rb s r1).2 [] 0 p3
 have hn:=rdFns_ok s (rb s r1).1 (rb s r1).2 [] 0 (fun f hf=>by cases hf)
 have hl:=rdFns_le s (rb s r1).1 (rb s r1).2 [] 0 (fun f hf=>by cases hf)
 generalize rdFns s (rb s r1).1 (rb s r1).2 [] 0=F at *;obtain ⟨fs,t,r2⟩:=F
 dsimp only at *
 unfold openMid at h
 split at h
 ·cases h
 rename_i hc2
 have hri:risingM ms fs=true:=by
  cases e:risingM ms fs with
  | true=>rfl
  | false=>exact absurd (.inr (.inl e)) hc2
 have ht:t<=200:=by
  rcases Nat.lt_or_ge 200 t with e | e
  ·exact absurd (.inr (.inr e)) hc2
  ·exact e
 have hsl:∀ f∈fs,f.slots<=200:=fun f hf=>Nat.le_trans (hl f hf) ht
 split at h
 ·cases h
 rename_i os r3 hb
 have hA:=rdBodies_ok s fs r2 [] _ [] hb p4 hsl trivial
 split at h
 ·cases h
 rename_i os' r4 hr
 split at h
 ·cases h
  have hB:All2 (fun f o=>FOk f.slots o) fs os':=by
   unfold refsM at hr
   split at hr
   ·cases hr
   ·rename_i os2 c r5 hq
    split at hr
    ·cases hr
     exact refF_ok s ms fs os [] 0 _ _ hq (by simpa using hA)
    ·cases hr
  refine ⟨hm,?_,?_,hn,hsl,hB⟩
  ·show ms.length<=8
   simp [risingM] at hri;omega
  ·show fs.length<=16
   simp [risingM] at hri;omega
 ·cases h
end Go.Proofs.YtoknbkfclhmapaaGreatDoor
