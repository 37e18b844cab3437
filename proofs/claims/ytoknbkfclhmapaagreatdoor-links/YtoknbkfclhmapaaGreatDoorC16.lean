import Derived.Test.YtoknbkfclhmapaaGreatDoorC14
import Derived.Test.YtoknbkfclhmapaaGreatDoorC04
import Derived.Test.YtoknbkfclhmapaaGreatDoorC10
namespace Go.Proofs.YtoknbkfclhmapaaGreatDoor
open Go.RowKit
def RIns.cellsL (i:RIns):List Value:=i.cells.toList
theorem RIns.cellsL_len (i:RIns):i.cellsL.length=8:=rfl
def insL (l:List RIns):List Value:=l.flatMap RIns.cellsL
def nameIns (o:InsOut):Option RIns :=
 if o.jump=1/\(o.i.word=WIDE\/o.i.word=CALL) then (if o.num≠0 then none else some { o.i with s:=0,name:=T [63] }) else some o.i
structure BOut where
 ls:List RIns
 ats:List Int
 js:List Int
 r:RS
 pos:Nat
def bodyL (s:ByteArray) (slots:Nat):Nat->RS->Nat->List RIns->List Int->List Int->Option BOut
 | 0,_,_,_,_,_=>none
 | f+1,r,p,ls,ats,js =>
  if p<slots then
   (if (insM s r).ok=false\/(insM s r).r.bad=true then none
   else match nameIns (insM s r) with
    | none=>none
    | some i=>bodyL s slots f (insM s r).r (p+slotsI i.word) (ls++[i]) (ats++[(p:Int)]) (js++[(insM s r).jump]))
  else some ⟨ls,ats,js,r,p⟩
structure BInv (w0:World) (fb rb off:Nat) (cs:Array Value) (s:ByteArray) (r:RS) (ls:List RIns) (ats js:List Int) (vL vA vJ:Value) (w:World):Prop where
 rd:RdAt w rb s r
 fn:Blk w fb ((cs.setIfInBounds (off+1) vL).setIfInBounds (off+2) vA) 46
 sl:Sl w 51 8 vL ls.length (insL ls)
 sa:Sl w 3 1 vA ats.length (intL ats)
 sj:Sl w 3 1 vJ js.length (intL js)
 fl:∀ k,vL.ownBlock=some k->w0.heap.size<=k
 fa:∀ k,vA.ownBlock=some k->w0.heap.size<=k
 fj:∀ k,vJ.ownBlock=some k->w0.heap.size<=k
 la:∀ k,vL.ownBlock=some k->vA.ownBlock≠some k
 lj:∀ k,vL.ownBlock=some k->vJ.ownBlock≠some k
 aj:∀ k,vA.ownBlock=some k->vJ.ownBlock≠some k
 md:Mods (fun k=>k=fb\/k=rb) w0 w
section
variable {w0 w w' : World} {fb rb off : Nat} {cs : Array Value} {s : ByteArray} {r r' : RS} {ls : List RIns} {ats js : List Int} {vL vA vJ : Value}
theorem BInv.quiet (h:BInv w0 fb rb off cs s r ls ats js vL vA vJ w) (m:Mods Nil' w w'):BInv w0 fb rb off cs s r ls ats js vL vA vJ w' :=
 ⟨Blk.mods h.rd m (fun e=>e),h.fn.mods m (fun e=>e),h.sl.mods m (fun _ _ e=>e),h.sa.mods m (fun _ _ e=>e),h.sj.mods m (fun _ _ e=>e),h.fl,h.fa,h.fj,h.la,h.lj,h.aj,h.md.trans m.of_nil⟩
theorem BInv.read (h:BInv w0 fb rb off cs s r ls ats js vL vA vJ w) (hr:rb<w0.heap.size) (hne:fb≠rb) (m:Mods (Only rb) w w') (hr':RdAt w' rb s r'):BInv w0 fb rb off cs s r' ls ats js vL vA vJ w' :=
 ⟨hr',h.fn.mods m hne,h.sl.mods m (fun k hk e=>by have:=h.fl k hk;rw [show k=rb from e] at this;omega),h.sa.mods m (fun k hk e=>by have:=h.fa k hk;rw [show k=rb from e] at this;omega),
  h.sj.mods m (fun k hk e=>by have:=h.fj k hk;rw [show k=rb from e] at this;omega),h.fl,h.fa,h.fj,h.la,h.lj,h.aj,h.md.step m (fun k _ e=>.inr e)⟩
theorem BInv.appL (h:BInv w0 fb rb off cs s r ls ats js vL vA vJ w) (hf:fb<w0.heap.size) (hr:rb<w0.heap.size) (hne:fb≠rb) {i:RIns} {v':Value} (sl:Sl w' 51 8 v' (ls.length+1) (insL ls++i.cellsL))
  (m:Mods (fun k=>vL.ownBlock=some k) w w') (loc:∀ k,v'.ownBlock=some k->vL.ownBlock=some k\/w.heap.size<=k) :
  BInv w0 fb rb off cs s r (ls++[i]) ats js v' vA vJ (w'.setCell ⟨fb,off+1,none⟩ v'):=by
 have hfr:¬ vL.ownBlock=some fb:=fun e=>by have:=h.fl _ e;omega
 have hrr:¬ vL.ownBlock=some rb:=fun e=>by have:=h.fl _ e;omega
 have hsz:=h.md.size
 have nfl:∀ k,v'.ownBlock=some k->w0.heap.size<=k:=fun k hk=>(loc k hk).elim (h.fl k) (fun e=>by omega)
 have hms:Mods (Only fb) w' (w'.setCell ⟨fb,off+1,none⟩ v'):=(Mods.refl (Only fb) w').setb (off+1) v'
 refine ⟨?_,?_,?_,?_,?_,nfl,h.fa,h.fj,?_,?_,h.aj,?_⟩
 ·exact (Blk.mods h.rd m hrr).setOther (a:=⟨fb,off+1,none⟩) hne _
 ·have h1:=(h.fn.mods m hfr).set (off+1) v'
  have e:((cs.setIfInBounds (off+1) vL).setIfInBounds (off+2) vA).setIfInBounds (off+1) v'=(cs.setIfInBounds (off+1) v').setIfInBounds (off+2) vA:=by
   rw [Array.setIfInBounds_comm _ _ (by omega),Array.setIfInBounds_setIfInBounds,Array.setIfInBounds_comm _ _ (by omega)]
  rw [e] at h1;exact h1
 ·have e:insL (ls++[i])=insL ls++i.cellsL:=by simp [insL]
  rw [List.length_append,e]
  exact sl.mods hms (fun k hk e=>by have:=nfl k hk;rw [show k=fb from e] at this;omega)
 ·exact (h.sa.mods m (fun k hk e=>h.la k e hk)).mods hms (fun k hk e=>by have:=h.fa k hk;rw [show k=fb from e] at this;omega)
 ·exact (h.sj.mods m (fun k hk e=>h.lj k e hk)).mods hms (fun k hk e=>by have:=h.fj k hk;rw [show k=fb from e] at this;omega)
 ·exact fun k hk e=>(loc k hk).elim (fun e1=>h.la k e1 e) (fun e1=>by have:=h.sa.lt k e;omega)
 ·exact fun k hk e=>(loc k hk).elim (fun e1=>h.lj k e1 e) (fun e1=>by have:=h.sj.lt k e;omega)
 ·exact (h.md.step m (fun k hk e=>by have:=h.fl k e;omega)).set (a:=⟨fb,off+1,none⟩) (.inl (.inl rfl)) _
theorem BInv.appA (h:BInv w0 fb rb off cs s r ls ats js vL vA vJ w) (hf:fb<w0.heap.size) (hr:rb<w0.heap.size) (hne:fb≠rb) {i:Int} {v':Value} (sl:Sl w' 3 1 v' (ats.length+1) (intL ats++[.int .i64 i]))
  (m:Mods (fun k=>vA.ownBlock=some k) w w') (loc:∀ k,v'.ownBlock=some k->vA.ownBlock=some k\/w.heap.size<=k) :
  BInv w0 fb rb off cs s r ls (ats++[i]) js vL v' vJ (w'.setCell ⟨fb,off+2,none⟩ v'):=by
 have hfr:¬ vA.ownBlock=some fb:=fun e=>by have:=h.fa _ e;omega
 have hrr:¬ vA.ownBlock=some rb:=fun e=>by have:=h.fa _ e;omega
 have hsz:=h.md.size
 have nfl:∀ k,v'.ownBlock=some k->w0.heap.size<=k:=fun k hk=>(loc k hk).elim (h.fa k) (fun e=>by omega)
 have hms:Mods (Only fb) w' (w'.setCell ⟨fb,off+2,none⟩ v'):=(Mods.refl (Only fb) w').setb (off+2) v'
 refine ⟨?_,?_,?_,?_,?_,h.fl,nfl,h.fj,?_,h.lj,?_,?_⟩
 ·exact (Blk.mods h.rd m hrr).setOther (a:=⟨fb,off+2,none⟩) hne _
 ·have h1:=(h.fn.mods m hfr).set (off+2) v'
  rw [Array.setIfInBounds_setIfInBounds] at h1;exact h1
 ·exact (h.sl.mods m (fun k hk e=>h.la k hk e)).mods hms (fun k hk e=>by have:=h.fl k hk;rw [show k=fb from e] at this;omega)
 ·have e:intL (ats++[i])=intL ats++[.int .i64 i]:=by simp [intL]
  rw [List.length_append,e]
  exact sl.mods hms (fun k hk e=>by have:=nfl k hk;rw [show k=fb from e] at this;omega)
 ·exact (h.sj.mods m (fun k hk e=>h.aj k e hk)).mods hms (fun k hk e=>by have:=h.fj k hk;rw [show k=fb from e] at this;omega)
 ·exact fun k hk e=>(loc k e).elim (fun e1=>h.la k hk e1) (fun e1=>by have:=h.sl.lt k hk;omega)
 ·exact fun k hk e=>(loc k hk).elim (fun e1=>h.aj k e1 e) (fun e1=>by have:=h.sj.lt k e;omega)
 ·exact (h.md.step m (fun k hk e=>by have:=h.fa k e;omega)).set (a:=⟨fb,off+2,none⟩) (.inl (.inl rfl)) _
theorem BInv.appJ (h:BInv w0 fb rb off cs s r ls ats js vL vA vJ w) (hf:fb<w0.heap.size) (hr:rb<w0.heap.size) {i:Int} {v':Value} (sl:Sl w' 3 1 v' (js.length+1) (intL js++[.int .i64 i]))
  (m:Mods (fun k=>vJ.ownBlock=some k) w w') (loc:∀ k,v'.ownBlock=some k->vJ.ownBlock=some k\/w.heap.size<=k) :
  BInv w0 fb rb off cs s r ls ats (js++[i]) vL vA v' w':=by
 have hfr:¬ vJ.ownBlock=some fb:=fun e=>by have:=h.fj _ e;omega
 have hrr:¬ vJ.ownBlock=some rb:=fun e=>by have:=h.fj _ e;omega
 have hsz:=h.md.size
 have nfl:∀ k,v'.ownBlock=some k->w0.heap.size<=k:=fun k hk=>(loc k hk).elim (h.fj k) (fun e=>by omega)
 refine ⟨?_,?_,?_,?_,?_,h.fl,h.fa,nfl,h.la,?_,?_,?_⟩
 ·exact Blk.mods h.rd m hrr
 ·exact h.fn.mods m hfr
 ·exact h.sl.mods m (fun k hk e=>h.lj k hk e)
 ·exact h.sa.mods m (fun k hk e=>h.aj k hk e)
 ·have e:intL (js++[i])=intL js++[.int .i64 i]:=by simp [intL]
  rw [List.length_append,e];exact sl
 ·exact fun k hk e=>(loc k e).elim (fun e1=>h.lj k hk e1) (fun e1=>by have:=h.sl.lt k hk;omega)
 ·exact fun k hk e=>(loc k e).elim (fun e1=>h.aj k hk e1) (fun e1=>by have:=h.sa.lt k hk;omega)
 ·exact h.md.step m (fun k hk e=>by have:=h.fj k e;omega)
theorem BInv.cells (h:BInv w0 fb rb off cs s r ls ats js vL vA vJ w) (hs:off+8<=cs.size) :
  w.cell? ⟨fb,off+1,none⟩=some vL/\w.cell? ⟨fb,off+2,none⟩=some vA/\(∀ j,j<8->j≠1->j≠2->w.cell? ⟨fb,off+j,none⟩=cs[off+j]?)/\∀ j,w.frozen? ⟨fb,j,none⟩=false:=by
 refine ⟨?_,?_,?_,h.fn.frozen⟩
 ·rw [h.fn.cell,Array.getElem?_setIfInBounds_ne (by omega),Array.getElem?_setIfInBounds_self_of_lt (by omega)]
 ·rw [h.fn.cell,Array.getElem?_setIfInBounds_self_of_lt (by simp;omega)]
 ·intro j hj h1 h2
  rw [h.fn.cell,Array.getElem?_setIfInBounds_ne (by omega),Array.getElem?_setIfInBounds_ne (by omega)]
theorem BInv.mid (h:BInv w0 fb rb off cs s r ls ats js vL vA vJ w) (hs:off+8<=cs.size) (hf:fb<w0.heap.size) {v:Value} (hv:v=vL\/v=vA) {w1:World} (m1:Mods Nil' w w1) (m:Mods (fun k=>v.ownBlock=some k) w1 w') :
  w'.cell? ⟨fb,off+1,none⟩=some vL/\w'.cell? ⟨fb,off+2,none⟩=some vA/\∀ j,w'.frozen? ⟨fb,j,none⟩=false:=by
 have hb:¬ v.ownBlock=some fb:=by
  rcases hv with rfl | rfl
  ·exact fun e=>by have:=h.fl _ e;omega
  ·exact fun e=>by have:=h.fa _ e;omega
 have h1:=(h.fn.mods m1 (fun e=>e)).mods m hb
 refine ⟨?_,?_,h1.frozen⟩
 ·rw [h1.cell,Array.getElem?_setIfInBounds_ne (by omega),Array.getElem?_setIfInBounds_self_of_lt (by omega)]
 ·rw [h1.cell,Array.getElem?_setIfInBounds_self_of_lt (by simp;omega)]
end
theorem info_ins:(Tryz.prog.info? 51).map (fun i=>(i.zero,i.size,i.bytes))=some (some (.agg (RIns.cells {})),8,88):=by kernel_rfl
theorem info_int:(Tryz.prog.info? 3).map (fun i=>(i.zero,i.size,i.bytes))=some (some (.int .i64 0),1,8):=by kernel_rfl
theorem news_cells (w:World) (cs:Array Value) (t:TypeId) (b:Nat) (hb:b=w.heap.size):∀ j u,cs.toList[j]?=some u->(w.alloc (.cells cs t)).cell? ((⟨b,0,none⟩:Addr).add j)=some u:=by
 intro j u h;subst hb
 have hadd:(⟨w.heap.size,0,none⟩:Addr).add j=⟨w.heap.size,j,none⟩:=by unfold Addr.add;split<;>simp_all
 rw [hadd,(Blk.new w cs t).cell j];simpa using h
theorem slotsI_le (x:ByteArray):1<=slotsI x/\slotsI x<=2:=by
 unfold slotsI;split<;>omega
theorem int_one (x:Int):∀ u∈[Value.int .i64 x],u.oneCell'=true:=by
 intro u hu;simp at hu;subst hu;rfl
theorem ins_one (i:RIns):∀ u∈i.cellsL,u.oneCell'=true:=by
 intro u hu
 simp only [RIns.cellsL,RIns.cells,List.mem_cons,List.not_mem_nil,or_false] at hu
 rcases hu with rfl | rfl | rfl | rfl | rfl | rfl | rfl | rfl<;>rfl
theorem info_str:(Tryz.prog.info? 9).map (fun i=>(i.zero,i.size,i.bytes))=some (some (.string ByteArray.empty),1,16):=by kernel_rfl
theorem str_one (x:ByteArray):∀ u∈[Value.string x],u.oneCell'=true:=by
 intro u hu;simp at hu;subst hu;rfl
theorem Sl.at8 {w:World} {g n cap:Nat} {ls:List RIns} (h:Sl w 51 8 (.slice (some ⟨g,0,none⟩) n cap) n (insL ls)) (hn:n=ls.length) (k:Nat) (hk:k<ls.length) :
  w.cell? ⟨g,k*8,none⟩=some (.string ls[k].word)/\w.cell? ⟨g,k*8+1,none⟩=some (.bool ls[k].is32)/\w.cell? ⟨g,k*8+2,none⟩=some (.int .i64 ls[k].d)/\w.cell? ⟨g,k*8+3,none⟩=some (.int .i64 ls[k].s) /\
  w.cell? ⟨g,k*8+4,none⟩=some (.int .i64 ls[k].jump)/\w.cell? ⟨g,k*8+5,none⟩=some (.int .u64 ls[k].n)/\w.cell? ⟨g,k*8+6,none⟩=some (.string ls[k].label)/\w.cell? ⟨g,k*8+7,none⟩=some (.string ls[k].name)/\∀ j,w.frozen? ⟨g,j,none⟩=false:=by
 obtain ⟨o',cap',hv,h2⟩:=h.view
 cases hv
 obtain ⟨g',cs,he,hb,ht,_⟩:=h2 (by omega)
 cases he
 subst hn
 have key:∀ j,j<8->w.cell? ⟨g,k*8+j,none⟩=(RIns.cellsL ls[k])[j]?:=by
  intro j hj
  rw [take_cell hb ht _ (by omega)]
  exact flat_get RIns.cellsL 8 RIns.cellsL_len ls k j hk hj
 exact ⟨key 0 (by omega),key 1 (by omega),key 2 (by omega),key 3 (by omega),key 4 (by omega),key 5 (by omega),key 6 (by omega),key 7 (by omega),hb.frozen⟩
abbrev Labs:=List (ByteArray × Int)
def labName (p:Int):ByteArray:=T (108::decM p.toNat)
def labG (ats:List Int):List RIns->List (RIns × Int × Int)->Labs->Option (List RIns × Labs)
 | done,[],lab=>some (done,lab)
 | done,(i,a,j)::rest,lab =>
  if sortM i.word=106 then
   (if (a+(slotsI i.word:Int)+j)∈ats then
    labG ats (done++[{ i with label:=labName (a+(slotsI i.word:Int)+j) }]) rest
     (if labelM (labName (a+(slotsI i.word:Int)+j)) lab<0 then lab++[(labName (a+(slotsI i.word:Int)+j),a+(slotsI i.word:Int)+j)] else lab)
   else none)
  else labG ats (done++[i]) rest lab
def zip3 (ls:List RIns) (ats js:List Int):List (RIns × Int × Int):=ls.zip (ats.zip js)
structure LabAt (w0:World) (fb off:Nat) (cs:Array Value) (vL vA:Value) (ls:List RIns) (ats:List Int) (lab:Labs) (w:World):Prop where
 ex:∃ vB vP,Blk w fb ((cs.setIfInBounds (off+4) vB).setIfInBounds (off+5) vP) 46/\Sl w 51 8 vL ls.length (insL ls)/\Sl w 3 1 vA ats.length (intL ats) /\
  Sl w 9 1 vB lab.length (strL (lab.map (·.1)))/\Sl w 3 1 vP lab.length (intL (lab.map (·.2))) /\
  (∀ k,vB.ownBlock=some k->w0.heap.size<=k)/\(∀ k,vP.ownBlock=some k->w0.heap.size<=k)/\(∀ k,vB.ownBlock=some k->vP.ownBlock≠some k)
structure LabPre (w:World) (fb off:Nat) (cs:Array Value) (vL vA vJ:Value) (ls:List RIns) (ats js:List Int):Prop where
 fn:Blk w fb cs 46
 sz:off+8<=cs.size
 c1:cs[off+1]?=some vL
 c2:cs[off+2]?=some vA
 c4:cs[off+4]?=some (.slice none 0 0)
 c5:cs[off+5]?=some (.slice none 0 0)
 sl:Sl w 51 8 vL ls.length (insL ls)
 sa:Sl w 3 1 vA ats.length (intL ats)
 sj:Sl w 3 1 vJ js.length (intL js)
 fl:vL.ownBlock≠some fb
 fa:vA.ownBlock≠some fb
 fj:vJ.ownBlock≠some fb
 la:∀ k,vL.ownBlock=some k->vA.ownBlock≠some k
 lj:∀ k,vL.ownBlock=some k->vJ.ownBlock≠some k
 aj:∀ k,vA.ownBlock=some k->vJ.ownBlock≠some k
 al:ats.length=ls.length
 jl:js.length=ls.length
 le:ls.length<=1000
 bw:∀ i∈ls,i.word.size<=100
 ba:∀ a∈ats,0<=a/\a<=1000
 bj:∀ j∈js,-32768<=j/\j<=32767
def LabSaid:Prop:=∀ (w:World) (fb off:Nat) (cs:Array Value) (vL vA vJ:Value) (ls:List RIns) (ats js:List Int),LabPre w fb off cs vL vA vJ ls ats js ->
 Calls Tryz.prog 51 #[.pointer (some ⟨fb,off,none⟩),vJ] w fun e w'=>e=.returned (.bool (labG ats [] (zip3 ls ats js) []).isSome)/\Mods (fun k=>k=fb\/vL.ownBlock=some k) w w' /\
  ∀ o,labG ats [] (zip3 ls ats js) []=some o->LabAt w fb off cs vL vA o.1 ats o.2 w'
structure FOut where
 ls:List RIns
 ats:List Int
 lab:Labs
 r:RS
def lastEnds (ls:List RIns):Bool:=match ls.getLast? with
 | none=>false
 | some i=>endsI i.word
def bodyM (s:ByteArray) (slots:Nat) (r:RS):Option FOut :=
 match bodyL s slots (slots+1) r 0 [] [] [] with
 | none=>none
 | some b=>if b.pos≠slots\/lastEnds b.ls=false then none
  else match labG b.ats [] (zip3 b.ls b.ats b.js) [] with
   | none=>none
   | some o=>some ⟨o.1,b.ats,o.2,b.r⟩
structure WFit (i:RIns):Prop where
 s0:-1<=i.s
 s1:i.s<=0
 j:i.jump=0
 l:i.label=E0
 m:i.name=E0
 b:i.is32=true->sortM i.word=114
 r:sortM i.word=108->i.s=0
theorem mem_st (k:Nat) (h:8<=k) (h2:k<12):sortM (memL[k]?.getD E0)=115:=by
 have:k=8\/k=9\/k=10\/k=11:=by omega
 rcases this with rfl | rfl | rfl | rfl<;>decide +kernel
set_option maxRecDepth 100000 in
theorem word_fit (op:Nat) (h:(wordM op).2=true):WFit (wordM op).1:=by
 by_cases c1:op<64/\1<=op % 16/\op % 16<=13/\(op % 16<13\/op<32)
 ·rw [wordM,if_pos c1]
  have hs:=reckons_sort (op % 16 - 1) (by omega)
  exact ⟨by show -1<=-((op:Int) / 32);omega,by show -((op:Int) / 32)<=0;omega,rfl,rfl,rfl,fun _=>hs,fun e=>by rw [show sortM _=114 from hs] at e;omega⟩
 rw [wordM,if_neg c1] at h ⊢
 by_cases c2:64<=op/\op<76
 ·rw [if_pos c2]
  exact ⟨by show (-1:Int)<=0;omega,by show (0:Int)<=0;omega,rfl,rfl,rfl,fun e=>(by cases e),fun _=>rfl⟩
 rw [if_neg c2] at h ⊢
 by_cases c3:96<op/\op<108
 ·rw [if_pos c3]
  have hs:=compares_sort (op - 96) (by omega)
  exact ⟨by show (-1:Int)<=-1;omega,by show (-1:Int)<=0;omega,rfl,rfl,rfl,fun e=>(by cases e),fun e=>by rw [show sortM _=106 from hs] at e;omega⟩
 rw [if_neg c3] at h ⊢
 by_cases c4:128<=op/\op<140
 ·rw [if_pos c4]
  refine ⟨?_,?_,rfl,rfl,rfl,fun e=>(by cases e),fun e=>?_⟩
  ·show -1<=(if 136<=op then (-1:Int) else 0);split<;>omega
  ·show (if 136<=op then (-1:Int) else 0)<=0;split<;>omega
  ·show (if 136<=op then (-1:Int) else 0)=0
   split
   ·have hs:=mem_st (op - 128) (by omega) (by omega)
    rw [show sortM _=115 from hs] at e;omega
   ·rfl
 rw [if_neg c4] at h ⊢
 by_cases c5:op=192
 ·rw [if_pos c5]
  exact ⟨by show (-1:Int)<=0;omega,by show (0:Int)<=0;omega,rfl,rfl,rfl,fun e=>(by cases e),fun _=>rfl⟩
 rw [if_neg c5] at h ⊢
 by_cases c6:op=193
 ·rw [if_pos c6]
  exact ⟨by show (-1:Int)<=0;omega,by show (0:Int)<=0;omega,rfl,rfl,rfl,fun e=>(by cases e),fun _=>rfl⟩
 rw [if_neg c6] at h ⊢
 by_cases c7:op=194
 ·rw [if_pos c7]
  exact ⟨by show (-1:Int)<=0;omega,by show (0:Int)<=0;omega,rfl,rfl,rfl,fun e=>(by cases e),fun _=>rfl⟩
 rw [if_neg c7] at h
 cases h
def IFit (o:InsOut):Prop:=o.ok=true->o.i.Fit/\-32768<=o.jump/\o.jump<=32767
theorem help_sort:sortM (T [104,101,108,112])=104:=by decide +kernel
theorem helpers_size (k:Nat):(helpersL[k]?.getD E0).size<=100:=by
 rcases Nat.lt_or_ge k 4 with h | h
 ·have:k=0\/k=1\/k=2\/k=3:=by omega
  rcases this with rfl | rfl | rfl | rfl<;>decide
 ·have:helpersL[k]?=none:=List.getElem?_eq_none (by show 4<=k;exact h)
  rw [this];decide
set_option maxRecDepth 100000 in
theorem ins_fit (s:ByteArray) (r:RS):IFit (insM s r):=by
 unfold insM
 dsimp only
 obtain ⟨bo,bd,bs,bj0,bj1,bn0,bn1⟩:=rsl_bd s r
 have hw:=word_fit (rsl s r).1.op
 have hsz:=word_size (rsl s r).1.op
 have hst:=word_sorts (rsl s r).1.op
 generalize (rsl s r).1=x at *;generalize (rsl s r).2=r1 at *;obtain ⟨op,d,sr,jump,n⟩:=x
 dsimp only at *
 generalize wordM op=q at *;obtain ⟨i,ok⟩:=q
 dsimp only at *
 split
 ·exact fun h=>by cases h
 rename_i hc
 have hok:ok=true:=by cases ok with
  | true=>rfl
  | false=>exact absurd (.inl rfl) hc
 have hd:d<=10:=by omega
 have hs2:sr<=10:=by omega
 have W:=hw hok
 have S:=hst hok
 obtain ⟨word,b32,d0,s0,jmp0,n0,label,name⟩:=i;obtain ⟨w1,w2,w3,w4,w5,w6,w7⟩:=W
 dsimp only [insBase] at *
 have hE:E0.size<=100:=by decide
 have sA:-1<=(if s0<0 then s0 else (sr:Int)):=by split<;>omega
 have sB:(if s0<0 then s0 else (sr:Int))<=15:=by split<;>omega
 have base:∀ (jm:Int) (nn:Int) (wd lb:ByteArray),-32768<=jm->jm<=32767->0<=nn->nn<18446744073709551616->wd.size<=100->lb.size<=100->(b32=true->sortM wd=114) ->
   (sortM wd=114\/sortM wd=106\/(sortM wd=108/\0<=(if s0<0 then s0 else (sr:Int)))\/sortM wd=115\/sortM wd=119\/sortM wd=104\/sortM wd=99\/sortM wd=101) ->
   RIns.Fit ⟨wd,b32,(d:Int),if s0<0 then s0 else (sr:Int),jm,nn,lb,name⟩:=by
  intro jm nn wd lb h1 h2 h3 h4 h5 h6 h7 h8
  exact ⟨by simp,by show (d:Int)<=15;omega,sB,sA,h1,h2,h3,h4,h5,h6,by show name.size<=300;rw [w5];omega,h7,h8⟩
 have hlab:label.size<=100:=by rw [w4];exact hE
 split
 ·rename_i k;exact fun _=>⟨base jmp0 n word label (by omega) (by omega) bn0 (by omega) (by omega) hlab w6 (.inl k),by show (-32768:Int)<=0;omega,by show (0:Int)<=32767;omega⟩
 split
 ·rename_i k;exact fun _=>⟨base jmp0 n word label (by omega) (by omega) bn0 (by omega) (by omega) hlab w6 (.inr (.inl k)),bj0,bj1⟩
 split
 ·rename_i k
  refine fun _=>⟨base jump n word label bj0 bj1 bn0 (by omega) (by omega) hlab w6 ?_,by show (-32768:Int)<=0;omega,by show (0:Int)<=32767;omega⟩
  rcases k with k | k
  ·exact .inr (.inr (.inl ⟨k,by have:=w7 k;split<;>omega⟩))
  ·exact .inr (.inr (.inr (.inl k)))
 split
 ·rename_i k
  have hl0:0<=n % 4294967296:=by omega
  split
  ·exact fun _=>⟨base jmp0 0 word label (by omega) (by omega) (by omega) (by omega) (by omega) hlab w6 (.inr (.inr (.inr (.inr (.inl k))))),by show (-32768:Int)<=1;omega,by show (1:Int)<=32767;omega⟩
  ·refine fun _=>⟨base jmp0 _ word label (by omega) (by omega) ?_ ?_ (by omega) hlab w6 (.inr (.inr (.inr (.inr (.inl k))))),by show (-32768:Int)<=0;omega,by show (0:Int)<=32767;omega⟩
   all_goals
    simp only [IntKind.wrap,IntKind.bits,IntKind.signed,Bool.false_and,Bool.false_eq_true,if_false];omega
 split
 ·rename_i k
  split
  ·refine fun _=>⟨base jmp0 0 (T [104,101,108,112]) _ (by omega) (by omega) (by omega) (by omega) (by decide) (helpers_size _) ?_ (.inr (.inr (.inr (.inr (.inr (.inl help_sort)))))),by show (-32768:Int)<=0;omega,by show (0:Int)<=32767;omega⟩
   intro e
   have:=w6 e
   omega
  ·exact fun _=>⟨base jmp0 0 word label (by omega) (by omega) (by omega) (by omega) (by omega) hlab w6 (.inr (.inr (.inr (.inr (.inr (.inr (.inl k))))))),by show (-32768:Int)<=1;omega,by show (1:Int)<=32767;omega⟩
 ·refine fun _=>⟨base jmp0 n word label (by omega) (by omega) bn0 (by omega) (by omega) hlab w6 ?_,by show (-32768:Int)<=0;omega,by show (0:Int)<=32767;omega⟩
  rcases S with k | k | k | ⟨_,k | k | k⟩
  ·exact .inl k
  ·exact .inr (.inl k)
  ·omega
  ·omega
  ·omega
  ·exact .inr (.inr (.inr (.inr (.inr (.inr (.inr k))))))
structure Good (slots:Nat) (ls:List RIns) (ats js:List Int):Prop where
 f:∀ i∈ls,i.Fit
 a:∀ x∈ats,0<=x/\x<=slots
 j:∀ x∈js,-32768<=x/\x<=32767
 al:ats.length=ls.length
 jl:js.length=ls.length
theorem name_fit (o:InsOut) (i:RIns) (hf:o.i.Fit) (h:nameIns o=some i):i.Fit:=by
 unfold nameIns at h
 split at h
 ·rename_i hc
  split at h
  ·cases h
  ·cases h
   obtain ⟨d0,d1,s1,s0,j0,j1,n0,n1,w,l,nm,b,st⟩:=hf
   refine ⟨d0,d1,by show (0:Int)<=15;omega,by show (-1:Int)<=0;omega,j0,j1,n0,n1,w,l,by show (T [63]).size<=300;decide,b,?_⟩
   rcases st with h | h | h | h | h | h | h | h
   ·exact .inl h
   ·exact .inr (.inl h)
   ·exact .inr (.inr (.inl ⟨h.1,by show (0:Int)<=0;omega⟩))
   ·exact .inr (.inr (.inr (.inl h)))
   ·exact .inr (.inr (.inr (.inr (.inl h))))
   ·exact .inr (.inr (.inr (.inr (.inr (.inl h)))))
   ·exact .inr (.inr (.inr (.inr (.inr (.inr (.inl h))))))
   ·exact .inr (.inr (.inr (.inr (.inr (.inr (.inr h))))))
 ·cases h;exact hf
theorem bodyL_good (s:ByteArray) (slots:Nat):∀ (f:Nat) (r:RS) (p:Nat) (ls:List RIns) (ats js:List Int) (b:BOut),bodyL s slots f r p ls ats js=some b->Good slots ls ats js->Good slots b.ls b.ats b.js
 | 0,_,_,_,_,_,_,h,_=>by cases h
 | f+1,r,p,ls,ats,js,b,h,g=>by
  rw [bodyL] at h
  split at h
  ·rename_i hp
   split at h
   ·cases h
   ·rename_i hok
    split at h
    ·cases h
    ·rename_i i hi
     have hf:=ins_fit s r (by cases e:(insM s r).ok with
      | true=>rfl
      | false=>exact absurd (.inl e) hok)
     refine bodyL_good s slots f _ _ _ _ _ b h ⟨?_,?_,?_,by simp [g.al],by simp [g.jl]⟩
     ·intro x hx
      rcases List.mem_append.1 hx with hx | hx
      ·exact g.f x hx
      ·rw [List.mem_singleton.1 hx];exact name_fit _ _ hf.1 hi
     ·intro x hx
      rcases List.mem_append.1 hx with hx | hx
      ·exact g.a x hx
      ·rw [List.mem_singleton.1 hx];omega
     ·intro x hx
      rcases List.mem_append.1 hx with hx | hx
      ·exact g.j x hx
      ·rw [List.mem_singleton.1 hx];exact hf.2
  ·cases h;exact g
theorem good_nil (slots:Nat):Good slots [] [] []:=⟨fun _ h=>(by cases h),fun _ h=>(by cases h),fun _ h=>(by cases h),rfl,rfl⟩
structure FnAt (w0:World) (fb off:Nat) (cs:Array Value) (o:FOut) (w:World):Prop where
 ex:∃ vL vA vB vP,Blk w fb ((((cs.setIfInBounds (off+1) vL).setIfInBounds (off+2) vA).setIfInBounds (off+4) vB).setIfInBounds (off+5) vP) 46 /\
  Sl w 51 8 vL o.ls.length (insL o.ls)/\Sl w 3 1 vA o.ats.length (intL o.ats)/\Sl w 9 1 vB o.lab.length (strL (o.lab.map (·.1)))/\Sl w 3 1 vP o.lab.length (intL (o.lab.map (·.2))) /\
  (∀ k,vL.ownBlock=some k->w0.heap.size<=k)/\(∀ k,vA.ownBlock=some k->w0.heap.size<=k)/\(∀ k,vB.ownBlock=some k->w0.heap.size<=k)/\(∀ k,vP.ownBlock=some k->w0.heap.size<=k) /\
  (∀ k,vL.ownBlock=some k->vA.ownBlock≠some k/\vB.ownBlock≠some k/\vP.ownBlock≠some k)/\(∀ k,vA.ownBlock=some k->vB.ownBlock≠some k/\vP.ownBlock≠some k)/\(∀ k,vB.ownBlock=some k->vP.ownBlock≠some k)
def BodyPost (w:World) (fb rb off:Nat) (cs:Array Value) (s:ByteArray) (slots:Nat) (r:RS) (e:Ending) (w':World):Prop :=
 e=.returned (.bool (bodyM s slots r).isSome)/\Mods (fun k=>k=fb\/k=rb) w w'/\∀ o,bodyM s slots r=some o->RdAt w' rb s o.r/\FnAt w fb off cs o w'
theorem BodyPost.no {w w':World} {fb rb off:Nat} {cs:Array Value} {s:ByteArray} {slots:Nat} {r:RS} (h:bodyM s slots r=none) (m:Mods (fun k=>k=fb\/k=rb) w w') :
  BodyPost w fb rb off cs s slots r (.returned (.bool false)) w':=⟨by rw [h];rfl,m,fun o ho=>by rw [h] at ho;cases ho⟩
theorem bodyM_none {s:ByteArray} {slots:Nat} {r:RS} (h:bodyL s slots (slots+1) r 0 [] [] []=none):bodyM s slots r=none:=by rw [bodyM,h]
theorem bodyM_some {s:ByteArray} {slots:Nat} {r:RS} {b:BOut} (h:bodyL s slots (slots+1) r 0 [] [] []=some b) (hp:b.pos=slots) (he:lastEnds b.ls=true) :
  bodyM s slots r=(labG b.ats [] (zip3 b.ls b.ats b.js) []).map (fun o=>⟨o.1,b.ats,o.2,b.r⟩):=by
 rw [bodyM,h]
 dsimp only
 rw [if_neg (by rw [hp,he];simp)]
 cases labG b.ats [] (zip3 b.ls b.ats b.js) []<;>rfl
theorem BInv.lab {w0 w:World} {fb rb off:Nat} {cs:Array Value} {s:ByteArray} {r:RS} {ls:List RIns} {ats js:List Int} {vL vA vJ:Value} {slots:Nat}
  (h:BInv w0 fb rb off cs s r ls ats js vL vA vJ w) (hf:fb<w0.heap.size) (g:Good slots ls ats js) (hs:slots<=200) (hl:ls.length<=1000) (sz:off+8<=cs.size)
  (c4:cs[off+4]?=some (.slice none 0 0)) (c5:cs[off+5]?=some (.slice none 0 0)) :
  LabPre w fb off ((cs.setIfInBounds (off+1) vL).setIfInBounds (off+2) vA) vL vA vJ ls ats js:=by
 refine ⟨h.fn,by simpa using sz,?_,?_,?_,?_,h.sl,h.sa,h.sj,fun e=>by have:=h.fl _ e;omega,fun e=>by have:=h.fa _ e;omega,fun e=>by have:=h.fj _ e;omega,h.la,h.lj,h.aj,g.al,g.jl,hl,fun i hi=>(g.f i hi).word,fun a ha=>?_,g.j⟩
 ·rw [Array.getElem?_setIfInBounds_ne (by omega),Array.getElem?_setIfInBounds_self_of_lt (by omega)]
 ·rw [Array.getElem?_setIfInBounds_self_of_lt (by simp;omega)]
 ·rw [Array.getElem?_setIfInBounds_ne (by omega),Array.getElem?_setIfInBounds_ne (by omega)];exact c4
 ·rw [Array.getElem?_setIfInBounds_ne (by omega),Array.getElem?_setIfInBounds_ne (by omega)];exact c5
 ·have:=g.a a ha;omega
theorem BInv.done {w0 w w':World} {fb rb off:Nat} {cs:Array Value} {s:ByteArray} {r:RS} {ls ls':List RIns} {ats js:List Int} {vL vA vJ:Value} {lab:Labs}
  (h:BInv w0 fb rb off cs s r ls ats js vL vA vJ w) (hr:rb<w0.heap.size) (hne:fb≠rb) (m:Mods (fun k=>k=fb\/vL.ownBlock=some k) w w') (hl:LabAt w fb off ((cs.setIfInBounds (off+1) vL).setIfInBounds (off+2) vA) vL vA ls' ats lab w') :
  RdAt w' rb s r/\FnAt w0 fb off cs ⟨ls',ats,lab,r⟩ w':=by
 obtain ⟨vB,vP,h1,h2,h3,h4,h5,h6,h7,h8⟩:=hl.ex
 have hsz:=h.md.size
 refine ⟨Blk.mods h.rd m (fun e=>e.elim (fun e=>hne e.symm) (fun e=>by have:=h.fl _ e;omega)),⟨vL,vA,vB,vP,h1,h2,h3,h4,h5,h.fl,h.fa,fun k hk=>by have:=h6 k hk;omega,fun k hk=>by have:=h7 k hk;omega,?_,?_,h8⟩⟩
 ·intro k hk
  have:=h.sl.lt k hk
  exact ⟨h.la k hk,fun e=>by have:=h6 k e;omega,fun e=>by have:=h7 k e;omega⟩
 ·intro k hk
  have:=h.sa.lt k hk
  exact ⟨fun e=>by have:=h6 k e;omega,fun e=>by have:=h7 k e;omega⟩
theorem BInv.modsEnd {w0 w w':World} {fb rb off:Nat} {cs:Array Value} {s:ByteArray} {r:RS} {ls:List RIns} {ats js:List Int} {vL vA vJ:Value}
  (h:BInv w0 fb rb off cs s r ls ats js vL vA vJ w) (m:Mods (fun k=>k=fb\/vL.ownBlock=some k) w w'):Mods (fun k=>k=fb\/k=rb) w0 w' :=
 h.md.step m (fun k hk e=>e.elim .inl (fun e=>by have:=h.fl k e;omega))
end Go.Proofs.YtoknbkfclhmapaaGreatDoor
