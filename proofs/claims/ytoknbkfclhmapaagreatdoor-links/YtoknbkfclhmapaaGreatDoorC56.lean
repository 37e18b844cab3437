import Derived.Test.YtoknbkfclhmapaaGreatDoorC45
import Derived.Test.YtoknbkfclhmapaaGreatDoorC22
import Derived.Test.YtoknbkfclhmapaaGreatDoorC49
import Derived.Test.YtoknbkfclhmapaaGreatDoorC43
import Derived.Test.YtoknbkfclhmapaaGreatDoorC44
import Derived.Test.YtoknbkfclhmapaaGreatDoorC23
import Derived.Test.YtoknbkfclhmapaaGreatDoorC42
import Derived.Test.YtoknbkfclhmapaaGreatDoorC27
namespace Go.Proofs.YtoknbkfclhmapaaGreatDoor
open Go.RowKit
def docsM:List (List UInt8)->List (List RMap × List RFn × List FOut)
 | []=>[]
 | s::l=>match openM (T s) with
  | none=>[]
  | some o=>o::docsM l
def dtw (i:Nat) (seen:List ByteArray):List (List ByteArray)->Int
 | []=>-1
 | p::l=>if p.any (fun s=>decide (0<=placeM s seen)) then i else dtw (i+1) (seen++p) l
def sameR (a b:RMap):Bool:=decide (a.name=b.name)&&(decide (a.key=b.key)&&(decide (a.value=b.value)&&decide (a.entries=b.entries)))
theorem sameR_iff (a b:RMap):sameR a b=true ↔ a=b:=by
 unfold sameR
 cases a;cases b
 simp [Bool.and_eq_true]
def atR (l:List RMap) (i:Nat):RMap:=l[i]?.getD ⟨E0,0,0,0⟩
def dcl (acc:List RMap) (m:RMap):Bool:=decide (0<=placeM m.name (acc.map (·.name)))&&!sameR (atR acc (placeM m.name (acc.map (·.name))).toNat) m
def dnext (acc:List RMap) (m:RMap):List RMap:=if placeM m.name (acc.map (·.name))<0 then acc++[m] else acc
def dmaps (acc:List RMap):List RMap->Bool × List RMap
 | []=>(false,acc)
 | m::l=>if dcl acc m then (true,acc) else dmaps (dnext acc m) l
def doth (i:Nat) (acc:List RMap):List (List RMap)->Int × List RMap
 | []=>(-1,acc)
 | p::l=>if (dmaps acc p).1 then (i,acc) else doth (i+1) (dmaps acc p).2 l
def dbadX (fn:List ByteArray) (x:RIns):Bool:=decide (x.word=CALL)&&decide (placeM x.name fn<0)
def dbadF (fn:List ByteArray) (o:FOut):Bool:=o.ls.any (dbadX fn)
def dmiss (fn:List ByteArray):Nat->List (List FOut)->Int
 | _,[]=>-1
 | i,p::l=>if p.any (dbadF fn) then i else dmiss fn (i+1) l
def sumR (rs:List RFn):Nat:=(rs.map (·.slots)).sum
def dtoo (ms:List RMap) (rs:List RFn):Bool:=decide (8<ms.length)||decide (16<rs.length)||decide (200<sumR rs)
def faultD (r1 r2 r3:Int) (tm:Bool):Int × Int:=if r1≠-1 then (4,r1) else if r2≠-1 then (8,r2) else if r3≠-1 then (5,r3) else if tm then (1,0) else (0,0)
abbrev DO:=List RMap × List RFn × List FOut
def allR (os:List DO):List RFn:=os.flatMap (·.2.1)
def allN (os:List DO):List ByteArray:=(allR os).map (·.name)
def allM (os:List DO):List RMap:=(doth 0 [] (os.map (·.1))).2
def allZ (os:List DO):List (RFn × FOut):=os.flatMap (fun o=>o.2.1.zip o.2.2)
def docE (objs:List (List UInt8)):Int × Int :=
 if objs.length=0\/8<objs.length then (9,0)
 else if (docsM objs).length<objs.length then (7,(docsM objs).length)
 else faultD (dtw 0 [] ((docsM objs).map (fun o=>o.2.1.map (·.name)))) (doth 0 [] ((docsM objs).map (·.1))).1 (dmiss (allN (docsM objs)) 0 ((docsM objs).map (·.2.2))) (dtoo (allM (docsM objs)) (allR (docsM objs)))
theorem place_mem (s:ByteArray):∀ l:List ByteArray,(0<=placeM s l ↔ s∈l)/\(placeM s l<0->placeM s l=-1)
 | []=>⟨by simp [placeM],fun _=>rfl⟩
 | x::l=>by
  obtain ⟨h1,h2⟩:=place_mem s l;rw [placeM]
  by_cases e:x=s
  ·rw [if_pos e]
   exact ⟨by simp [e],fun h=>absurd h (by decide)⟩
  ·rw [if_neg e]
   by_cases c:placeM s l<0
   ·rw [if_pos c]
    refine ⟨⟨fun h=>absurd h (by decide),fun h=>?_⟩,fun _=>rfl⟩
    rcases List.mem_cons.1 h with h | h
    ·exact absurd h.symm e
    ·have:=h1.2 h;omega
   ·rw [if_neg c]
    refine ⟨⟨fun _=>List.mem_cons_of_mem _ (h1.1 (by omega)),fun _=>by omega⟩,fun h=>by omega⟩
structure DocD where
 pb:Nat
 vM:Value
 vF:Value
 hs:List HFn
 o:DO
def DocD.fx (d:DocD):List (RFn × HFn):=d.o.2.1.zip d.hs
def DocD.z (d:DocD):List FZ:=d.fx.zip d.o.2.2
def DocD.ptr (d:DocD):Value:=.pointer (some ⟨d.pb,0,none⟩)
structure DocAt (w:World) (d:DocD):Prop where
 ro:PRo w d.pb d.vM d.vF d.o.1 d.fx d.o.2.2
 hl:d.hs.length=d.o.2.1.length
 ol:d.o.2.2.length=d.o.2.1.length
 ok:OpenOk d.o.1 d.o.2.1 d.o.2.2
theorem DocAt.quiet {w w':World} {d:DocD} (h:DocAt w d) (m:Mods Nil' w w'):DocAt w' d:=⟨h.ro.quiet m,h.hl,h.ol,h.ok⟩
theorem DocAt.fl {w:World} {d:DocD} (h:DocAt w d):d.fx.length=d.o.2.1.length:=by
 unfold DocD.fx;rw [List.length_zip,h.hl,Nat.min_self]
theorem DocAt.z1 {w:World} {d:DocD} (h:DocAt w d):d.z.map (·.1)=d.fx:=by
 unfold DocD.z;rw [List.map_fst_zip];rw [h.fl,h.ol];exact Nat.le_refl _
theorem DocAt.f1 {w:World} {d:DocD} (h:DocAt w d):d.fx.map (·.1)=d.o.2.1:=by
 unfold DocD.fx;rw [List.map_fst_zip];rw [h.hl];exact Nat.le_refl _
theorem DocAt.each {w:World} {d:DocD} (h:DocAt w d):∀ x∈d.z,FRo w x.1.2 x.2:=by
 intro x hx;obtain ⟨i,hi,e⟩:=List.getElem_of_mem hx;unfold DocD.z at hi e;rw [List.getElem_zip] at e;rw [List.length_zip] at hi;rw [<- e]
 exact h.ro.each i (by omega) (by omega)
theorem DocAt.grown {w w':World} {d:DocD} {e:TypeId} {size n:Nat} {v:Value} {xs:List Value} (h:DocAt w d) (s:Sl w e size v n xs) (he:e=29) (m:Mods (fun k=>v.ownBlock=some k) w w'):DocAt w' d:=by
 subst he
 refine ⟨⟨h.ro.prog.mods m (s.notBlk h.ro.prog (by decide)),h.ro.maps.mods m (fun k hk c=>h.ro.maps.apart s (by decide) hk c),h.ro.rows.mods m (fun k hk c=>h.ro.rows.apart s (by decide) hk c),fun i h1 h2=>?_⟩,h.hl,h.ol,h.ok⟩
 have f:=h.ro.each i h1 h2
 exact ⟨f.sl.mods m (fun k hk c=>f.sl.apart s (by decide) hk c),f.sa.mods m (fun k hk c=>f.sa.apart s (by decide) hk c),f.sb.mods m (fun k hk c=>f.sb.apart s (by decide) hk c),f.sp.mods m (fun k hk c=>f.sp.apart s (by decide) hk c)⟩
theorem doc_of {w:World} {s:ByteArray} {o:DO} {pb rb:Nat} {vM vF:Value} {hs:List HFn} {bd:Nat->Nat} (ho:openM s=some o) (hI:PInv w pb rb vM vF o.1 (o.2.1.zip hs) o.2.2 bd) (hl:hs.length=o.2.1.length) (ol:o.2.2.length=o.2.1.length):DocAt w ⟨pb,vM,vF,hs,o⟩ :=
 ⟨⟨hI.prog,hI.maps,hI.rows,fun i h1 h2=>by have f:=hI.each i h1 h2;exact ⟨f.sl,f.sa,f.sb,f.sp⟩⟩,hl,ol,open_ok s o ho⟩
structure Docs (w0:World) (v:Value) (ds:List DocD) (w:World):Prop where
 sl:Sl w 29 1 v ds.length (ds.map DocD.ptr)
 each:∀ d∈ds,DocAt w d
 own:∀ k,v.ownBlock=some k->w0.heap.size<=k
 md:Mods Nil' w0 w
theorem Docs.nil (w:World):Docs w (.slice none 0 0) [] w:=⟨Sl.nil _ _ _,(fun _ h=>by cases h),(fun k h=>by cases h),Mods.refl _ _⟩
theorem Docs.quiet {w0 w w':World} {v:Value} {ds:List DocD} (h:Docs w0 v ds w) (m:Mods Nil' w w'):Docs w0 v ds w' :=
 ⟨h.sl.mods m (fun _ _=>id),fun d hd=>(h.each d hd).quiet m,h.own,h.md.trans m⟩
theorem Docs.app {w0 w w':World} {v v':Value} {ds:List DocD} {d:DocD} (h:Docs w0 v ds w) (hd:DocAt w d) (s:Sl w' 29 1 v' (ds.length+1) (ds.map DocD.ptr++[d.ptr])) (m:Mods (fun k=>v.ownBlock=some k) w w') (l:∀ k,v'.ownBlock=some k->v.ownBlock=some k\/w.heap.size<=k):Docs w0 v' (ds++[d]) w':=by
 refine ⟨?_,fun q hq=>?_,fun k hk=>?_,h.md.step m (fun i hi e=>by have:=h.own i e;omega)⟩
 ·rw [List.length_append,List.map_append];exact s
 ·rcases List.mem_append.1 hq with hq | hq
  ·exact (h.each q hq).grown h.sl rfl m
  ·rw [List.mem_singleton.1 hq];exact hd.grown h.sl rfl m
 ·rcases l k hk with e | e
  ·exact h.own k e
  ·have:=h.md.size;omega
theorem Docs.at {w0 w:World} {o:Option Addr} {n c:Nat} {ds:List DocD} (h:Docs w0 (.slice o n c) ds w) (hn:n=ds.length) (k:Nat) (hk:k<ds.length) :
  ∃ g,o=some ⟨g,0,none⟩/\w.cell? ⟨g,k,none⟩=some (.pointer (some ⟨ds[k].pb,0,none⟩)):=by
 subst hn;obtain ⟨g,hg,hc⟩:=h.sl.at rfl k hk
 refine ⟨g,hg,?_⟩
 rw [hc k hk]
 simp [hk,DocD.ptr]
structure AInv (w0:World) (ab:Nat) (vM vF:Value) (ms:List RMap) (fx:List (RFn × HFn)) (w:World):Prop where
 prog:Blk w ab #[vM,vF] 41
 maps:Sl w 48 4 vM ms.length (ms.flatMap RMap.cells)
 rows:Sl w 46 8 vF fx.length (fx.flatMap rowC)
 ownM:∀ k,vM.ownBlock=some k->w0.heap.size<=k
 ownF:∀ k,vF.ownBlock=some k->w0.heap.size<=k
 new:w0.heap.size<=ab
 md:Mods Nil' w0 w
theorem AInv.start (w:World):AInv w w.heap.size (.slice none 0 0) (.slice none 0 0) [] [] (w.alloc (.cells #[.slice none 0 0,.slice none 0 0] 41)) :=
 ⟨Blk.new _ _ _,Sl.nil _ _ _,Sl.nil _ _ _,fun k h=>(by cases h),fun k h=>(by cases h),Nat.le_refl _,(Mods.refl _ _).alloc _⟩
theorem AInv.quiet {w0 w w':World} {ab:Nat} {vM vF:Value} {ms:List RMap} {fx:List (RFn × HFn)} (h:AInv w0 ab vM vF ms fx w) (m:Mods Nil' w w'):AInv w0 ab vM vF ms fx w' :=
 ⟨h.prog.mods m id,h.maps.mods m (fun _ _=>id),h.rows.mods m (fun _ _=>id),h.ownM,h.ownF,h.new,h.md.trans m⟩
theorem AInv.appM {w0 w w':World} {ab:Nat} {vM vF v':Value} {ms:List RMap} {x:RMap} {fx:List (RFn × HFn)} (h:AInv w0 ab vM vF ms fx w) (s:Sl w' 48 4 v' (ms.length+1) (ms.flatMap RMap.cells++x.cells)) (m:Mods (fun k=>vM.ownBlock=some k) w w') (l:∀ k,v'.ownBlock=some k->vM.ownBlock=some k\/w.heap.size<=k) :
  AInv w0 ab v' vF (ms++[x]) fx (w'.setCell ⟨ab,0,none⟩ v'):=by
 have hb:=h.prog.mods m (h.maps.notBlk h.prog (by decide))
 have mB:Mods (Only ab) w' (w'.setCell ⟨ab,0,none⟩ v'):=(Mods.refl _ _).setb _ _
 have hF:=h.rows.mods m (fun k hk e=>h.rows.apart h.maps (by decide) hk e)
 refine ⟨hb.set 0 v',?_,hF.mods mB (fun k hk e=>hF.notBlk hb (by decide) (by rw [<- show k=ab from e];exact hk)),fun k hk=>?_,h.ownF,h.new,(h.md.step m (fun i hi e=>by have:=h.ownM i e;omega)).set (a:=⟨ab,0,none⟩) (.inr h.new) _⟩
 ·rw [List.length_append,List.flatMap_append,List.flatMap_singleton]
  exact s.mods mB (fun k hk e=>s.notBlk hb (by decide) (by rw [<- show k=ab from e];exact hk))
 ·rcases l k hk with e | e
  ·exact h.ownM k e
  ·have:=h.md.size;omega
theorem AInv.appF {w0 w w':World} {ab:Nat} {vM vF v':Value} {ms:List RMap} {fx f2:List (RFn × HFn)} (h:AInv w0 ab vM vF ms fx w) (s:Sl w' 46 8 v' (fx.length+f2.length) (fx.flatMap rowC++f2.flatMap rowC)) (m:Mods (fun k=>vF.ownBlock=some k) w w') (l:∀ k,v'.ownBlock=some k->vF.ownBlock=some k\/w.heap.size<=k) :
  AInv w0 ab vM v' ms (fx++f2) (w'.setCell ⟨ab,1,none⟩ v'):=by
 have hb:=h.prog.mods m (h.rows.notBlk h.prog (by decide))
 have mB:Mods (Only ab) w' (w'.setCell ⟨ab,1,none⟩ v'):=(Mods.refl _ _).setb _ _
 have hM:=h.maps.mods m (fun k hk e=>h.maps.apart h.rows (by decide) hk e)
 refine ⟨hb.set 1 v',hM.mods mB (fun k hk e=>hM.notBlk hb (by decide) (by rw [<- show k=ab from e];exact hk)),?_,h.ownM,fun k hk=>?_,h.new,(h.md.step m (fun i hi e=>by have:=h.ownF i e;omega)).set (a:=⟨ab,1,none⟩) (.inr h.new) _⟩
 ·rw [List.length_append,List.flatMap_append]
  exact s.mods mB (fun k hk e=>s.notBlk hb (by decide) (by rw [<- show k=ab from e];exact hk))
 ·rcases l k hk with e | e
  ·exact h.ownF k e
  ·have:=h.md.size;omega
theorem AInv.midM {w0 w w1 w2:World} {ab:Nat} {vM vF:Value} {ms:List RMap} {fx:List (RFn × HFn)} (h:AInv w0 ab vM vF ms fx w) (m:Mods Nil' w w1) (m2:Mods (fun k=>vM.ownBlock=some k) w1 w2):Blk w2 ab #[vM,vF] 41 :=
 (h.quiet m).prog.mods m2 ((h.quiet m).maps.notBlk (h.quiet m).prog (by decide))
theorem rowC_one (l:List (RFn × HFn)) (h:∀ x∈l,∃ a1 a2 a3 b1 b2 b3 c1 c2 c3 d1 d2 d3,x.2=⟨.slice a1 a2 a3,.slice b1 b2 b3,.slice c1 c2 c3,.slice d1 d2 d3⟩):∀ u∈l.flatMap rowC,u.oneCell'=true:=by
 intro u hu;obtain ⟨x,hx,hu⟩:=List.mem_flatMap.1 hu;obtain ⟨a1,a2,a3,b1,b2,b3,c1,c2,c3,d1,d2,d3,e⟩:=h x hx
 simp only [rowC,e,List.mem_cons,List.not_mem_nil,or_false] at hu
 rcases hu with rfl | rfl | rfl | rfl | rfl | rfl | rfl | rfl<;>rfl
theorem FRo.slices {w:World} {h:HFn} {o:FOut} (f:FRo w h o):∃ a1 a2 a3 b1 b2 b3 c1 c2 c3 d1 d2 d3,h=⟨.slice a1 a2 a3,.slice b1 b2 b3,.slice c1 c2 c3,.slice d1 d2 d3⟩:=by
 obtain ⟨a1,a2,e1,_⟩:=f.sl.view;obtain ⟨b1,b2,e2,_⟩:=f.sa.view;obtain ⟨c1,c2,e3,_⟩:=f.sb.view;obtain ⟨d1,d2,e4,_⟩:=f.sp.view
 cases h
 simp only at e1 e2 e3 e4
 subst e1 e2 e3 e4
 exact ⟨_,_,_,_,_,_,_,_,_,_,_,_,rfl⟩
theorem DocAt.slices {w:World} {d:DocD} (h:DocAt w d):∀ x∈d.fx,∃ a1 a2 a3 b1 b2 b3 c1 c2 c3 d1 d2 d3,x.2=⟨.slice a1 a2 a3,.slice b1 b2 b3,.slice c1 c2 c3,.slice d1 d2 d3⟩:=by
 intro x hx;rw [<- h.z1] at hx;obtain ⟨y,hy,rfl⟩:=List.mem_map.1 hx
 exact (h.each y hy).slices
theorem all_ro {w0 w:World} {ab:Nat} {vM vF:Value} {ms:List RMap} {ds:List DocD} (h:AInv w0 ab vM vF ms (ds.flatMap DocD.fx) w) (hd:∀ d∈ds,DocAt w d) :
  PRo w ab vM vF ms ((ds.flatMap DocD.z).map (·.1)) ((ds.flatMap DocD.z).map (·.2))/\(ds.flatMap DocD.z).map (·.1)=ds.flatMap DocD.fx:=by
 have e:∀ l:List DocD,(∀ d∈l,DocAt w d)->(l.flatMap DocD.z).map (·.1)=l.flatMap DocD.fx:=by
  intro l
  induction l with
  | nil=>intro _;rfl
  | cons d l ih=>intro h;rw [List.flatMap_cons,List.map_append,ih (fun x hx=>h x (by simp [hx])),(h d (by simp)).z1,List.flatMap_cons]
 refine ⟨⟨h.prog,h.maps,by rw [e ds hd];exact h.rows,fun i h1 h2=>?_⟩,e ds hd⟩
 rw [List.length_map] at h1 h2
 simp only [List.getElem_map]
 obtain ⟨d,hm,hx⟩:=List.mem_flatMap.1 (List.getElem_mem h1)
 exact (hd d hm).each _ hx
theorem z_plain {w:World}:∀ (l:List DocD),(∀ d∈l,DocAt w d)->(l.flatMap DocD.z).map (fun x=>(x.1.1,x.2))=allZ (l.map (·.o))
 | [],_=>rfl
 | d::l,h=>by
  have IH:=z_plain l (fun x hx=>h x (by simp [hx]))
  unfold allZ at IH ⊢
  rw [List.flatMap_cons,List.map_append,IH,List.map_cons,List.flatMap_cons]
  congr 1
  have h1:=(h d (by simp)).f1
  unfold DocD.z;rw [<- h1];generalize d.fx=fx;generalize d.o.2.2=os
  induction fx generalizing os with
  | nil=>rfl
  | cons x fx ih =>
   cases os with
   | nil=>rfl
   | cons o os=>rw [List.zip_cons_cons,List.map_cons,List.map_cons,List.zip_cons_cons,ih]
theorem docs_rows {w:World}:∀ (l:List DocD),(∀ d∈l,DocAt w d)->allR (l.map (·.o))=(l.flatMap DocD.fx).map (·.1)
 | [],_=>rfl
 | d::l,h=>by
  have IH:=docs_rows l (fun x hx=>h x (by simp [hx]))
  unfold allR at IH ⊢
  rw [List.map_cons,List.flatMap_cons,IH,List.flatMap_cons,List.map_append,(h d (by simp)).f1]
theorem docs_fault {w:World} {ds:List DocD} (h:∀ d∈ds,DocAt w d) :
  faultD (dtw 0 [] ((ds.map (·.o)).map (fun o=>o.2.1.map (·.name)))) (doth 0 [] ((ds.map (·.o)).map (·.1))).1 (dmiss (allN (ds.map (·.o))) 0 ((ds.map (·.o)).map (·.2.2))) (dtoo (allM (ds.map (·.o))) (allR (ds.map (·.o)))) =
   faultD (dtw 0 [] (ds.map (fun d=>d.o.2.1.map (·.name)))) (doth 0 [] (ds.map (fun d=>d.o.1))).1 (dmiss ((ds.flatMap DocD.fx).map (fun x=>x.1.name)) 0 (ds.map (fun d=>d.o.2.2))) (dtoo (doth 0 [] (ds.map (fun d=>d.o.1))).2 ((ds.flatMap DocD.fx).map (·.1))):=by
 unfold allN allM;rw [docs_rows ds h,List.map_map,List.map_map,List.map_map,List.map_map]
 rfl
theorem sumR_append (l k:List RFn):sumR (l++k)=sumR l+sumR k:=by
 unfold sumR;rw [List.map_append,List.sum_append]
theorem sumR_le:∀ l:List RFn,(∀ r∈l,r.slots<=200)->sumR l<=200*l.length
 | [],_=>by simp [sumR]
 | r::l,h=>by
  have h1:=sumR_le l (fun x hx=>h x (by simp [hx]))
  have h2:=h r (by simp)
  unfold sumR at *
  simp only [List.map_cons,List.sum_cons,List.length_cons]
  omega
theorem sumR_take (l:List (RFn × HFn)) (k:Nat) (h:k<l.length):sumR ((l.take (k+1)).map (·.1))=sumR ((l.take k).map (·.1))+l[k].1.slots:=by
 rw [List.take_add_one,List.map_append,sumR_append]
 simp [h,sumR]
def aggR (m:RMap):Value:=.agg #[.string m.name,.int .i64 m.key,.int .i64 m.value,.int .i64 m.entries]
theorem B_list (a b:ByteArray):(a.toList==b.toList)=decide (a=b):=by
 by_cases h:a=b
 ·subst h;simp
 ·rw [str_ne h,decide_eq_false h]
theorem partR_0 (w:World) (a b c d:Value):(part 9 #[a,b,c,d] 0).run Tryz.prog w=.ok a w:=by
 unfold part
 simp [Tryz.isAgg9,Result.andThen]
theorem partR_1 (w:World) (a b c d:Value):(part 3 #[a,b,c,d] 1).run Tryz.prog w=.ok b w:=by
 unfold part
 simp [Tryz.isAgg3,Result.andThen]
theorem partR_2 (w:World) (a b c d:Value):(part 3 #[a,b,c,d] 2).run Tryz.prog w=.ok c w:=by
 unfold part
 simp [Tryz.isAgg3,Result.andThen]
theorem partR_3 (w:World) (a b c d:Value):(part 3 #[a,b,c,d] 3).run Tryz.prog w=.ok d w:=by
 unfold part
 simp [Tryz.isAgg3,Result.andThen]
theorem equalR (w:World) (a b:RMap):(Op.equalIn 10000 48 (aggR a) (aggR b)).run Tryz.prog w=.ok (sameR a b) w:=by
 unfold aggR
 rw [run_equalIn_agg w 9999 48 _ _ (by kernel_rfl) (by kernel_rfl)]
 have hf : (Tryz.prog.fieldsOf 48).toList.map (fun f => (f.name, f.type, f.offset)) = [("Name", 9, 0), ("Key", 3, 1), ("Value", 3, 2), ("Entries", 3, 3)] := by kernel_rfl
 generalize (Tryz.prog.fieldsOf 48).toList=l at hf
 rcases l with _ | ⟨f1,_ | ⟨f2,_ | ⟨f3,_ | ⟨f4,_ | ⟨f5,l⟩⟩⟩⟩⟩<;>simp only [List.map_cons,List.map_nil,List.cons.injEq,Prod.mk.injEq,and_true,reduceCtorEq,and_false] at hf
 obtain ⟨⟨n1,t1,o1⟩,⟨n2,t2,o2⟩,⟨n3,t3,o3⟩,⟨n4,t4,o4⟩⟩:=hf
 have d1 : ("Name" ≠ "_") = True := by decide
 have d2 : ("Key" ≠ "_") = True := by decide
 have d3 : ("Value" ≠ "_") = True := by decide
 have d4 : ("Entries" ≠ "_") = True := by decide
 unfold sameR
 simp only [Op.eqFields,n1,n2,n3,n4,t1,t2,t3,t4,o1,o2,o3,o4,d1,d2,d3,d4,if_true,Sem.run_bind,partR_0,Result.andThen_ok,run_equalIn_string w 9998 9 _ _ Tryz.underlying9,B_list]
 by_cases h1:a.name=b.name<;>by_cases h2:a.key=b.key<;>by_cases h3:a.value=b.value<;>by_cases h4:a.entries=b.entries<;>simp [h1,h2,h3,h4,partR_1,partR_2,partR_3,run_equalIn_int w 9998 3 .i64 .i64 _ _ Tryz.underlying3,Result.andThen]
theorem neqR (w:World) (a b:RMap):(binOp .neq 48 (.agg #[.string a.name,.int .i64 a.key,.int .i64 a.value,.int .i64 a.entries]) (.agg #[.string b.name,.int .i64 b.key,.int .i64 b.value,.int .i64 b.entries])).run Tryz.prog w=.ok (.bool (!sameR a b)) w:=by
 have:=equalR w a b
 unfold aggR at this
 rw [run_neq_struct,this];rfl
def LinkPost (w:World) (objs:List (List UInt8)) (e:Ending) (w':World):Prop :=
 Mods Nil' w w'/\(((docE objs).1≠0/\e=.returned (.tuple #[.pointer none,.int .i64 (docE objs).1,.int .i64 (docE objs).2])) \/
  ((docE objs).1=0/\∃ (ab:Nat) (vM vF:Value) (ms:List RMap) (z:List FZ),e=.returned (.tuple #[.pointer (some ⟨ab,0,none⟩),.int .i64 0,.int .i64 0])/\PRo w' ab vM vF ms (z.map (·.1)) (z.map (·.2)) /\
   ms.Perm (allM (docsM objs))/\ms.Pairwise (fun x y=>ltB y.name x.name=false)/\(z.map (fun x=>(x.1.1,x.2))).Perm (allZ (docsM objs))/\(z.map (fun x=>(x.1.1,x.2))).Pairwise (fun x y=>ltB y.1.name x.1.name=false)))
theorem LinkPost.no {w w':World} {objs:List (List UInt8)} {e a:Int} (h:docE objs=(e,a)) (he:e≠0) (m:Mods Nil' w w'):LinkPost w objs (.returned (.tuple #[.pointer none,.int .i64 e,.int .i64 a])) w':=by
 refine ⟨m,.inl ?_⟩
 rw [h]
 exact ⟨he,rfl⟩
theorem riseI_pw {α:Type} {nm:α->ByteArray} {l:List α} (h:RiseI nm l l.length):l.Pairwise (fun x y=>ltB (nm y) (nm x)=false):=by
 rw [List.pairwise_iff_getElem];intro i j hi hj hij;exact h i j hi hj hij hj
theorem docsM_drop (objs:List (List UInt8)) (k:Nat) (h:k<objs.length):docsM (objs.drop k)=match openM (T objs[k]) with
  | none=>[]
  | some o=>o::docsM (objs.drop (k+1)):=by
 rw [List.drop_eq_getElem_cons h,docsM]<;>(cases openM (T objs[k])<;>rfl)
theorem dtw_drop (seen:List ByteArray) (l:List (List ByteArray)) (k:Nat) (h:k<l.length):dtw k seen (l.drop k)=if l[k].any (fun s=>decide (0<=placeM s seen)) then (k:Int) else dtw (k+1) (seen++l[k]) (l.drop (k+1)):=by
 rw [List.drop_eq_getElem_cons h,dtw]
theorem doth_drop (acc:List RMap) (l:List (List RMap)) (k:Nat) (h:k<l.length):doth k acc (l.drop k)=if (dmaps acc l[k]).1 then ((k:Int),acc) else doth (k+1) (dmaps acc l[k]).2 (l.drop (k+1)):=by
 rw [List.drop_eq_getElem_cons h,doth]
theorem dmaps_drop (acc:List RMap) (l:List RMap) (k:Nat) (h:k<l.length):dmaps acc (l.drop k)=if dcl acc l[k] then (true,acc) else dmaps (dnext acc l[k]) (l.drop (k+1)):=by
 rw [List.drop_eq_getElem_cons h,dmaps]
theorem dmiss_drop (fn:List ByteArray) (l:List (List FOut)) (k:Nat) (h:k<l.length):dmiss fn k (l.drop k)=if l[k].any (dbadF fn) then (k:Int) else dmiss fn (k+1) (l.drop (k+1)):=by
 rw [List.drop_eq_getElem_cons h,dmiss]
theorem any_drop {α:Type} (p:α->Bool) (l:List α) (k:Nat) (h:k<l.length):(l.drop k).any p=(p l[k]||(l.drop (k+1)).any p):=by
 rw [List.drop_eq_getElem_cons h,List.any_cons]
theorem dmaps_len:∀ (l:List RMap) (acc:List RMap),(dmaps acc l).2.length<=acc.length+l.length
 | [],acc=>by simp [dmaps]
 | m::l,acc=>by
  rw [dmaps]
  split
  ·simp
  ·have h1:=dmaps_len l (dnext acc m)
   have h2:(dnext acc m).length<=acc.length+1:=by
    unfold dnext;split<;>simp
   rw [List.length_cons]
   omega
theorem doth_len:∀ (l:List (List RMap)) (i:Nat) (acc:List RMap),(∀ p∈l,p.length<=8)->(doth i acc l).2.length<=acc.length+8*l.length
 | [],i,acc,_=>by simp [doth]
 | p::l,i,acc,h=>by
  rw [doth]
  split
  ·simp only [List.length_cons];omega
  ·have h1:=doth_len l (i+1) (dmaps acc p).2 (fun q hq=>h q (by simp [hq]))
   have h2:=dmaps_len p acc
   have h3:=h p (by simp)
   rw [List.length_cons]
   omega
theorem info_pprog:(Tryz.prog.info? 29).map (fun i=>(i.zero,i.size,i.bytes))=some (some (.pointer none),1,8):=by kernel_rfl
theorem step_append_row {P:Program} {ops:Array Oper} {o:Oper} {a:Act} {w:World} {K:Act->World->Prop} {Q:Exit->Act->World->Prop} {E:Prop}
  (hgd:o.guard=none) (s x:Operand) (t:TypeId)
  (ho:o.op=.call { callee:=.builtin .append,args:=#[s,x],argTypes:=#[t,t] })
  (e:TypeId) (i:TypeInfo) (z:Value) (size bytes:Nat) (ht:P.underlying t=some (.slice e)) (hi:P.info? e=some i) (hz:i.zero=some z)
  (hsize:i.size=size) (hby:i.bytes=bytes) (hzs:z.cells.size=size) (hsz:0<size)
  (v:Value) (n:Nat) (xs:List Value) (hs:a.eval s=v) (hown:Sl w e size v n xs) (u:Value) (m:Nat) (ys:List Value) (hx:a.eval x=u) (harg:Sl w e size u m ys) (h1:∀ u∈ys,u.oneCell'=true)
  (h63:n+m<=maxLen) (hbytes:(n+m)*bytes<=140737488355328)
  (h:∀ v' w',Sl w' e size v' (n+m) (xs++ys)->Mods (fun k=>v.ownBlock=some k) w w'->(∀ k,v'.ownBlock=some k->v.ownBlock=some k\/w.heap.size<=k)->K (a.put o.dst v') w') :
  if Region.wanted o (yielded ops a.tmps)=true then Oper.wp P o a w K Q else E:=by
 have hw:Region.wanted o (yielded ops a.tmps)=true:=by simp [Region.wanted,hgd]
 rw [if_pos hw]
 obtain ⟨v',w',hr,h2,h3,h4⟩:=run_append_row (P:=P) w t o.type e i z size bytes ht hi hz hsize hby hzs hsz v n xs hown u m ys harg h1 h63 hbytes
 unfold Oper.wp execOp
 simp only [ho,resolve,invoke,builtin,Sem.run_bind,Sem.run_pure,Result.andThen_ok,List.map_toArray,List.map_cons,List.map_nil,hs,hx,hr]
 exact h v' w' h2 h3 h4
set_option maxRecDepth 100000 in
set_option maxHeartbeats 2000000 in
theorem dlink_any (w:World) (o:Option Addr) (cap:Nat) (objs:List (List UInt8)) (hb:0<objs.length->∃ g off,o=some ⟨g,off,none⟩/\∀ k (h:k<objs.length),w.cell? ⟨g,off+k,none⟩=some (.string (T objs[k]))) (hn:objs.length<=maxLen) (hs:∀ s∈objs,s.length<=maxLen) :
  Calls Tryz.prog 6 #[.slice o objs.length cap] w fun e w'=>LinkPost w objs e w':=by
 by_cases h0:objs.length=0
 ·have HL:Hid (docE objs=(9,0)):=by rw [Hid,docE,if_pos (.inl h0)]
  rw [h0];clear hb hs
  go_enter Tryz.func6,Tryz.ntmps6
  go_wp2_with fail;go_ret3
  exact LinkPost.no HL.out (by decide) (Mods.refl _ _)
 by_cases h8:8<objs.length
 ·have HL:Hid (docE objs=(9,0)):=by rw [Hid,docE,if_pos (.inr h8)]
  clear hb hs
  have hn2:objs.length<=9223372036854775807:=hn
  generalize objs.length=n at *
  have t1:decide ((n:Int)<1)=false:=by simp;omega
  go_enter Tryz.func6,Tryz.ntmps6
  go_wp2_with fail;go_ret3
  exact LinkPost.no HL.out (by decide) (Mods.refl _ _)
 obtain ⟨g,off,rfl,hcs⟩:=hb (by omega)
 obtain ⟨iP,hiP,hzP,hsP,hbP⟩:=info_parts info_pprog;obtain ⟨iM,hiM,hzM,hsM,hbM⟩:=info_parts info_map;obtain ⟨iF,hiF,hzF,hsF,hbF⟩:=info_parts info_fn
 have HE1:Hid (∀ k:Nat,(docsM objs).length=k->k<objs.length->docE objs=(7,(k:Int))):=fun k hk hl=>by
  rw [docE,if_neg (by omega),if_pos (by omega),hk]
 have HE2:Hid ((docsM objs).length=objs.length->docE objs=faultD (dtw 0 [] ((docsM objs).map (fun o=>o.2.1.map (·.name)))) (doth 0 [] ((docsM objs).map (·.1))).1 (dmiss (allN (docsM objs)) 0 ((docsM objs).map (·.2.2))) (dtoo (allM (docsM objs)) (allR (docsM objs)))):=fun hk=>by
  rw [docE,if_neg (by omega),if_neg (by omega)]
 have HC:Hid (∀ w',Mods Nil' w w'->∀ k (h:k<objs.length),w'.cell? ⟨g,off+k,none⟩=some (.string (T objs[k]))):=fun w' m k h=>cell_mods m (hcs k h)
 have HS:=hid hs
 have hno:objs.length<=8:=by omega
 have t1:decide ((objs.length:Int)<1)=false:=by simp;omega
 have t2:decide ((8:Int)<objs.length)=false:=by simp;omega
 clear hcs hs hb h8 hn h0
 go_enter Tryz.func6,Tryz.ntmps6
 go_upto_block 0 with fail
 go_cut [5] (fun lv wx=>∃ (ds:List DocD),Docs w lv ds wx/\ds.map (·.o)=docsM objs/\ds.length=objs.length)
 case first =>
  go_wp2_with fail
  go_loopg [5,6] objs.length (fun q lv iv wx=>∃ (k:Nat) (ds:List DocD),iv=.int .i64 k/\Docs w lv ds wx/\docsM objs=ds.map (·.o)++docsM (objs.drop k)/\ds.length=k/\k<=objs.length/\q=objs.length - k)
  case atStart=>exact ⟨0,[],rfl,Docs.nil w,rfl,rfl,Nat.zero_le _,rfl⟩
  case round =>
   obtain ⟨k,ds,rfl,hD,hdm,hdl,hk,rfl⟩:=hrel;have HD:=hid hD;have HR:=hid hdm;have HDL:=hid hdl;clear hdm hdl hD
   by_cases hkl:k<objs.length
   ·have c0:wr.cell? ⟨g,off+k,none⟩=some (.string (T objs[k])):=HC.out wr HD.out.md k hkl
    have HO:Hid (Calls Tryz.prog 10 #[.string (T objs[k]),.bool false] wr fun e w'=>OpenPost wr (T objs[k]) e w'):=open_any (T objs[k]) wr (by
     have:=HS.out _ (List.getElem_mem hkl)
     simpa [T,ByteArray.size] using this)
    have HX:=docsM_drop objs k hkl
    have HX2:Hid _:=HX
    clear HX;generalize T objs[k]=sk at *;go_wp2_with fail;refine HO.out.mono ?_;rintro e w2 ⟨m2,hop⟩
    cases ho:openM sk with
    | none =>
     rw [ho] at hop;obtain ⟨p,rfl⟩:=hop
     have HF:Hid (docE objs=(7,(k:Int))):=HE1.out k (by rw [HR.out,HX2.out,ho];simp [HDL.out]) hkl
     have HM:Hid (Mods Nil' w w2):=HD.out.md.trans m2
     clear HO HX2 HR HD m2 c0;go_wp2_with fail;go_ret3
     exact LinkPost.no HF.out (by decide) HM.out
    | some q =>
     rw [ho] at hop;obtain ⟨pb,rb,vM,vF,hs,bd,rfl,hI,hl,ol,_⟩:=hop
     have HA:Hid (DocAt (w2.alloc (.cells #[.pointer (some ⟨pb,0,none⟩)] 29)) ⟨pb,vM,vF,hs,q⟩):=(doc_of ho hI hl ol).quiet ((Mods.refl _ _).alloc _)
     have HDA:Hid (Docs w u5 ds (w2.alloc (.cells #[.pointer (some ⟨pb,0,none⟩)] 29))):=(HD.out.quiet m2).quiet ((Mods.refl _ _).alloc _)
     have HXB:Hid (docsM objs=(ds++[(⟨pb,vM,vF,hs,q⟩:DocD)]).map (·.o)++docsM (objs.drop (k+1))):=by
      rw [Hid,HR.out,HX2.out,ho];simp
     have hdk:ds.length<=1000:=by rw [HDL.out];omega
     clear HO HX2 HR HD m2 c0 hI hl ol ho
     go_wp2_with (at_builtin;refine wpList_append_sl _ rfl (.tmp 47) (.tmp 49) 35 rfl 29 iP (.pointer none) 1 8 Tryz.underlying35 hiP hzP hsP hbP rfl (by decide) u5 ds.length (ds.map DocD.ptr) rfl HDA.out.sl ⟨w2.heap.size,0,none⟩ 1 1 [.pointer (some ⟨pb,0,none⟩)] rfl rfl (news_cells _ _ _ _ (by simp)) (fun u hu=>by simp at hu;subst hu;rfl) (by unfold maxLen;omega) (by omega) ?_;intro v5 w5 s5 m5 l5)
     have HD5:Hid (Docs w v5 (ds++[⟨pb,vM,vF,hs,q⟩]) w5):=HDA.out.app HA.out s5 m5 l5
     clear s5 m5 l5
     go_roundg (objs.length - (k+1))
     case measure=>omega
     case rel=>exact ⟨k+1,_,by go_num,HD5.out,HXB.out,by rw [List.length_append,HDL.out];rfl,by omega,rfl⟩
   ·obtain rfl:k=objs.length:=by omega
    have HXB:Hid (ds.map (·.o)=docsM objs):=by
     have:=HR.out
     rw [List.drop_length] at this
     simpa [Hid,docsM] using this.symm
    go_wp2_with fail;go_meet
    exact ⟨ds,HD.out,HXB.out,HDL.out⟩
 case rest =>
 obtain ⟨ds,hD,hdm,hdl⟩:=hcut;obtain ⟨o5,c5,hv5,_⟩:=hD.sl.view;subst hv5
 obtain ⟨r1,hr1⟩:∃ r1,r1=dtw 0 [] (ds.map (fun d=>d.o.2.1.map (·.name))):=⟨_,rfl⟩
 obtain ⟨r2,hr2⟩:∃ r2,r2=doth 0 [] (ds.map (fun d=>d.o.1)):=⟨_,rfl⟩
 obtain ⟨r3,hr3⟩:∃ r3,r3=dmiss ((ds.flatMap DocD.fx).map (fun x=>x.1.name)) 0 (ds.map (fun d=>d.o.2.2)):=⟨_,rfl⟩
 have HFD:Hid (docE objs=faultD r1 r2.1 r3 (dtoo r2.2 ((ds.flatMap DocD.fx).map (·.1)))):=by
  rw [Hid,HE2.out (by rw [<- hdm,List.length_map];exact hdl),<- hdm,hr1,hr2,hr3]
  exact docs_fault hD.each
 have HDM:=hid hdm;have HDs:=hid hD
 have hno2:ds.length<=8:=by omega
 have HBD:Hid (∀ d∈ds,d.fx.length<=16/\d.o.1.length<=8):=fun d hd=>by
  have:=hD.each d hd
  exact ⟨by rw [this.fl];exact this.ok.fl,this.ok.ml⟩
 clear hD hdm hdl HE1 HE2 HC HS hno
 have HA0:Hid (AInv wc wc.heap.size (.slice none 0 0) (.slice none 0 0) [] [] (wc.alloc (.cells #[.slice none 0 0,.slice none 0 0] 41))):=AInv.start wc
 go_upto_block 2 with fail;generalize wc.alloc (.cells #[.slice none 0 0,.slice none 0 0] 41)=w1 at *;generalize wc.heap.size=ab at *
 obtain ⟨wO,hwO⟩:∃ wO,wO=wc:=⟨_,rfl⟩
 rw [<- hwO] at HA0 HDs;clear hwO
 go_cut [10] (fun _ wx=>∃ vF,AInv wO ab (.slice none 0 0) vF [] (ds.flatMap DocD.fx) wx/\r1=-1)
 case first =>
  go_wp2_with fail
  go_loopg [10] ds.length (fun q iv wx=>∃ (k:Nat) (vF:Value),iv=.int .i64 k/\AInv wO ab (.slice none 0 0) vF [] ((ds.take k).flatMap DocD.fx) wx/\r1=dtw k (((ds.take k).flatMap DocD.fx).map (fun x=>x.1.name)) ((ds.map (fun d=>d.o.2.1.map (·.name))).drop k)/\k<=ds.length/\q=ds.length - k)
  case atStart=>exact ⟨0,_,rfl,HA0.out,hr1,Nat.zero_le _,rfl⟩
  case round =>
   obtain ⟨k,vF,rfl,hA,hr,hk,rfl⟩:=hrel;have HA:=hid hA;have HR:=hid hr;clear hA hr HA0 hr1
   by_cases hkl:k<ds.length
   ·obtain ⟨g5,rfl,c0⟩:=(HDs.out.quiet HA.out.md).at rfl k hkl
    have hda:=(HDs.out.quiet HA.out.md).each _ (List.getElem_mem hkl)
    obtain ⟨oF,cF,hvF,_⟩:=hda.ro.rows.view;obtain ⟨oA,cA,hvA,_⟩:=HA.out.rows.view
    have c1:wr.cell? ⟨ds[k].pb,1,none⟩=some (.slice oF ds[k].fx.length cF):=by rw [hda.ro.prog.cell 1,<- hvF];rfl
    have hrb:((ds.take k).flatMap DocD.fx).length<=1000:=by
     have:=flat_bd DocD.fx 16 (ds.take k) (fun x hx=>(HBD.out x (List.mem_of_mem_take hx)).1)
     rw [List.length_take] at this
     omega
    have hfb:=(HBD.out _ (List.getElem_mem hkl)).1
    have HFN:Hid (∀ nm,Calls Tryz.prog 11 #[.pointer (some ⟨ab,0,none⟩),.string nm] wr fun e w'=>e=.returned (.int .i64 (placeM nm (((ds.take k).flatMap DocD.fx).map (fun x=>x.1.name))))/\w'=wr):=fun nm=>function_any ab nm _ _ vF wr HA.out.prog HA.out.rows hrb
    have HROW:Hid (∀ j (hj:j<ds[k].fx.length),∃ gF,oF=some ⟨gF,0,none⟩/\wr.cell? ⟨gF,j*8,none⟩=some (.string (ds[k].fx[j].1.name))):=fun j hj=>by
     obtain ⟨gF,h1,h2⟩:=hda.ro.rows.atR rfl hvF j hj
     exact ⟨gF,h1,h2 j hj 0 (by omega)⟩
    have HR2:Hid (r1=if (ds[k].fx.map (fun x=>x.1.name)).any (fun s=>decide (0<=placeM s (((ds.take k).flatMap DocD.fx).map (fun x=>x.1.name)))) then (k:Int) else dtw (k+1) (((ds.take (k+1)).flatMap DocD.fx).map (fun x=>x.1.name)) ((ds.map (fun d=>d.o.2.1.map (·.name))).drop (k+1))):=by
     have e1:(ds.map (fun d=>d.o.2.1.map (·.name)))[k]'(by simpa using hkl)=ds[k].fx.map (fun x=>x.1.name):=by
      rw [List.getElem_map,<- hda.f1,List.map_map];rfl
     rw [Hid,HR.out,dtw_drop _ _ k (by simpa using hkl),e1,take_flat DocD.fx ds k hkl,List.map_append]
    have HTK:Hid ((ds.take (k+1)).flatMap DocD.fx=(ds.take k).flatMap DocD.fx++ds[k].fx):=take_flat DocD.fx ds k hkl
    have HPF:Hid (∀ w',Mods Nil' wr w'->Sl w' 46 8 (.slice oF ds[k].fx.length cF) ds[k].fx.length (ds[k].fx.flatMap rowC)):=fun w' m=>by
     rw [<- hvF];exact hda.ro.rows.mods m (fun _ _=>id)
    have HSL:Hid (∀ u∈ds[k].fx.flatMap rowC,u.oneCell'=true):=rowC_one _ hda.slices
    clear hda hvF HR;generalize ds[k].fx=f2 at *;generalize ds[k].pb=pb at *;generalize (ds.take k).flatMap DocD.fx=rs at *
    generalize rs.map (fun x=>x.1.name)=rn at *
    subst hvA;go_wp2_with fail
    obtain ⟨wI,hwI⟩:∃ wI,wI=wr:=⟨_,rfl⟩
    rw [<- hwI] at HA HFN HROW HPF c0 c1;rw [<- hwI];clear hwI
    go_loopg [11] f2.length (fun q jv wx=>∃ j:Nat,jv=.int .i64 j/\wx=wI/\(∀ i (h:i<f2.length),i<j->placeM f2[i].1.name rn<0)/\j<=f2.length/\q=f2.length - j)
    case atStart=>exact ⟨0,rfl,rfl,fun _ _ h=>absurd h (Nat.not_lt_zero _),Nat.zero_le _,rfl⟩
    case round =>
     obtain ⟨j,rfl,hwx,hj,hjl,rfl⟩:=hrel;subst hwx;have HJ:=hid hj;clear hj
     by_cases hjf:j<f2.length
     ·obtain ⟨gF,rfl,n0⟩:=HROW.out j hjf
      have HFJ:Hid (Calls Tryz.prog 11 #[.pointer (some ⟨ab,0,none⟩),.string f2[j].1.name] wr fun e w'=>e=.returned (.int .i64 (placeM f2[j].1.name rn))/\w'=wr):=HFN.out _
      have HPJ:Hid (0<=placeM f2[j].1.name rn->r1=k):=fun h=>by
       rw [HR2.out,if_pos];rw [List.any_eq_true]
       exact ⟨_,List.mem_map.2 ⟨f2[j],List.getElem_mem hjf,rfl⟩,by simpa using h⟩
      have HPN:Hid (placeM f2[j].1.name rn<0->∀ i (h:i<f2.length),i<j+1->placeM f2[i].1.name rn<0):=fun h i hi hlt=>by
       by_cases e:i=j
       ·subst e;exact h
       ·exact HJ.out i hi (by omega)
      generalize f2[j].1.name=nm at *;generalize placeM nm rn=pl at *;go_wp2_with fail;refine HFJ.out.mono ?_;rintro e w2 ⟨rfl,rfl⟩
      by_cases hp:0<=pl
      ·have HF:Hid (docE objs=(4,(k:Int))):=by
        rw [Hid,HFD.out,faultD,if_pos (by rw [HPJ.out hp];omega),HPJ.out hp]
       have HM:Hid (Mods Nil' w w2):=HDs.out.md.trans HA.out.md
       clear HFJ HPJ HPN HFN HROW HPF HA;go_wp2_with fail;go_ret3
       exact LinkPost.no HF.out (by decide) HM.out
      ·have tp:decide (0<=pl)=false:=by simpa using hp
       have hpn:=HPN.out (by omega)
       have HPN2:=hid hpn;clear hpn HPJ HPN HFJ;go_wp2_with fail
       go_roundg (f2.length - (j+1))
       case measure=>omega
       case rel=>exact ⟨j+1,by go_num,rfl,HPN2.out,by omega,rfl⟩
     ·obtain rfl:j=f2.length:=by omega
      have HRN:Hid (r1=dtw (k+1) (((ds.take (k+1)).flatMap DocD.fx).map (fun x=>x.1.name)) ((ds.map (fun d=>d.o.2.1.map (·.name))).drop (k+1))):=by
       rw [Hid,HR2.out,if_neg];rw [List.any_eq_true]
       rintro ⟨s,hs,hp⟩
       obtain ⟨x,hx,rfl⟩:=List.mem_map.1 hs;obtain ⟨i,hi,rfl⟩:=List.getElem_of_mem hx
       have h1:=HJ.out i hi hi
       have h2:0<=placeM f2[i].1.name rn:=by simpa using hp
       omega
      clear HR2 HJ HROW HFN
      have p1:wr.cell? ⟨ab,1,none⟩=some (.slice oA rs.length cA):=HA.out.prog.cell 1
      have pf:=HA.out.prog.frozen
      go_upto_region 21 with fail
      go_region_law (refine step_append_row rfl (.tmp 91) (.tmp 98) 39 rfl 46 iF (.agg #[.string E0,.slice none 0 0,.slice none 0 0,.int .i64 0,.slice none 0 0,.slice none 0 0,.int .i64 0,.slice none 0 0]) 8 152 Tryz.underlying39 hiF hzF hsF hbF rfl (by decide) (.slice oA rs.length cA) rs.length (rs.flatMap rowC) (by simp [Act.eval]) (HA.out.quiet ((Mods.refl _ _).drew)).rows (.slice oF f2.length cF) f2.length (f2.flatMap rowC) (by simp [Act.eval]) (HPF.out _ ((Mods.refl _ _).drew)) HSL.out (by unfold maxLen;omega) (by omega) ?_;intro v5 w5 s5 m5 l5;obtain ⟨o6,c6,rfl,_⟩:=Sl.view s5;have yb:=(HA.out.quiet ((Mods.refl _ _).drew)).prog.mods m5 ((HA.out.quiet ((Mods.refl _ _).drew)).rows.notBlk (HA.out.quiet ((Mods.refl _ _).drew)).prog (by decide));have y1:w5.cell? ⟨ab,1,none⟩=some (.slice oA rs.length cA):=yb.cell 1;have yf:=yb.frozen;clear yb)
      all_goals
       go_wp2_with fail
       go_roundg (ds.length - (k+1))
       case measure=>omega
       case rel=>exact ⟨k+1,_,by go_num,by rw [HTK.out];exact (HA.out.quiet ((Mods.refl _ _).drew)).appF s5 m5 l5,HRN.out,by omega,rfl⟩
   ·obtain rfl:k=ds.length:=by omega
    have HAE:Hid (AInv wO ab (.slice none 0 0) vF [] (ds.flatMap DocD.fx) wr):=by
     have:=HA.out
     rw [List.take_length] at this;exact this
    have HRE:Hid (r1=-1):=by
     have:=HR.out
     rw [List.drop_eq_nil_of_le (by simp)] at this
     exact this
    clear HA HR;go_wp2_with fail;go_meet
    exact ⟨vF,HAE.out,HRE.out⟩
 case rest =>
 obtain ⟨vF,hA,hr1'⟩:=hcut;have HA1:=hid hA
 have HF1:Hid (docE objs=faultD (-1) r2.1 r3 (dtoo r2.2 ((ds.flatMap DocD.fx).map (·.1)))):=by rw [Hid,<- hr1'];exact HFD.out
 clear hA hr1' HFD hr1 HA0;go_upto_block 6 with fail
 go_cut [13] (fun _ wx=>∃ vM,AInv wO ab vM vF r2.2 (ds.flatMap DocD.fx) wx/\r2.1=-1)
 case first =>
  go_wp2_with fail
  go_loopg [13] ds.length (fun q iv wx=>∃ (k:Nat) (vM:Value) (acc:List RMap),iv=.int .i64 k/\AInv wO ab vM vF acc (ds.flatMap DocD.fx) wx/\r2=doth k acc ((ds.map (fun d=>d.o.1)).drop k)/\acc.length<=8*k/\k<=ds.length/\q=ds.length - k)
  case atStart=>exact ⟨0,_,[],rfl,HA1.out,hr2,by simp,Nat.zero_le _,rfl⟩
  case round =>
   obtain ⟨k,vM,acc,rfl,hA,hr,hal,hk,rfl⟩:=hrel;have HA:=hid hA;have HR:=hid hr;clear hA hr HA1 hr2
   by_cases hkl:k<ds.length
   ·have HDK:Hid (∀ w',Mods Nil' wO w'->DocAt w' ds[k]):=fun w' m=>(HDs.out.quiet m).each _ (List.getElem_mem hkl)
    obtain ⟨g5,rfl,_⟩:=(HDs.out.quiet HA.out.md).at rfl k hkl
    have HPT:Hid (∀ w',Mods Nil' wO w'->w'.cell? ⟨g5,k,none⟩=some (.pointer (some ⟨ds[k].pb,0,none⟩))):=fun w' m=>by
     obtain ⟨g,h1,h2⟩:=(HDs.out.quiet m).at rfl k hkl
     cases h1
     exact h2
    obtain ⟨oM,cM,hvM,_⟩:=(HDK.out wr HA.out.md).ro.maps.view
    have hmb:=(HBD.out _ (List.getElem_mem hkl)).2
    have HC1:Hid (∀ w',Mods Nil' wO w'->w'.cell? ⟨ds[k].pb,0,none⟩=some (.slice oM ds[k].o.1.length cM)):=fun w' m=>by
     rw [(HDK.out w' m).ro.prog.cell 0,<- hvM];rfl
    have HMS:Hid (∀ w',Mods Nil' wO w'->∀ j (hj:j<ds[k].o.1.length),∃ g,oM=some ⟨g,0,none⟩/\w'.cell? ⟨g,j*4,none⟩=some (.string ds[k].o.1[j].name)/\w'.cell? ⟨g,j*4+1,none⟩=some (.int .i64 ds[k].o.1[j].key)/\w'.cell? ⟨g,j*4+2,none⟩=some (.int .i64 ds[k].o.1[j].value)/\w'.cell? ⟨g,j*4+3,none⟩=some (.int .i64 ds[k].o.1[j].entries)):=fun w' m j hj=>by
     obtain ⟨g,h1,h2⟩:=(HDK.out w' m).ro.maps.at4 rfl hvM j hj
     exact ⟨g,h1,h2 j hj⟩
    have HR2:Hid (r2=if (dmaps acc ds[k].o.1).1 then ((k:Int),acc) else doth (k+1) (dmaps acc ds[k].o.1).2 ((ds.map (fun d=>d.o.1)).drop (k+1))):=by
     rw [Hid,HR.out,doth_drop _ _ k (by simpa using hkl),List.getElem_map]
    clear HDK hvM HR;generalize ds[k].o.1=m2 at *;generalize ds[k].pb=pb at *
    have c0:wr.cell? ⟨g5,k,none⟩=some (.pointer (some ⟨pb,0,none⟩)):=HPT.out wr HA.out.md
    go_wp2_with fail;clear c0
    go_loopg [14] m2.length (fun q jv wx=>∃ (j:Nat) (vM':Value) (acc':List RMap),jv=.int .i64 j/\AInv wO ab vM' vF acc' (ds.flatMap DocD.fx) wx/\dmaps acc m2=dmaps acc' (m2.drop j)/\acc'.length<=8*k+j/\j<=m2.length/\q=m2.length - j)
    case atStart=>exact ⟨0,vM,acc,rfl,HA.out,rfl,by omega,Nat.zero_le _,rfl⟩
    case round =>
     obtain ⟨j,vM',acc',rfl,hA',hdm,hal',hjl,rfl⟩:=hrel;have HA':=hid hA';have HDM':=hid hdm
     have c0:wr.cell? ⟨g5,k,none⟩=some (.pointer (some ⟨pb,0,none⟩)):=HPT.out wr hA'.md
     have c1:wr.cell? ⟨pb,0,none⟩=some (.slice oM m2.length cM):=HC1.out wr hA'.md
     obtain ⟨oA,cA,hvA,_⟩:=hA'.maps.view;clear hA' hdm HA
     by_cases hjm:j<m2.length
     ·obtain ⟨gM,rfl,n0,n1,n2,n3⟩:=HMS.out wr HA'.out.md j hjm
      have HDN:Hid (dmaps acc m2=if dcl acc' m2[j] then (true,acc') else dmaps (dnext acc' m2[j]) (m2.drop (j+1))):=by
       rw [Hid,HDM'.out,dmaps_drop _ _ j hjm]
      have HDC:Hid (dcl acc' m2[j]=(decide (0<=placeM m2[j].name (acc'.map (·.name)))&&!sameR (atR acc' (placeM m2[j].name (acc'.map (·.name))).toNat) m2[j])):=rfl
      have HDX:Hid (dnext acc' m2[j]=if placeM m2[j].name (acc'.map (·.name))<0 then acc'++[m2[j]] else acc'):=rfl
      have HNE:Hid (∀ a w',(binOp .neq 48 (.agg #[.string a.name,.int .i64 a.key,.int .i64 a.value,.int .i64 a.entries]) (.agg #[.string m2[j].name,.int .i64 m2[j].key,.int .i64 m2[j].value,.int .i64 m2[j].entries])).run Tryz.prog w'=.ok (.bool (!sameR a m2[j])) w'):=fun a w'=>neqR w' a m2[j]
      have hpb:=placeM_bd m2[j].name (acc'.map (·.name))
      rw [List.length_map] at hpb
      generalize hmx:m2[j]=mx at *
      clear HDM'
      have HA2:Hid (AInv wO ab vM' vF acc' (ds.flatMap DocD.fx) (wr.alloc (.cells #[.string mx.name,.int .i64 mx.key,.int .i64 mx.value,.int .i64 mx.entries] 48))):=HA'.out.quiet ((Mods.refl _ _).alloc _)
      have HST:Hid (Calls Tryz.prog 12 #[.pointer (some ⟨ab,0,none⟩),.string mx.name] (wr.alloc (.cells #[.string mx.name,.int .i64 mx.key,.int .i64 mx.value,.int .i64 mx.entries] 48)) fun e w'=>e=.returned (.int .i64 (placeM mx.name (acc'.map (·.name))))/\w'=wr.alloc (.cells #[.string mx.name,.int .i64 mx.key,.int .i64 mx.value,.int .i64 mx.entries] 48)):=store_any ab mx.name acc' vM' _ (HA2.out.prog.cell 0) HA2.out.maps (by omega)
      have HBM:Hid (Blk (wr.alloc (.cells #[.string mx.name,.int .i64 mx.key,.int .i64 mx.value,.int .i64 mx.entries] 48)) wr.heap.size #[.string mx.name,.int .i64 mx.key,.int .i64 mx.value,.int .i64 mx.entries] 48):=Blk.new _ _ _
      have HBN:=hid HA'.out.prog.lt;go_wp2_with fail;refine HST.out.mono ?_;rintro e w2 ⟨rfl,hw2⟩;rw [<- hw2] at HA2 HBM;clear HST hw2 n0 n1 n2 n3 c0 c1 HA';generalize wr.heap.size=B at *
      by_cases hp:0<=placeM mx.name (acc'.map (·.name))
      ·obtain ⟨pn,hpn⟩:∃ pn:Nat,placeM mx.name (acc'.map (·.name))=(pn:Int):=⟨(placeM mx.name (acc'.map (·.name))).toNat,by omega⟩
       rw [hpn] at HDC HDX hpb hp ⊢
       have hpl:pn<acc'.length:=by omega
       obtain ⟨gA,hgA,hcA⟩:=HA2.out.maps.at4 rfl hvA pn hpl;obtain ⟨a0,a1,a2,a3⟩:=hcA pn hpl
       have hat:atR acc' pn=acc'[pn]:=by simp [atR,hpl]
       have HDC2:Hid (dcl acc' mx=!sameR acc'[pn] mx):=by rw [Hid,HDC.out];simp [hat]
       have hne:=HNE.out acc'[pn]
       have HDX2:Hid (dnext acc' mx=acc'):=by rw [Hid,HDX.out,if_neg (by omega)]
       clear hcA hat HNE HDC HDX hpn hpb;generalize acc'[pn]=ma at *;subst hgA;subst hvA
       have b0:w2.cell? ⟨B,0,none⟩=some (.string mx.name):=HBM.out.cell 0
       have b1:w2.cell? ⟨B,1,none⟩=some (.int .i64 mx.key):=HBM.out.cell 1
       have b2:w2.cell? ⟨B,2,none⟩=some (.int .i64 mx.value):=HBM.out.cell 2
       have b3:w2.cell? ⟨B,3,none⟩=some (.int .i64 mx.entries):=HBM.out.cell 3
       have p0:w2.cell? ⟨ab,0,none⟩=some (.slice (some ⟨gA,0,none⟩) acc'.length cA):=HA2.out.prog.cell 0
       generalize sameR ma mx=q at *
       cases q with
       | false =>
        have HF:Hid (docE objs=(8,(k:Int))):=by
         have e1:(dmaps acc m2).1=true:=by rw [HDN.out,if_pos (by rw [HDC2.out];rfl)]
         have e2:r2.1=k:=by rw [HR2.out,if_pos e1]
         rw [Hid,HF1.out,faultD,if_neg (by decide),if_pos (by rw [e2];omega),e2]
        have HM:Hid (Mods Nil' w w2):=HDs.out.md.trans HA2.out.md
        clear HDN HDC2 HDX2 HR2;go_upto_region 30 with fail;go_quiet (fail)
        have HM2:Hid (Mods Nil' w (w2.drewN nq)):=HM.out.drewN nq
        clear HA2 HBM;generalize w2.drewN nq=wq at *;go_wp2_with fail;go_ret3
        exact LinkPost.no HF.out (by decide) HM2.out
       | true =>
        have HDN2:Hid (dmaps acc m2=dmaps acc' (m2.drop (j+1))):=by
         rw [Hid,HDN.out,if_neg (by rw [HDC2.out];decide),HDX2.out]
        clear HDN HDC2 HDX2;go_upto_region 30 with fail;go_quiet (fail)
        have HA3:Hid (AInv wO ab (.slice (some ⟨gA,0,none⟩) acc'.length cA) vF acc' (ds.flatMap DocD.fx) (w2.drewN nq)):=HA2.out.quiet ((Mods.refl _ _).drewN nq)
        clear HA2 HBM;generalize w2.drewN nq=wq at *;go_wp2_with fail
        go_roundg (m2.length - (j+1))
        case measure=>omega
        case rel=>exact ⟨j+1,_,acc',by go_num,HA3.out,HDN2.out,by omega,by omega,rfl⟩
      ·have hpn:placeM mx.name (acc'.map (·.name))=-1:=by omega
       rw [hpn] at HDC HDX ⊢
       have HDN2:Hid (dmaps acc m2=dmaps (acc'++[mx]) (m2.drop (j+1))):=by
        rw [Hid,HDN.out,if_neg (by rw [HDC.out];simp),HDX.out,if_pos (by decide)]
       clear HDN HDC HDX HNE hpn hpb hp;subst hvA;go_upto_region 30 with fail;go_quiet (fail)
       have HA3:Hid (AInv wO ab (.slice oA acc'.length cA) vF acc' (ds.flatMap DocD.fx) (w2.drewN nq)):=HA2.out.quiet ((Mods.refl _ _).drewN nq)
       have HB3:Hid (Blk (w2.drewN nq) B #[.string mx.name,.int .i64 mx.key,.int .i64 mx.value,.int .i64 mx.entries] 48):=HBM.out.drewN nq
       clear HA2 HBM;generalize w2.drewN nq=W at *
       have b0:W.cell? ⟨B,0,none⟩=some (.string mx.name):=HB3.out.cell 0
       have b1:W.cell? ⟨B,1,none⟩=some (.int .i64 mx.key):=HB3.out.cell 1
       have b2:W.cell? ⟨B,2,none⟩=some (.int .i64 mx.value):=HB3.out.cell 2
       have b3:W.cell? ⟨B,3,none⟩=some (.int .i64 mx.entries):=HB3.out.cell 3
       have p0:W.cell? ⟨ab,0,none⟩=some (.slice oA acc'.length cA):=HA3.out.prog.cell 0
       have pf:=HA3.out.prog.frozen
       have qa:∀ o,(W.alloc o).cell? ⟨ab,0,none⟩=some (.slice oA acc'.length cA):=fun o=>(HA3.out.quiet ((Mods.refl _ _).alloc o)).prog.cell 0
       go_upto_region 33 with fail
       go_region_law (refine step_append_sl rfl (.tmp 154) (.tmp 156) 38 rfl 48 iM (.agg #[.string E0,.int .i64 0,.int .i64 0,.int .i64 0]) 4 40 Tryz.underlying38 hiM hzM hsM hbM rfl (by decide) (.slice oA acc'.length cA) acc'.length (acc'.flatMap RMap.cells) (by simp [Act.eval]) (HA3.out.quiet (((Mods.refl _ _).drew).alloc _)).maps ⟨W.heap.size,0,none⟩ 1 1 (RMap.cells mx) (by simp [Act.eval]) rfl (news_cells _ _ _ _ (by simp)) (map_one _) (by unfold maxLen;omega) (by omega) ?_;intro v6 w6 s6 m6 l6;obtain ⟨o6,c6,rfl,_⟩:=Sl.view s6;have yb:=HA3.out.midM (((Mods.refl _ _).alloc _).drew) m6;have y0:w6.cell? ⟨ab,0,none⟩=some (.slice oA acc'.length cA):=yb.cell 0;have yf:=yb.frozen;clear yb)
       all_goals
        go_wp2_with fail
        go_roundg (m2.length - (j+1))
        case measure=>omega
        case rel=>exact ⟨j+1,_,acc'++[mx],by go_num,(HA3.out.quiet (((Mods.refl _ _).alloc _).drew)).appM s6 m6 l6,HDN2.out,by simp;omega,by omega,rfl⟩
     ·obtain rfl:j=m2.length:=by omega
      have HDE:Hid (dmaps acc m2=(false,acc')):=by
       rw [Hid,HDM'.out,List.drop_length];rfl
      have HRN:Hid (r2=doth (k+1) acc' ((ds.map (fun d=>d.o.1)).drop (k+1))):=by
       rw [Hid,HR2.out,HDE.out];rfl
      go_wp2_with fail
      go_roundg (ds.length - (k+1))
      case measure=>omega
      case rel=>exact ⟨k+1,vM',acc',by go_num,HA'.out,HRN.out,by omega,by omega,rfl⟩
   ·obtain rfl:k=ds.length:=by omega
    have HRE:Hid (r2=(-1,acc)):=by
     rw [Hid,HR.out,List.drop_eq_nil_of_le (by simp)];rfl
    clear HR;go_wp2_with fail;go_meet
    exact ⟨vM,by rw [HRE.out];exact HA.out,by rw [HRE.out]⟩
 case rest =>
 obtain ⟨vM,hA,hr2'⟩:=hcut;have HA1:=hid hA
 have HF2:Hid (docE objs=faultD (-1) (-1) r3 (dtoo r2.2 ((ds.flatMap DocD.fx).map (·.1)))):=by rw [Hid,HF1.out,hr2']
 have HAM:Hid (r2.2=allM (docsM objs)):=by rw [Hid,hr2,<- HDM.out,allM,List.map_map];rfl
 have hab:r2.2.length<=64:=by
  rw [hr2]
  have:=doth_len (ds.map (fun d=>d.o.1)) 0 [] (fun p hp=>by
   obtain ⟨d,hd,rfl⟩:=List.mem_map.1 hp
   exact (HBD.out d hd).2)
  rw [List.length_map] at this
  simp only [List.length_nil] at this
  omega
 have HSB:Hid (∀ x∈ds.flatMap DocD.fx,x.1.slots<=200):=fun x hx=>by
  obtain ⟨d,hd,hx⟩:=List.mem_flatMap.1 hx
  have hda:=HDs.out.each d hd
  exact hda.ok.s _ (by rw [<- hda.f1];exact List.mem_map.2 ⟨x,hx,rfl⟩)
 have HSUM:Hid (∀ k,sumR (((ds.take k).flatMap DocD.fx).map (·.1))<=30000):=fun k=>by
  have h1:=sumR_le (((ds.take k).flatMap DocD.fx).map (·.1)) (fun r hr=>by
   obtain ⟨x,hx,rfl⟩:=List.mem_map.1 hr;obtain ⟨d,hd,hx⟩:=List.mem_flatMap.1 hx
   exact HSB.out x (List.mem_flatMap.2 ⟨d,List.mem_of_mem_take hd,hx⟩))
  have h2:=flat_bd DocD.fx 16 (ds.take k) (fun x hx=>(HBD.out x (List.mem_of_mem_take hx)).1)
  rw [List.length_map] at h1;rw [List.length_take] at h2
  omega
 have hrl:(ds.flatMap DocD.fx).length<=128:=by
  have h2:=flat_bd DocD.fx 16 ds (fun x hx=>(HBD.out x hx).1)
  omega
 clear hA hr2' HF1 hr2;generalize r2.2=am at *;go_upto_block 10 with fail
 go_cut [17] (fun sv wx=>sv=.int .i64 ((sumR ((ds.flatMap DocD.fx).map (·.1)):Nat):Int)/\AInv wO ab vM vF am (ds.flatMap DocD.fx) wx/\r3=-1)
 case first =>
  go_wp2_with fail
  go_loopg [17,18] ds.length (fun q sv iv wx=>∃ k:Nat,iv=.int .i64 k/\sv=.int .i64 ((sumR (((ds.take k).flatMap DocD.fx).map (·.1)):Nat):Int)/\AInv wO ab vM vF am (ds.flatMap DocD.fx) wx/\r3=dmiss ((ds.flatMap DocD.fx).map (fun x=>x.1.name)) k ((ds.map (fun d=>d.o.2.2)).drop k)/\k<=ds.length/\q=ds.length - k)
  case atStart=>exact ⟨0,rfl,rfl,HA1.out,hr3,Nat.zero_le _,rfl⟩
  case round =>
   obtain ⟨k,rfl,rfl,hA,hr,hk,rfl⟩:=hrel;have HA:=hid hA;have HR:=hid hr;clear hA hr HA1 hr3
   by_cases hkl:k<ds.length
   ·have HDK:Hid (∀ w',Mods Nil' wO w'->DocAt w' ds[k]):=fun w' m=>(HDs.out.quiet m).each _ (List.getElem_mem hkl)
    obtain ⟨g5,rfl,_⟩:=(HDs.out.quiet HA.out.md).at rfl k hkl
    have HPT:Hid (∀ w',Mods Nil' wO w'->w'.cell? ⟨g5,k,none⟩=some (.pointer (some ⟨ds[k].pb,0,none⟩))):=fun w' m=>by
     obtain ⟨g,h1,h2⟩:=(HDs.out.quiet m).at rfl k hkl
     cases h1
     exact h2
    obtain ⟨oF,cF,hvF,_⟩:=(HDK.out wr HA.out.md).ro.rows.view
    have hfb:=(HBD.out _ (List.getElem_mem hkl)).1
    have HC1:Hid (∀ w',Mods Nil' wO w'->w'.cell? ⟨ds[k].pb,1,none⟩=some (.slice oF ds[k].fx.length cF)):=fun w' m=>by
     rw [(HDK.out w' m).ro.prog.cell 1,<- hvF];rfl
    have HOL:Hid (ds[k].o.2.2.length=ds[k].fx.length):=by rw [Hid,(HDK.out wr HA.out.md).ol,(HDK.out wr HA.out.md).fl]
    have HROW:Hid (∀ w',Mods Nil' wO w'->∀ j (hj:j<ds[k].fx.length) (hj2:j<ds[k].o.2.2.length),∃ gF,oF=some ⟨gF,0,none⟩/\(∀ c,c<8->w'.cell? ⟨gF,j*8+c,none⟩=(rowC ds[k].fx[j])[c]?)/\FRo w' ds[k].fx[j].2 ds[k].o.2.2[j]):=fun w' m j hj hj2=>by
     obtain ⟨gF,h1,h2⟩:=(HDK.out w' m).ro.rows.atR rfl hvF j hj
     exact ⟨gF,h1,h2 j hj,(HDK.out w' m).ro.each j hj2 hj⟩
    have HSL:Hid (∀ x∈ds[k].fx,x.1.slots<=200):=fun x hx=>HSB.out x (List.mem_flatMap.2 ⟨_,List.getElem_mem hkl,hx⟩)
    have HLB:Hid (∀ j (hj:j<ds[k].o.2.2.length),ds[k].o.2.2[j].ls.length<=200):=fun j hj=>by
     have hda:=HDK.out wr HA.out.md
     exact (hda.ok.a.get j (by rw [<- hda.ol];exact hj) hj).ll
    have HR2:Hid (r3=if ds[k].o.2.2.any (dbadF ((ds.flatMap DocD.fx).map (fun x=>x.1.name))) then (k:Int) else dmiss ((ds.flatMap DocD.fx).map (fun x=>x.1.name)) (k+1) ((ds.map (fun d=>d.o.2.2)).drop (k+1))):=by
     rw [Hid,HR.out,dmiss_drop _ _ k (by simpa using hkl),List.getElem_map]
    have HSK:Hid (sumR (((ds.take (k+1)).flatMap DocD.fx).map (·.1))=sumR (((ds.take k).flatMap DocD.fx).map (·.1))+sumR (ds[k].fx.map (·.1))):=by
     rw [Hid,take_flat DocD.fx ds k hkl,List.map_append,sumR_append]
    have hs0:=HSUM.out k
    clear HDK hvF HR;generalize ds[k].fx=f2 at *;generalize ds[k].o.2.2=o2 at *;generalize ds[k].pb=pb at *;generalize sumR (((ds.take k).flatMap DocD.fx).map (·.1))=s0 at *
    have c0:wr.cell? ⟨g5,k,none⟩=some (.pointer (some ⟨pb,0,none⟩)):=HPT.out wr HA.out.md
    go_wp2_with fail;clear c0
    go_loopg [17,19] f2.length (fun q sv jv wx=>∃ j:Nat,jv=.int .i64 j/\sv=.int .i64 ((s0+sumR ((f2.take j).map (·.1)):Nat):Int)/\AInv wO ab vM vF am (ds.flatMap DocD.fx) wx/\o2.any (dbadF ((ds.flatMap DocD.fx).map (fun x=>x.1.name)))=(o2.drop j).any (dbadF ((ds.flatMap DocD.fx).map (fun x=>x.1.name)))/\j<=f2.length/\q=f2.length - j)
    case atStart=>exact ⟨0,rfl,rfl,HA.out,rfl,Nat.zero_le _,rfl⟩
    case round =>
     obtain ⟨j,rfl,rfl,hA',hany,hjl,rfl⟩:=hrel;have HA':=hid hA';have HAN:=hid hany
     have c0:wr.cell? ⟨g5,k,none⟩=some (.pointer (some ⟨pb,0,none⟩)):=HPT.out wr hA'.md
     have c1:wr.cell? ⟨pb,1,none⟩=some (.slice oF f2.length cF):=HC1.out wr hA'.md
     clear hA' hany HA
     by_cases hjf:j<f2.length
     ·have hjo:j<o2.length:=by rw [HOL.out];exact hjf
      obtain ⟨gF,rfl,hc,hFR⟩:=HROW.out wr HA'.out.md j hjf hjo
      have HAN2:Hid (o2.any (dbadF ((ds.flatMap DocD.fx).map (fun x=>x.1.name)))=(dbadF ((ds.flatMap DocD.fx).map (fun x=>x.1.name)) o2[j]||(o2.drop (j+1)).any (dbadF ((ds.flatMap DocD.fx).map (fun x=>x.1.name))))):=by
       rw [Hid,HAN.out,any_drop _ _ j hjo]
      have HS1:Hid (s0+sumR ((f2.take (j+1)).map (·.1))=s0+sumR ((f2.take j).map (·.1))+f2[j].1.slots):=by
       rw [Hid,sumR_take f2 j hjf];omega
      have hsl:=HSL.out f2[j] (List.getElem_mem hjf)
      have hlb:=HLB.out j hjo
      have hs1:s0+sumR ((f2.take j).map (·.1))<=40000:=by
       have h1:=sumR_le ((f2.take j).map (·.1)) (fun r hr=>by
        obtain ⟨x,hx,rfl⟩:=List.mem_map.1 hr
        exact HSL.out x (List.mem_of_mem_take hx))
       rw [List.length_map,List.length_take] at h1
       omega
      clear HAN;generalize s0+sumR ((f2.take j).map (·.1))=s1 at *;generalize f2[j]=fj at *;generalize o2[j]=oj at *
      obtain ⟨⟨nm,sl⟩,⟨vL,vA,vB,vP⟩⟩:=fj
      have HFR:=hid hFR;obtain ⟨a1,a2,e1,_⟩:=hFR.sl.view;obtain ⟨b1,b2,e2,_⟩:=hFR.sa.view;obtain ⟨d1,d2,e3,_⟩:=hFR.sb.view;obtain ⟨p1,p2,e4,_⟩:=hFR.sp.view
      simp only at e1 e2 e3 e4 hsl
      subst e1 e2 e3 e4
      have n0:wr.cell? ⟨gF,j*8,none⟩=some (.string nm):=hc 0 (by omega)
      have n1:wr.cell? ⟨gF,j*8+1,none⟩=some (.slice a1 oj.ls.length a2):=hc 1 (by omega)
      have n2:wr.cell? ⟨gF,j*8+2,none⟩=some (.slice b1 oj.ats.length b2):=hc 2 (by omega)
      have n3:wr.cell? ⟨gF,j*8+3,none⟩=some (.int .i64 sl):=hc 3 (by omega)
      have n4:wr.cell? ⟨gF,j*8+4,none⟩=some (.slice d1 oj.lab.length d2):=hc 4 (by omega)
      have n5:wr.cell? ⟨gF,j*8+5,none⟩=some (.slice p1 oj.lab.length p2):=hc 5 (by omega)
      have n6:wr.cell? ⟨gF,j*8+6,none⟩=some (.int .i64 0):=hc 6 (by omega)
      have n7:wr.cell? ⟨gF,j*8+7,none⟩=some (.slice none 0 0):=hc 7 (by omega)
      clear hc hFR
      have HA2:Hid (AInv wO ab vM vF am (ds.flatMap DocD.fx) (wr.alloc (.cells #[.string nm,.slice a1 oj.ls.length a2,.slice b1 oj.ats.length b2,.int .i64 sl,.slice d1 oj.lab.length d2,.slice p1 oj.lab.length p2,.int .i64 0,.slice none 0 0] 46))):=HA'.out.quiet ((Mods.refl _ _).alloc _)
      have HB2:Hid (Blk (wr.alloc (.cells #[.string nm,.slice a1 oj.ls.length a2,.slice b1 oj.ats.length b2,.int .i64 sl,.slice d1 oj.lab.length d2,.slice p1 oj.lab.length p2,.int .i64 0,.slice none 0 0] 46)) wr.heap.size #[.string nm,.slice a1 oj.ls.length a2,.slice b1 oj.ats.length b2,.int .i64 sl,.slice d1 oj.lab.length d2,.slice p1 oj.lab.length p2,.int .i64 0,.slice none 0 0] 46):=Blk.new _ _ _
      have HIN:Hid (∀ i (hi:i<oj.ls.length),∃ gL,a1=some ⟨gL,0,none⟩/\(wr.alloc (.cells #[.string nm,.slice a1 oj.ls.length a2,.slice b1 oj.ats.length b2,.int .i64 sl,.slice d1 oj.lab.length d2,.slice p1 oj.lab.length p2,.int .i64 0,.slice none 0 0] 46)).cell? ⟨gL,i*8,none⟩=some (.string oj.ls[i].word)/\(wr.alloc (.cells #[.string nm,.slice a1 oj.ls.length a2,.slice b1 oj.ats.length b2,.int .i64 sl,.slice d1 oj.lab.length d2,.slice p1 oj.lab.length p2,.int .i64 0,.slice none 0 0] 46)).cell? ⟨gL,i*8+7,none⟩=some (.string oj.ls[i].name)):=fun i hi=>by
       have hsl:=HFR.out.sl.mods ((Mods.refl Nil' wr).alloc (.cells #[.string nm,.slice a1 oj.ls.length a2,.slice b1 oj.ats.length b2,.int .i64 sl,.slice d1 oj.lab.length d2,.slice p1 oj.lab.length p2,.int .i64 0,.slice none 0 0] 46)) (fun _ _=>id)
       obtain ⟨o',c',hv,h2⟩:=hsl.view
       cases hv
       obtain ⟨gL,cs,rfl,_⟩:=h2 (by omega)
       obtain ⟨q0,_,_,_,_,_,_,q7,_⟩:=hsl.at8 rfl i hi
       exact ⟨gL,rfl,q0,q7⟩
      have HBF:Hid (dbadF ((ds.flatMap DocD.fx).map (fun x=>x.1.name)) oj=oj.ls.any (dbadX ((ds.flatMap DocD.fx).map (fun x=>x.1.name)))):=rfl
      clear HFR HA';go_wp2_with fail;clear n0 n1 n2 n3 n4 n5 n6 n7 c0 c1;generalize wr.alloc (.cells #[.string nm,.slice a1 oj.ls.length a2,.slice b1 oj.ats.length b2,.int .i64 sl,.slice d1 oj.lab.length d2,.slice p1 oj.lab.length p2,.int .i64 0,.slice none 0 0] 46)=W at *;generalize wr.heap.size=B at *
      have b1:W.cell? ⟨B,1,none⟩=some (.slice a1 oj.ls.length a2):=HB2.out.cell 1
      clear HB2
      go_loopg [21] oj.ls.length (fun q iv wx=>∃ i:Nat,iv=.int .i64 i/\wx=W/\oj.ls.any (dbadX ((ds.flatMap DocD.fx).map (fun x=>x.1.name)))=(oj.ls.drop i).any (dbadX ((ds.flatMap DocD.fx).map (fun x=>x.1.name)))/\i<=oj.ls.length/\q=oj.ls.length - i)
      case atStart=>exact ⟨0,rfl,rfl,rfl,Nat.zero_le _,rfl⟩
      case round =>
       obtain ⟨i,rfl,hwx,hany,hil,rfl⟩:=hrel;subst hwx;have HAI:=hid hany;clear hany
       by_cases hi:i<oj.ls.length
       ·obtain ⟨gL,rfl,q0,q7⟩:=HIN.out i hi
        have HAI2:Hid (oj.ls.any (dbadX ((ds.flatMap DocD.fx).map (fun x=>x.1.name)))=(dbadX ((ds.flatMap DocD.fx).map (fun x=>x.1.name)) oj.ls[i]||(oj.ls.drop (i+1)).any (dbadX ((ds.flatMap DocD.fx).map (fun x=>x.1.name))))):=by
         rw [Hid,HAI.out,any_drop _ _ i hi]
        have HDB:Hid (dbadX ((ds.flatMap DocD.fx).map (fun x=>x.1.name)) oj.ls[i]=(decide (oj.ls[i].word=CALL)&&decide (placeM oj.ls[i].name ((ds.flatMap DocD.fx).map (fun x=>x.1.name))<0))):=rfl
        have HFN:Hid (Calls Tryz.prog 11 #[.pointer (some ⟨ab,0,none⟩),.string oj.ls[i].name] wr fun e w'=>e=.returned (.int .i64 (placeM oj.ls[i].name ((ds.flatMap DocD.fx).map (fun x=>x.1.name))))/\w'=wr):=function_any ab _ _ _ vF wr HA2.out.prog HA2.out.rows (by omega)
        clear HAI
        generalize dbadX ((ds.flatMap DocD.fx).map (fun x=>x.1.name)) oj.ls[i]=bx at *
        generalize oj.ls[i].word=wd at *;generalize oj.ls[i].name=nm2 at *
        by_cases hw:wd=CALL
        ·have t1:(wd.toList==[99,97,108,108])=true:=lit_eq hw
         have HDB2:Hid (bx=decide (placeM nm2 ((ds.flatMap DocD.fx).map (fun x=>x.1.name))<0)):=by
          rw [Hid,HDB.out,decide_eq_true hw,Bool.true_and]
         clear hw HDB
         generalize placeM nm2 ((ds.flatMap DocD.fx).map (fun x=>x.1.name))=pl at *
         go_wp2_with fail;refine HFN.out.mono ?_;rintro e w2 ⟨rfl,rfl⟩
         by_cases hp:pl<0
         ·have HF:Hid (docE objs=(5,(k:Int))):=by
           have e1:o2.any (dbadF ((ds.flatMap DocD.fx).map (fun x=>x.1.name)))=true:=by
            rw [HAN2.out,HBF.out,HAI2.out,HDB2.out,decide_eq_true hp];rfl
           have e2:r3=k:=by rw [HR2.out,if_pos e1]
           rw [Hid,HF2.out,faultD,if_neg (by decide),if_neg (by decide),if_pos (by rw [e2];omega),e2]
          have HM:Hid (Mods Nil' w w2):=HDs.out.md.trans HA2.out.md
          clear HFN HDB2 HAI2 HIN HA2 HR2 HAN2 HBF;go_wp2_with fail;go_ret3
          exact LinkPost.no HF.out (by decide) HM.out
         ·have tp:decide (pl<0)=false:=by simpa using hp
          have HAI3:Hid (oj.ls.any (dbadX ((ds.flatMap DocD.fx).map (fun x=>x.1.name)))=(oj.ls.drop (i+1)).any (dbadX ((ds.flatMap DocD.fx).map (fun x=>x.1.name)))):=by
           rw [Hid,HAI2.out,HDB2.out,tp];rfl
          clear HFN HDB2 HAI2 hp;go_wp2_with fail
          go_roundg (oj.ls.length - (i+1))
          case measure=>omega
          case rel=>exact ⟨i+1,by go_num,rfl,HAI3.out,by omega,rfl⟩
        ·have t1:(wd.toList==[99,97,108,108])=false:=lit_ne hw
         have HAI3:Hid (oj.ls.any (dbadX ((ds.flatMap DocD.fx).map (fun x=>x.1.name)))=(oj.ls.drop (i+1)).any (dbadX ((ds.flatMap DocD.fx).map (fun x=>x.1.name)))):=by
          rw [Hid,HAI2.out,HDB.out,decide_eq_false hw];rfl
         clear HFN HDB HAI2 hw;go_wp2_with fail
         go_roundg (oj.ls.length - (i+1))
         case measure=>omega
         case rel=>exact ⟨i+1,by go_num,rfl,HAI3.out,by omega,rfl⟩
       ·obtain rfl:i=oj.ls.length:=by omega
        have HAN3:Hid (o2.any (dbadF ((ds.flatMap DocD.fx).map (fun x=>x.1.name)))=(o2.drop (j+1)).any (dbadF ((ds.flatMap DocD.fx).map (fun x=>x.1.name)))):=by
         rw [Hid,HAN2.out,HBF.out,HAI.out,List.drop_length];rfl
        clear HIN HAN2 HAI HBF;go_wp2_with fail
        go_roundg (f2.length - (j+1))
        case measure=>omega
        case rel=>exact ⟨j+1,by go_num,by rw [HS1.out];go_num,HA2.out,HAN3.out,by omega,rfl⟩
     ·obtain rfl:j=f2.length:=by omega
      have HRN:Hid (r3=dmiss ((ds.flatMap DocD.fx).map (fun x=>x.1.name)) (k+1) ((ds.map (fun d=>d.o.2.2)).drop (k+1))):=by
       have e:o2.any (dbadF ((ds.flatMap DocD.fx).map (fun x=>x.1.name)))=false:=by
        rw [HAN.out,List.drop_eq_nil_of_le (by rw [HOL.out];exact Nat.le_refl _)];rfl
       rw [Hid,HR2.out,e];rfl
      have HSE:Hid (s0+sumR ((f2.take f2.length).map (·.1))=sumR (((ds.take (k+1)).flatMap DocD.fx).map (·.1))):=by
       rw [Hid,HSK.out,List.take_length]
      rw [HSE.out];go_wp2_with fail
      go_roundg (ds.length - (k+1))
      case measure=>omega
      case rel=>exact ⟨k+1,by go_num,rfl,HA'.out,HRN.out,by omega,rfl⟩
   ·obtain rfl:k=ds.length:=by omega
    have HRE:Hid (r3=-1):=by
     rw [Hid,HR.out,List.drop_eq_nil_of_le (by simp)];rfl
    clear HR;rw [List.take_length];go_wp2_with fail;go_meet
    exact ⟨rfl,HA.out,HRE.out⟩
 case rest =>
 obtain ⟨hs17,hA,hr3'⟩:=hcut;subst hs17
 have HF3:Hid (docE objs=faultD (-1) (-1) (-1) (dtoo am ((ds.flatMap DocD.fx).map (·.1)))):=by rw [Hid,HF2.out,hr3']
 have HDT:Hid (dtoo am ((ds.flatMap DocD.fx).map (·.1))=(decide (8<am.length)||decide (16<(ds.flatMap DocD.fx).length)||decide (200<sumR ((ds.flatMap DocD.fx).map (·.1))))):=by
  rw [Hid,dtoo,List.length_map]
 have hss:=HSUM.out ds.length
 rw [List.take_length] at hss;obtain ⟨oM,cM,hvM,_⟩:=hA.maps.view;obtain ⟨oF,cF,hvF,_⟩:=hA.rows.view
 have p0:wc.cell? ⟨ab,0,none⟩=some (.slice oM am.length cM):=by rw [<- hvM];exact hA.prog.cell 0
 have p1:wc.cell? ⟨ab,1,none⟩=some (.slice oF (ds.flatMap DocD.fx).length cF):=by rw [<- hvF];exact hA.prog.cell 1
 have hro:=all_ro hA (fun d hd=>(HDs.out.quiet hA.md).each d hd)
 have hzl:(ds.flatMap DocD.z).length=(ds.flatMap DocD.fx).length:=by rw [<- hro.2,List.length_map]
 have HSO:Hid (Calls Tryz.prog 13 #[.pointer (some ⟨ab,0,none⟩)] wc fun e w'=>e=.returned (.tuple #[])/\(docE objs=(0,0)->LinkPost w objs (.returned (.tuple #[.pointer (some ⟨ab,0,none⟩),.int .i64 0,.int .i64 0])) w')):=by
  refine (sorted_any wc ab vM vF am (ds.flatMap DocD.z) hro.1 (by omega) (by omega)).mono ?_
  rintro e w2 ⟨rfl,ms',z',pm,rm,pz,rz,hP,m2⟩
  refine ⟨rfl,fun hE=>⟨(HDs.out.md.trans hA.md).step m2 (fun i hi e=>?_),.inr ⟨by rw [hE],ab,vM,vF,ms',z',rfl,hP,by rw [<- HAM.out];exact pm,riseI_pw rm,?_,?_⟩⟩⟩
  ·have hz:=HDs.out.md.size
   rcases e with e | e
   ·have:=hA.ownM i e;omega
   ·have:=hA.ownF i e;omega
  ·rw [<- HDM.out,<- z_plain ds (fun d hd=>(HDs.out.quiet hA.md).each d hd)]
   exact pz.map _
  ·exact List.pairwise_map.2 (riseI_pw rz)
 have HM:Hid (Mods Nil' w wc):=HDs.out.md.trans hA.md
 clear hA hro hzl hvM hvF HDs HSUM HSB HBD HF2 hr3' HAM HDM hr3;generalize sumR ((ds.flatMap DocD.fx).map (·.1))=ss at *;generalize (ds.flatMap DocD.fx).length=rl at *
 by_cases q1:8<am.length
 ·have HF:Hid (docE objs=(1,0)):=by rw [Hid,HF3.out,HDT.out,decide_eq_true q1];rfl
  clear HF3 HDT HSO;go_wp2_with fail;go_ret3
  exact LinkPost.no HF.out (by decide) HM.out
 have t1:decide ((8:Int)<am.length)=false:=by simp;omega
 have t1':decide (8<am.length)=false:=by simp;omega
 by_cases q2:16<rl
 ·have HF:Hid (docE objs=(1,0)):=by rw [Hid,HF3.out,HDT.out,decide_eq_true q2,t1'];rfl
  clear HF3 HDT HSO;go_wp2_with fail;go_ret3
  exact LinkPost.no HF.out (by decide) HM.out
 have t2:decide ((16:Int)<rl)=false:=by simp;omega
 have t2':decide (16<rl)=false:=by simp;omega
 by_cases q3:200<ss
 ·have HF:Hid (docE objs=(1,0)):=by rw [Hid,HF3.out,HDT.out,decide_eq_true q3,t1',t2'];rfl
  clear HF3 HDT HSO;go_wp2_with fail;go_ret3
  exact LinkPost.no HF.out (by decide) HM.out
 have t3:decide ((200:Int)<ss)=false:=by simp;omega
 have t3':decide (200<ss)=false:=by simp;omega
 have HF:Hid (docE objs=(0,0)):=by rw [Hid,HF3.out,HDT.out,t1',t2',t3'];rfl
 clear HF3 HDT t1' t2' t3';go_wp2_with fail;refine HSO.out.mono ?_;rintro e w2 ⟨rfl,hP⟩
 have HP:Hid (LinkPost w objs (.returned (.tuple #[.pointer (some ⟨ab,0,none⟩),.int .i64 0,.int .i64 0])) w2):=hP HF.out
 clear HSO HF HM hP;go_wp2_with fail;go_ret3;exact HP.out
end Go.Proofs.YtoknbkfclhmapaaGreatDoor
