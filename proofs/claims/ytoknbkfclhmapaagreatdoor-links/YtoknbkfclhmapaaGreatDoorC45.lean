import Derived.Test.YtoknbkfclhmapaaGreatDoorC18
import Derived.Test.YtoknbkfclhmapaaGreatDoorC44
import Derived.BigQuiet
import Derived.Deep.LoopGhost
import Derived.Deep.DeepCutAuto
namespace Go.Proofs.YtoknbkfclhmapaaGreatDoor
open Go.RowKit
theorem less_lt (x:List UInt8):∀ y:List UInt8,Op.bytesLess x y=decide (x<y):=by
 induction x with
 | nil=>intro y;cases y<;>simp [Op.bytesLess]
 | cons a x ih =>
  intro y
  cases y with
  | nil=>simp [Op.bytesLess]
  | cons b y =>
   rw [Op.bytesLess,ih y]
   by_cases h:a=b
   ·subst h;simp
   ·simp [List.cons_lt_cons_iff,h]
theorem ltB_eq (a b:ByteArray):ltB a b=decide (a.toList<b.toList):=by
 unfold ltB;exact less_lt _ _
theorem ltB_irrefl (a:ByteArray):ltB a a=false:=by
 rw [ltB_eq];simp [List.lt_irrefl]
theorem ltB_trans {a b c:ByteArray} (h1:ltB a b=true) (h2:ltB b c=true):ltB a c=true:=by
 rw [ltB_eq] at *
 simp only [decide_eq_true_eq] at *
 exact List.lt_trans h1 h2
theorem ltB_asymm {a b:ByteArray} (h1:ltB a b=true):ltB b a=false:=by
 cases h:ltB b a with
 | false=>rfl
 | true=>have:=ltB_trans h1 h;rw [ltB_irrefl] at this;cases this
theorem ltB_total {a b:ByteArray} (h1:ltB a b=false) (h2:ltB b a=false):a=b:=by
 rw [ltB_eq] at *
 simp only [decide_eq_false_iff_not] at *
 have h3:a.toList=b.toList:=List.le_antisymm (List.not_lt.1 h2) (List.not_lt.1 h1)
 apply ByteArray.ext
 apply Array.toList_inj.1
 rw [<- ByteArray.toList_eq,<- ByteArray.toList_eq];exact h3
theorem leB_trans {a b c:ByteArray} (h1:ltB b a=false) (h2:ltB c b=false):ltB c a=false:=by
 cases h:ltB c a with
 | false=>rfl
 | true =>
  cases h3:ltB b c with
  | true=>have:=ltB_trans h3 h;rw [h1] at this;cases this
  | false =>
   have:=ltB_total h2 h3
   subst this
   rw [h1] at h;cases h
section
variable {α : Type} (nm : α -> ByteArray)
structure InsI (l:List α) (i k:Nat):Prop where
 le:∀ p q (hp:p<l.length) (hq:q<l.length),p<q->q<=i->p≠k->q≠k->ltB (nm l[q]) (nm l[p])=false
 lt:∀ q (hq:q<l.length) (hk:k<l.length),k<q->q<=i->ltB (nm l[k]) (nm l[q])=true
def RiseI (l:List α) (i:Nat):Prop:=∀ p q (hp:p<l.length) (hq:q<l.length),p<q->q<i->ltB (nm l[q]) (nm l[p])=false
theorem InsI.start {l:List α} {i:Nat} (h:RiseI nm l i):InsI nm l i i :=
 ⟨fun p q hp hq h1 h2 _ h4=>h p q hp hq h1 (by omega),fun q _ _ h1 h2=>absurd h1 (by omega)⟩
theorem InsI.done0 {l:List α} {i:Nat} (h:InsI nm l i 0):RiseI nm l (i+1):=by
 intro p q hp hq h1 h2
 by_cases e:p=0
 ·subst e;exact ltB_asymm (h.lt q hq hp h1 (by omega))
 ·exact h.le p q hp hq h1 (by omega) e (by omega)
theorem InsI.done {l:List α} {i k:Nat} (h:InsI nm l i k) (hk:k<l.length) (hk0:0<k) (hki:k<=i) (ht:ltB (nm l[k]) (nm (l[k - 1]'(by omega)))=false):RiseI nm l (i+1):=by
 intro p q hp hq h1 h2
 by_cases e:p=k
 ·subst e;exact ltB_asymm (h.lt q hq hp h1 (by omega))
 ·by_cases e2:q=k
  ·subst e2
   by_cases e3:p=q - 1
   ·subst e3;exact ht
   ·exact leB_trans (h.le p (q - 1) hp (by omega) (by omega) (by omega) e (by omega)) ht
  ·exact h.le p q hp hq h1 (by omega) e e2
def swapI (l:List α) (k:Nat) (hk:k<l.length) (hk1:k - 1<l.length):List α:=(l.set k l[k - 1]).set (k - 1) l[k]
theorem swapI_len (l:List α) (k:Nat) (hk:k<l.length) (hk1:k - 1<l.length):(swapI l k hk hk1).length=l.length:=by simp [swapI]
theorem swapI_get (l:List α) (k:Nat) (hk:k<l.length) (hk1:k - 1<l.length) (j:Nat) (hj:j<l.length):(swapI l k hk hk1)[j]'(by rw [swapI_len];exact hj)=if j=k - 1 then l[k] else if j=k then l[k - 1] else l[j]:=by
 simp only [swapI,List.getElem_set]
 by_cases h1:k - 1=j
 ·simp [h1]
 ·have h1':¬ j=k - 1:=fun e=>h1 e.symm
  rw [if_neg h1,if_neg h1']
  by_cases h2:k=j
  ·simp [h2]
  ·have h2':¬ j=k:=fun e=>h2 e.symm
   rw [if_neg h2,if_neg h2']
theorem InsI.step {l:List α} {i k:Nat} (h:InsI nm l i k) (hk:k<l.length) (hk1:k - 1<l.length) (hk0:0<k) (_hki:k<=i) (ht:ltB (nm l[k]) (nm l[k - 1])=true):InsI nm (swapI l k hk hk1) i (k - 1):=by
 constructor
 ·intro p q hp hq h1 h2 h3 h4;rw [swapI_len] at hp hq;rw [swapI_get l k hk hk1 q hq,swapI_get l k hk hk1 p hp,if_neg h4,if_neg h3]
  by_cases e:q=k
  ·rw [if_pos e,if_neg (by omega)]
   exact h.le p (k - 1) hp hk1 (by omega) (by omega) (by omega) (by omega)
  ·rw [if_neg e]
   by_cases e2:p=k
   ·rw [if_pos e2]
    exact h.le (k - 1) q hk1 hq (by omega) h2 (by omega) e
   ·rw [if_neg e2];exact h.le p q hp hq h1 h2 e2 e
 ·intro q hq hk' h1 h2;rw [swapI_len] at hq
  rw [swapI_get l k hk hk1 q hq,swapI_get l k hk hk1 (k - 1) hk1,if_pos rfl,if_neg (by omega)]
  by_cases e:q=k
  ·rw [if_pos e];exact ht
  ·rw [if_neg e];exact h.lt q hq hk (by omega) h2
theorem swapI_perm (l:List α) (k:Nat) (hk:k<l.length) (hk1:k - 1<l.length) (hk0:0<k):(swapI l k hk hk1).Perm l:=by
 obtain ⟨a,b,hl,ha⟩:∃ a b,l=a++l[k - 1]::l[k]::b/\a.length=k - 1:=by
  refine ⟨l.take (k - 1),l.drop (k+1),?_,by simp;omega⟩
  have h1:l.drop (k - 1)=l[k - 1]::l.drop k:=by
   rw [List.drop_eq_getElem_cons hk1]
   congr 2;omega
  have h2:l.drop k=l[k]::l.drop (k+1):=List.drop_eq_getElem_cons hk
  rw [<- h2,<- h1,List.take_append_drop]
 have key:swapI l k hk hk1=a++l[k]::l[k - 1]::b:=by
  apply List.ext_getElem?
  intro j
  by_cases hj:j<l.length
  ·rw [List.getElem?_eq_getElem (by rw [swapI_len];exact hj),swapI_get l k hk hk1 j hj]
   have hj':l[j]?=(a++l[k - 1]::l[k]::b)[j]?:=by rw [<- hl]
   rcases Nat.lt_or_ge j (k - 1) with h1 | h1
   ·rw [if_neg (by omega),if_neg (by omega),<- List.getElem?_eq_getElem hj,hj',List.getElem?_append_left (by omega),List.getElem?_append_left (by omega)]
   ·rw [List.getElem?_append_right (by omega)] at hj' ⊢
    by_cases e:j=k - 1
    ·subst e;simp [ha]
    ·by_cases e2:j=k
     ·subst e2
      have:j - a.length=1:=by omega
      rw [if_neg e,if_pos rfl,this];simp
     ·rw [if_neg e,if_neg e2,<- List.getElem?_eq_getElem hj,hj']
      obtain ⟨m,hm⟩:∃ m,j - a.length=m+2:=⟨j - a.length - 2,by omega⟩
      rw [hm];simp
  ·rw [List.getElem?_eq_none (by rw [swapI_len];omega)]
   have:l.length=(a++l[k]::l[k - 1]::b).length:=by
    have:=congrArg List.length hl
    simpa using this
   rw [List.getElem?_eq_none (by omega)]
 rw [key]
 conv=>rhs;rw [hl]
 exact List.Perm.append_left a (List.Perm.swap _ _ _)
end
structure MSt (w0:World) (pb:Nat) (oM:Option Addr) (cM:Nat) (vF:Value) (n:Nat) (l:List RMap) (w:World):Prop where
 prog:Blk w pb #[.slice oM n cM,vF] 41
 maps:Sl w 48 4 (.slice oM n cM) l.length (l.flatMap RMap.cells)
 len:l.length=n
 md:Mods (fun k=>Value.ownBlock (.slice oM n cM)=some k) w0 w
theorem MSt.at {w0 w:World} {pb cM n:Nat} {oM:Option Addr} {vF:Value} {l:List RMap} (h:MSt w0 pb oM cM vF n l w) (k:Nat) (hk:k<l.length) :
  ∃ g,oM=some ⟨g,0,none⟩/\∀ j (hj:j<l.length),w.cell? ⟨g,j*4,none⟩=some (.string l[j].name)/\w.cell? ⟨g,j*4+1,none⟩=some (.int .i64 l[j].key)/\w.cell? ⟨g,j*4+2,none⟩=some (.int .i64 l[j].value)/\w.cell? ⟨g,j*4+3,none⟩=some (.int .i64 l[j].entries):=by
 have hm:=h.maps
 have hl:=h.len
 subst hl;exact hm.at4 rfl rfl k hk
theorem Sl.frz {w:World} {e:TypeId} {size g n cap:Nat} {xs:List Value} (h:Sl w e size (.slice (some ⟨g,0,none⟩) n cap) n xs) (hn:0<n):∀ j,w.frozen? ⟨g,j,none⟩=false:=by
 obtain ⟨o,c,hv,hb⟩:=h.view
 injection hv with h1 h2 h3
 obtain ⟨g',cs,hg,hb,_⟩:=hb hn;rw [<- h1] at hg
 cases hg
 exact hb.frozen
theorem MSt.frz {w0 w:World} {pb cM n g:Nat} {vF:Value} {l:List RMap} (h:MSt w0 pb (some ⟨g,0,none⟩) cM vF n l w) (hn:0<n):∀ j,w.frozen? ⟨g,j,none⟩=false:=by
 have hm:=h.maps
 rw [h.len] at hm;exact hm.frz hn
abbrev FZ:=(RFn × HFn) × FOut
def FZ.nm (z:FZ):ByteArray:=z.1.1.name
structure FSt (w0:World) (pb:Nat) (vM:Value) (oF:Option Addr) (cF n:Nat) (ms:List RMap) (z:List FZ) (w:World):Prop where
 prog:Blk w pb #[vM,.slice oF n cF] 41
 maps:Sl w 48 4 vM ms.length (ms.flatMap RMap.cells)
 rows:Sl w 46 8 (.slice oF n cF) n ((z.map (·.1)).flatMap rowC)
 each:∀ x∈z,FRo w x.1.2 x.2
 len:z.length=n
 md:Mods (fun k=>Value.ownBlock (.slice oF n cF)=some k) w0 w
theorem FRo.mods {w w':World} {h:HFn} {o:FOut} {S:Nat->Prop} (f:FRo w h o) (m:Mods S w w') (hl:∀ k,h.vL.ownBlock=some k->¬ S k) (ha:∀ k,h.vA.ownBlock=some k->¬ S k) (hb:∀ k,h.vB.ownBlock=some k->¬ S k) (hp:∀ k,h.vP.ownBlock=some k->¬ S k):FRo w' h o :=
 ⟨f.sl.mods m hl,f.sa.mods m ha,f.sb.mods m hb,f.sp.mods m hp⟩
theorem FSt.quiet {w0 w w':World} {pb cF n:Nat} {oF:Option Addr} {vM:Value} {ms:List RMap} {z:List FZ} (h:FSt w0 pb vM oF cF n ms z w) (m:Mods Nil' w w'):FSt w0 pb vM oF cF n ms z w' :=
 ⟨h.prog.mods m id,h.maps.mods m (fun _ _=>id),h.rows.mods m (fun _ _=>id),fun x hx=>(h.each x hx).quiet m,h.len,h.md.trans (m.mono (fun _ _ e=>e.elim))⟩
theorem FSt.at {w0 w:World} {pb cF n:Nat} {oF:Option Addr} {vM:Value} {ms:List RMap} {z:List FZ} (h:FSt w0 pb vM oF cF n ms z w) (k:Nat) (hk:k<z.length) :
  ∃ g,oF=some ⟨g,0,none⟩/\∀ j (hj:j<z.length) c,c<8->w.cell? ⟨g,j*8+c,none⟩=(rowC z[j].1)[c]?:=by
 have hr:=h.rows
 have hl:n=(z.map (·.1)).length:=by rw [List.length_map];exact h.len.symm
 obtain ⟨g,hg,hc⟩:=hr.atR hl rfl k (by simpa using hk)
 exact ⟨g,hg,fun j hj c hc'=>by rw [hc j (by simpa using hj) c hc',List.getElem_map]⟩
theorem FSt.frz {w0 w:World} {pb cF n g:Nat} {vM:Value} {ms:List RMap} {z:List FZ} (h:FSt w0 pb vM (some ⟨g,0,none⟩) cF n ms z w) (hn:0<n):∀ j,w.frozen? ⟨g,j,none⟩=false:=h.rows.frz hn
def setRow8 (w:World) (g k:Nat) (r:RFn) (v:HFn):World :=
 (((((((w.setCell ⟨g,k*8,none⟩ (.string r.name)).setCell ⟨g,k*8+1,none⟩ v.vL).setCell ⟨g,k*8+2,none⟩ v.vA).setCell ⟨g,k*8+3,none⟩ (.int .i64 r.slots)).setCell ⟨g,k*8+4,none⟩ v.vB).setCell ⟨g,k*8+5,none⟩ v.vP).setCell ⟨g,k*8+6,none⟩ (.int .i64 0)).setCell ⟨g,k*8+7,none⟩ (.slice none 0 0)
theorem setRow8_mods {S:Nat->Prop} {w0 w:World} {g k:Nat} {r:RFn} {v:HFn} (h:Mods S w0 w) (hg:S g\/w0.heap.size<=g):Mods S w0 (setRow8 w g k r v) :=
 (((((((h.set (a:=⟨g,k*8,none⟩) hg _).set (a:=⟨g,k*8+1,none⟩) hg _).set (a:=⟨g,k*8+2,none⟩) hg _).set (a:=⟨g,k*8+3,none⟩) hg _).set (a:=⟨g,k*8+4,none⟩) hg _).set (a:=⟨g,k*8+5,none⟩) hg _).set (a:=⟨g,k*8+6,none⟩) hg _).set (a:=⟨g,k*8+7,none⟩) hg _
theorem FSt.put {w0 w:World} {pb cF n g:Nat} {vM:Value} {ms:List RMap} {z:List FZ} (h:FSt w0 pb vM (some ⟨g,0,none⟩) cF n ms z w) (k:Nat) (hk:k<z.length) (x:FZ) (hx:FRo w x.1.2 x.2) :
  FSt w0 pb vM (some ⟨g,0,none⟩) cF n ms (z.set k x) (setRow8 w g k x.1.1 x.1.2):=by
 have hl:=h.len
 obtain ⟨⟨r,v⟩,o⟩:=x
 simp only at hx ⊢
 have hf:∀ y:RFn × HFn,(rowC y).length=8:=rowC_len
 have hk':k<(z.map (·.1)).length:=by simpa using hk
 have e1:=h.rows.setAt (k*8) (.string r.name) (by omega)
 have e2:=e1.setAt (k*8+1) v.vL (by omega)
 have e3:=e2.setAt (k*8+2) v.vA (by omega)
 have e4:=e3.setAt (k*8+3) (.int .i64 r.slots) (by omega)
 have e5:=e4.setAt (k*8+4) v.vB (by omega)
 have e6:=e5.setAt (k*8+5) v.vP (by omega)
 have e7:=e6.setAt (k*8+6) (.int .i64 0) (by omega)
 have e8:=e7.setAt (k*8+7) (.slice none 0 0) (by omega)
 generalize hz:(z.map (·.1))[k]=y at *
 obtain ⟨ry,vy⟩:=y
 rw [show k*8=k*8+0 from rfl,flat_set rowC 8 hf (z.map (·.1)) k 0 hk' (by omega) _ ({ ry with name:=r.name },vy) (by rw [hz];rfl),
  flat_set rowC 8 hf _ k 1 (by simpa using hk) (by omega) _ ({ ry with name:=r.name },{ vy with vL:=v.vL }) (by simp [rowC]),
  flat_set rowC 8 hf _ k 2 (by simpa using hk) (by omega) _ ({ ry with name:=r.name },{ vy with vL:=v.vL,vA:=v.vA }) (by simp [rowC]),
  flat_set rowC 8 hf _ k 3 (by simpa using hk) (by omega) _ (r,{ vy with vL:=v.vL,vA:=v.vA }) (by simp [rowC]),
  flat_set rowC 8 hf _ k 4 (by simpa using hk) (by omega) _ (r,{ vy with vL:=v.vL,vA:=v.vA,vB:=v.vB }) (by simp [rowC]),
  flat_set rowC 8 hf _ k 5 (by simpa using hk) (by omega) _ (r,v) (by simp [rowC]),
  flat_set rowC 8 hf _ k 6 (by simpa using hk) (by omega) _ (r,v) (by simp [rowC]),
  flat_set rowC 8 hf _ k 7 (by simpa using hk) (by omega) _ (r,v) (by simp [rowC])] at e8
 simp only [List.set_set] at e8
 have hm:Mods (Only g) w (setRow8 w g k r v):=setRow8_mods (Mods.refl _ _) (.inl rfl)
 have sep:∀ (u:HFn) (o:FOut),FRo w u o->FRo (setRow8 w g k r v) u o:=fun u o f =>
  f.mods hm (fun b hb e=>f.sl.apart h.rows (by decide) hb (by rw [show b=g from e];rfl)) (fun b hb e=>f.sa.apart h.rows (by decide) hb (by rw [show b=g from e];rfl)) (fun b hb e=>f.sb.apart h.rows (by decide) hb (by rw [show b=g from e];rfl)) (fun b hb e=>f.sp.apart h.rows (by decide) hb (by rw [show b=g from e];rfl))
 refine ⟨h.prog.mods hm (fun e=>h.rows.notBlk h.prog (by decide) (by rw [show pb=g from e];rfl)),h.maps.mods hm (fun b hb e=>h.maps.apart h.rows (by decide) hb (by rw [show b=g from e];rfl)),?_,?_,by rw [List.length_set];exact hl,setRow8_mods h.md (.inl rfl)⟩
 ·rw [List.map_set];exact e8
 ·intro y hy
  rcases List.mem_or_eq_of_mem_set hy with hy | rfl
  ·exact sep _ _ (h.each y hy)
  ·exact sep _ _ hx
theorem MSt.put {w0 w:World} {pb cM n g:Nat} {vF:Value} {l:List RMap} (h:MSt w0 pb (some ⟨g,0,none⟩) cM vF n l w) (hpg:pb≠g) (k:Nat) (hk:k<l.length) (m:RMap) :
  MSt w0 pb (some ⟨g,0,none⟩) cM vF n (l.set k m) ((((w.setCell ⟨g,k*4,none⟩ (.string m.name)).setCell ⟨g,k*4+1,none⟩ (.int .i64 m.key)).setCell ⟨g,k*4+2,none⟩ (.int .i64 m.value)).setCell ⟨g,k*4+3,none⟩ (.int .i64 m.entries)):=by
 have hl:=h.len
 have hm:=h.maps
 rw [hl] at hm
 have hf:∀ x:RMap,x.cells.length=4:=fun _=>rfl
 have e1:=hm.setAt (k*4) (.string m.name) (by omega)
 have e2:=e1.setAt (k*4+1) (.int .i64 m.key) (by omega)
 have e3:=e2.setAt (k*4+2) (.int .i64 m.value) (by omega)
 have e4:=e3.setAt (k*4+3) (.int .i64 m.entries) (by omega)
 rw [show k*4=k*4+0 from rfl,flat_set RMap.cells 4 hf l k 0 hk (by omega) _ { l[k] with name:=m.name } rfl,
  flat_set RMap.cells 4 hf _ k 1 (by simpa using hk) (by omega) _ { l[k] with name:=m.name,key:=m.key } (by simp [RMap.cells]),
  flat_set RMap.cells 4 hf _ k 2 (by simpa using hk) (by omega) _ { l[k] with name:=m.name,key:=m.key,value:=m.value } (by simp [RMap.cells]),
  flat_set RMap.cells 4 hf _ k 3 (by simpa using hk) (by omega) _ m (by simp [RMap.cells])] at e4
 simp only [List.set_set] at e4
 refine ⟨?_,by rw [List.length_set,hl];exact e4,by rw [List.length_set];exact hl,?_⟩
 ·exact (((h.prog.setOther (a:=⟨g,k*4,none⟩) (show g≠pb from fun e=>hpg e.symm) _).setOther (a:=⟨g,k*4+1,none⟩) (show g≠pb from fun e=>hpg e.symm) _).setOther (a:=⟨g,k*4+2,none⟩) (show g≠pb from fun e=>hpg e.symm) _).setOther (a:=⟨g,k*4+3,none⟩) (show g≠pb from fun e=>hpg e.symm) _
 ·exact (((h.md.set (a:=⟨g,k*4,none⟩) (.inl rfl) _).set (a:=⟨g,k*4+1,none⟩) (.inl rfl) _).set (a:=⟨g,k*4+2,none⟩) (.inl rfl) _).set (a:=⟨g,k*4+3,none⟩) (.inl rfl) _
theorem MSt.quiet {w0 w w':World} {pb cM n:Nat} {oM:Option Addr} {vF:Value} {l:List RMap} (h:MSt w0 pb oM cM vF n l w) (m:Mods Nil' w w'):MSt w0 pb oM cM vF n l w' :=
 ⟨h.prog.mods m id,h.maps.mods m (fun _ _=>id),h.len,h.md.trans (m.mono (fun _ _ e=>e.elim))⟩
set_option maxRecDepth 100000 in
set_option maxHeartbeats 2000000 in
theorem sorted_any (w:World) (pb:Nat) (vM vF:Value) (ms:List RMap) (z:List FZ) (h:PRo w pb vM vF ms (z.map (·.1)) (z.map (·.2))) (hms:ms.length<=1000) (hzl:z.length<=1000) :
  Calls Tryz.prog 13 #[.pointer (some ⟨pb,0,none⟩)] w fun e w'=>e=.returned (.tuple #[])/\∃ (ms':List RMap) (z':List FZ),ms'.Perm ms/\RiseI (·.name) ms' ms'.length/\z'.Perm z/\RiseI FZ.nm z' z'.length /\
   PRo w' pb vM vF ms' (z'.map (·.1)) (z'.map (·.2))/\Mods (fun k=>vM.ownBlock=some k\/vF.ownBlock=some k) w w':=by
 have h0:=h.prog
 have sM:=h.maps
 obtain ⟨oM,cM,hvM,_⟩:=sM.view;obtain ⟨oF,cF,hvF,_⟩:=h.rows.view;rw [List.length_map] at hvF;subst hvM hvF
 have hst:MSt w pb oM cM (.slice oF z.length cF) ms.length ms w:=⟨h0,sM,rfl,Mods.refl _ _⟩
 have HST:=hid hst
 have HF0:Hid (∀ w',Mods (fun k=>Value.ownBlock (.slice oM ms.length cM)=some k) w w'->Sl w' 46 8 (.slice oF z.length cF) z.length ((z.map (·.1)).flatMap rowC)/\∀ x∈z,FRo w' x.1.2 x.2):=by
  intro w' m
  have hr:=h.rows
  rw [List.length_map] at hr
  refine ⟨hr.mods m (fun k hk e=>hr.apart sM (by decide) hk e),fun x hx=>?_⟩
  obtain ⟨i,hi,rfl⟩:=List.getElem_of_mem hx
  have f:=h.each i (by simpa using hi) (by simpa using hi)
  simp only [List.getElem_map] at f
  exact f.mods m (fun k hk e=>f.sl.apart sM (by decide) hk e) (fun k hk e=>f.sa.apart sM (by decide) hk e) (fun k hk e=>f.sb.apart sM (by decide) hk e) (fun k hk e=>f.sp.apart sM (by decide) hk e)
 have p0:w.cell? ⟨pb,0,none⟩=some (.slice oM ms.length cM):=h0.cell 0
 clear hst h0 sM h
 go_enter Tryz.func13,Tryz.ntmps13
 go_wp2_with fail
 go_loopg [2] (ms.length - 1) (fun g iv wx=>∃ (i:Nat) (l:List RMap),iv=.int .i64 i/\1<=i/\l.Perm ms/\RiseI (·.name) l i/\MSt w pb oM cM (.slice oF z.length cF) ms.length l wx/\g=ms.length - i)
 case atStart=>exact ⟨1,ms,rfl,Nat.le_refl _,List.Perm.refl _,fun p q _ _ (h1:p<q) (h2:q<1)=>absurd h1 (by omega),HST.out,rfl⟩
 case round =>
  obtain ⟨i,l,rfl,hi1,hpm,hri,hS,rfl⟩:=hrel;clear p0
  have p0:wr.cell? ⟨pb,0,none⟩=some (.slice oM ms.length cM):=hS.prog.cell 0
  have HS:=hid hS;have HPM:=hid hpm;have HRI:=hid hri;clear hpm hri hS
  by_cases hil:i<ms.length
  ·go_wp2_with fail
   go_loopg [3] i (fun g kv wx=>∃ (k:Nat) (l:List RMap),kv=.int .i64 k/\k<=i/\l.Perm ms/\InsI (·.name) l i k/\MSt w pb oM cM (.slice oF z.length cF) ms.length l wx/\g=k)
   case atStart=>exact ⟨i,l,rfl,Nat.le_refl _,HPM.out,InsI.start _ HRI.out,HS.out,rfl⟩
   case round =>
    clear p0 HS HPM HRI;obtain ⟨k,l,rfl,hki,hpm,hin,hS,hgk⟩:=hrel;have HGK:=hid hgk;clear hgk
    have p0:wr.cell? ⟨pb,0,none⟩=some (.slice oM ms.length cM):=hS.prog.cell 0
    have hll:l.length=ms.length:=hS.len
    have HLL:=hid hll;have HPM:=hid hpm;have HIN:=hid hin;have HS:=hid hS
    have hkl:k<l.length:=by omega
    obtain ⟨gM,rfl,hc⟩:=hS.at k hkl
    have HPG:Hid (pb≠gM):=fun e=>hS.maps.notBlk hS.prog (by decide) (congrArg some e.symm)
    obtain ⟨c0,c1,c2,c3⟩:=hc k hkl;clear hll hpm hin hS
    by_cases hk0:0<k
    ·obtain ⟨d0,d1,d2,d3⟩:=hc (k - 1) (by omega)
     clear hc
     have hkc:((k:Int) - 1)=((k - 1:Nat):Int):=by omega
     cases ht:ltB l[k].name (l[k - 1]'(by omega)).name with
     | true =>
      have ht':Op.bytesLess l[k].name.toList (l[k - 1]'(by omega)).name.toList=true:=ht
      clear ht;go_upto_region 4 with fail;go_quiet (fail)
      have HSq:Hid (MSt w pb (some ⟨gM,0,none⟩) cM (.slice oF z.length cF) ms.length l (wr.drewN nq)):=HS.out.quiet ((Mods.refl _ _).drewN nq)
      generalize wr.drewN nq=W at *;obtain ⟨_,he,hc⟩:=HSq.out.at k hkl
      cases he
      clear c0 c1 c2 c3 d0 d1 d2 d3 p0
      have p0:W.cell? ⟨pb,0,none⟩=some (.slice (some ⟨gM,0,none⟩) ms.length cM):=HSq.out.prog.cell 0
      obtain ⟨c0,c1,c2,c3⟩:=hc k hkl
      obtain ⟨d0,d1,d2,d3⟩:=hc (k - 1) (by omega)
      clear hc
      generalize hx:l[k]=x at *
      generalize hy:l[k - 1]'(by omega)=y at *
      obtain ⟨xn,xk,xv,xe⟩:=x;obtain ⟨yn,yk,yv,ye⟩:=y
      simp only at c0 c1 c2 c3 d0 d1 d2 d3 ht'
      go_upto_region 7 with fail
      have hS2:=HSq.out.quiet ((Mods.refl _ _).alloc (.cells #[.string xn,.int .i64 xk,.int .i64 xv,.int .i64 xe] 48))
      have hbx:=Blk.new W #[.string xn,.int .i64 xk,.int .i64 xv,.int .i64 xe] 48
      have hWs:gM<W.heap.size:=HSq.out.maps.lt gM rfl
      generalize W.alloc (.cells #[.string xn,.int .i64 xk,.int .i64 xv,.int .i64 xe] 48)=W2 at *;clear p0 c0 c1 c2 c3 d0 d1 d2 d3
      have p0:W2.cell? ⟨pb,0,none⟩=some (.slice (some ⟨gM,0,none⟩) ms.length cM):=hS2.prog.cell 0
      obtain ⟨_,he,hc⟩:=hS2.at k hkl
      cases he
      obtain ⟨c0,c1,c2,c3⟩:=hc k hkl
      obtain ⟨d0,d1,d2,d3⟩:=hc (k - 1) (by omega)
      rw [hx] at c0 c1 c2 c3;rw [hy] at d0 d1 d2 d3
      simp only at c0 c1 c2 c3 d0 d1 d2 d3
      have fz:=hS2.frz (by omega)
      have HS2:=hid hS2;clear hc hS2
      go_region
      try simp only [Exit.then]
      have hS3:=(HS2.out.put HPG.out k hkl ⟨yn,yk,yv,ye⟩).quiet ((Mods.refl _ _).drew)
      have hb3:Blk (((((W2.setCell ⟨gM,k*4,none⟩ (.string yn)).setCell ⟨gM,k*4+1,none⟩ (.int .i64 yk)).setCell ⟨gM,k*4+2,none⟩ (.int .i64 yv)).setCell ⟨gM,k*4+3,none⟩ (.int .i64 ye)).drew) W.heap.size #[.string xn,.int .i64 xk,.int .i64 xv,.int .i64 xe] 48 :=
       ((((hbx.setOther (a:=⟨gM,k*4,none⟩) (show gM≠W.heap.size by omega) _).setOther (a:=⟨gM,k*4+1,none⟩) (show gM≠W.heap.size by omega) _).setOther (a:=⟨gM,k*4+2,none⟩) (show gM≠W.heap.size by omega) _).setOther (a:=⟨gM,k*4+3,none⟩) (show gM≠W.heap.size by omega) _).drew
      simp only at hS3
      generalize (((((W2.setCell ⟨gM,k*4,none⟩ (.string yn)).setCell ⟨gM,k*4+1,none⟩ (.int .i64 yk)).setCell ⟨gM,k*4+2,none⟩ (.int .i64 yv)).setCell ⟨gM,k*4+3,none⟩ (.int .i64 ye)).drew)=W3 at *;clear p0 c0 c1 c2 c3 d0 d1 d2 d3 fz hbx
      have p0:W3.cell? ⟨pb,0,none⟩=some (.slice (some ⟨gM,0,none⟩) ms.length cM):=hS3.prog.cell 0
      have fz:=hS3.frz (by omega)
      have b0:W3.cell? ⟨W.heap.size,0,none⟩=some (.string xn):=hb3.cell 0
      have b1:W3.cell? ⟨W.heap.size,1,none⟩=some (.int .i64 xk):=hb3.cell 1
      have b2:W3.cell? ⟨W.heap.size,2,none⟩=some (.int .i64 xv):=hb3.cell 2
      have b3:W3.cell? ⟨W.heap.size,3,none⟩=some (.int .i64 xe):=hb3.cell 3
      obtain ⟨_,he,hc⟩:=hS3.at (k - 1) (by simp;omega)
      cases he
      obtain ⟨d0,d1,d2,d3⟩:=hc (k - 1) (by simp;omega)
      have HS3:=hid hS3;clear hc hS3;go_wp2_with fail
      go_region
      have hS4:=(HS3.out.put HPG.out (k - 1) (by simp;omega) ⟨xn,xk,xv,xe⟩).quiet ((Mods.refl _ _).drew)
      have HS4:Hid _:=hS4
      clear hS4
      have HIN2:Hid (InsI (·.name) (swapI l k hkl (by omega)) i (k - 1)):=HIN.out.step _ hkl (by omega) hk0 hki (by simp only [hx,hy];exact ht')
      have HPM2:Hid ((swapI l k hkl (by omega)).Perm ms):=(swapI_perm l k hkl (by omega) hk0).trans HPM.out
      try simp only [Exit.inBlock,Exit.then]
      go_wp2_with fail
      go_roundg (k - 1)
      case measure=>have:=HGK.out;omega
      case rel =>
       refine ⟨k - 1,swapI l k hkl (by omega),by go_num,by omega,HPM2.out,HIN2.out,?_,rfl⟩
       rw [swapI,hx,hy];exact HS4.out
     | false =>
      have ht':Op.bytesLess l[k].name.toList (l[k - 1]'(by omega)).name.toList=false:=ht
      have HRI2:Hid (RiseI (·.name) l (i+1)):=HIN.out.done _ hkl hk0 hki ht
      clear ht;go_upto_region 4 with fail;go_quiet (fail)
      try simp only [Exit.then]
      have HSq:Hid (MSt w pb (some ⟨gM,0,none⟩) cM (.slice oF z.length cF) ms.length l (wr.drewN nq)):=HS.out.quiet ((Mods.refl _ _).drewN nq)
      generalize wr.drewN nq=W at *;go_wp2_with fail
      go_roundg (ms.length - (i+1))
      case measure=>omega
      case rel=>exact ⟨i+1,l,by go_num,by omega,HPM.out,HRI2.out,HSq.out,rfl⟩
    ·obtain rfl:k=0:=by omega
     have HRI2:Hid (RiseI (·.name) l (i+1)):=HIN.out.done0 _
     go_upto_region 4 with fail;go_quiet (fail)
     try simp only [Exit.then]
     have HSq:Hid (MSt w pb (some ⟨gM,0,none⟩) cM (.slice oF z.length cF) ms.length l (wr.drewN nq)):=HS.out.quiet ((Mods.refl _ _).drewN nq)
     generalize wr.drewN nq=W at *;go_wp2_with fail
     go_roundg (ms.length - (i+1))
     case measure=>omega
     case rel=>exact ⟨i+1,l,by go_num,by omega,HPM.out,HRI2.out,HSq.out,rfl⟩
  ·have HRM:Hid (RiseI (·.name) l l.length):=fun p q hp hq h1 h2=>HRI.out p q hp hq h1 (by have:=HS.out.len;omega)
   have hF0:FSt wr pb (.slice oM ms.length cM) oF cF z.length l z wr:=by
    have hS:=HS.out
    obtain ⟨hr,he⟩:=HF0.out wr hS.md
    exact ⟨hS.prog,by have:=hS.maps;exact this,hr,he,rfl,Mods.refl _ _⟩
   have HMD1:=hid HS.out.md;have HF1:=hid hF0
   have p1:wr.cell? ⟨pb,1,none⟩=some (.slice oF z.length cF):=hF0.prog.cell 1
   clear hF0 HS HRI HF0 HST;go_wp2_with fail;clear p0
   obtain ⟨w1,hw1⟩:∃ w1,w1=wr:=⟨_,rfl⟩
   rw [<- hw1] at HF1 HMD1;have HW1:=hid hw1
   have HF2:Hid (FSt w1 pb (.slice oM ms.length cM) oF cF z.length l z wr):=by rw [Hid,<- hw1];exact HF1.out
   clear hw1 HF1
   go_loopg [5] (z.length - 1) (fun g iv wx=>∃ (i:Nat) (y:List FZ),iv=.int .i64 i/\1<=i/\y.Perm z/\RiseI FZ.nm y i/\FSt w1 pb (.slice oM ms.length cM) oF cF z.length l y wx/\g=z.length - i)
   case atStart=>exact ⟨1,z,rfl,Nat.le_refl _,List.Perm.refl _,fun p q _ _ (h1:p<q) (h2:q<1)=>absurd h1 (by omega),HF2.out,rfl⟩
   case round =>
    clear HW1 HF2 p1 hi1 hil;obtain ⟨i,y,rfl,hi1,hpm,hri,hS,rfl⟩:=hrel
    have p1:wr.cell? ⟨pb,1,none⟩=some (.slice oF z.length cF):=hS.prog.cell 1
    have HS:=hid hS;have HPZ:=hid hpm;have HRI:=hid hri;clear hpm hri hS
    by_cases hil:i<z.length
    ·go_wp2_with fail
     go_loopg [6] i (fun g kv wx=>∃ (k:Nat) (y:List FZ),kv=.int .i64 k/\k<=i/\y.Perm z/\InsI FZ.nm y i k/\FSt w1 pb (.slice oM ms.length cM) oF cF z.length l y wx/\g=k)
     case atStart=>exact ⟨i,y,rfl,Nat.le_refl _,HPZ.out,InsI.start _ HRI.out,HS.out,rfl⟩
     case round =>
      clear p1 HS HPZ HRI;obtain ⟨k,y,rfl,hki,hpm,hin,hS,hgk⟩:=hrel;have HGK:=hid hgk;clear hgk
      have p1:wr.cell? ⟨pb,1,none⟩=some (.slice oF z.length cF):=hS.prog.cell 1
      have hll:y.length=z.length:=hS.len
      have HLL:=hid hll;have HPZ:=hid hpm;have HIN:=hid hin;have HS:=hid hS
      have hkl:k<y.length:=by omega
      obtain ⟨gF,rfl,hc⟩:=hS.at k hkl
      have c0:wr.cell? ⟨gF,k*8,none⟩=some (.string y[k].1.1.name):=hc k hkl 0 (by omega)
      clear hll hpm hin hS
      by_cases hk0:0<k
      ·have d0:wr.cell? ⟨gF,(k - 1)*8,none⟩=some (.string (y[k - 1]'(by omega)).1.1.name):=hc (k - 1) (by omega) 0 (by omega)
       clear hc
       have hkc:((k:Int) - 1)=((k - 1:Nat):Int):=by omega
       cases ht:ltB (FZ.nm y[k]) (FZ.nm (y[k - 1]'(by omega))) with
       | true =>
        have ht':Op.bytesLess y[k].1.1.name.toList (y[k - 1]'(by omega)).1.1.name.toList=true:=ht
        clear ht;go_upto_region 13 with fail;go_quiet (fail)
        try simp only [Exit.then]
        have HSq:Hid (FSt w1 pb (.slice oM ms.length cM) (some ⟨gF,0,none⟩) cF z.length l y (wr.drewN nq)):=HS.out.quiet ((Mods.refl _ _).drewN nq)
        generalize wr.drewN nq=W at *;obtain ⟨_,he,hc⟩:=HSq.out.at k hkl
        cases he
        clear c0 d0 p1
        have hxe:FRo W y[k].1.2 y[k].2:=HSq.out.each _ (List.getElem_mem hkl)
        have hye:FRo W (y[k - 1]'(by omega)).1.2 (y[k - 1]'(by omega)).2:=HSq.out.each _ (List.getElem_mem _)
        have p1:W.cell? ⟨pb,1,none⟩=some (.slice (some ⟨gF,0,none⟩) z.length cF):=HSq.out.prog.cell 1
        have hcx:=hc k hkl
        have hcy:=hc (k - 1) (by omega)
        clear hc
        generalize hx:y[k]=x at *
        generalize hy:y[k - 1]'(by omega)=x' at *
        obtain ⟨⟨⟨xn,xs⟩,⟨x1,x2,x4,x5⟩⟩,xo⟩:=x
        obtain ⟨⟨⟨yn,ys⟩,⟨y1,y2,y4,y5⟩⟩,yo⟩:=x'
        simp only at ht' hxe hye
        have c0:W.cell? ⟨gF,k*8,none⟩=some (.string xn):=hcx 0 (by omega)
        have c1:W.cell? ⟨gF,k*8+1,none⟩=some x1:=hcx 1 (by omega)
        have c2:W.cell? ⟨gF,k*8+2,none⟩=some x2:=hcx 2 (by omega)
        have c3:W.cell? ⟨gF,k*8+3,none⟩=some (.int .i64 xs):=hcx 3 (by omega)
        have c4:W.cell? ⟨gF,k*8+4,none⟩=some x4:=hcx 4 (by omega)
        have c5:W.cell? ⟨gF,k*8+5,none⟩=some x5:=hcx 5 (by omega)
        have c6:W.cell? ⟨gF,k*8+6,none⟩=some (.int .i64 0):=hcx 6 (by omega)
        have c7:W.cell? ⟨gF,k*8+7,none⟩=some (.slice none 0 0):=hcx 7 (by omega)
        have HXE:=hid hxe;have HYE:=hid hye;obtain ⟨o1,k1,h1,_⟩:=hxe.sl.view;obtain ⟨o2,k2,h2,_⟩:=hxe.sa.view;obtain ⟨o4,k4,h4,_⟩:=hxe.sb.view;obtain ⟨o5,k5,h5,_⟩:=hxe.sp.view;obtain ⟨q1,j1,g1,_⟩:=hye.sl.view;obtain ⟨q2,j2,g2,_⟩:=hye.sa.view;obtain ⟨q4,j4,g4,_⟩:=hye.sb.view;obtain ⟨q5,j5,g5,_⟩:=hye.sp.view
        simp only at h1 h2 h4 h5 g1 g2 g4 g5
        subst h1 h2 h4 h5 g1 g2 g4 g5;generalize xo.ls.length=n1 at *;generalize xo.ats.length=n2 at *;generalize xo.lab.length=n4 at *;generalize yo.ls.length=m1 at *;generalize yo.ats.length=m2 at *;generalize yo.lab.length=m4 at *;clear hcx hcy hxe hye;go_upto_region 16 with fail
        have hS2:=HSq.out.quiet ((Mods.refl _ _).alloc (.cells #[.string xn,.slice o1 n1 k1,.slice o2 n2 k2,.int .i64 xs,.slice o4 n4 k4,.slice o5 n4 k5,.int .i64 0,.slice none 0 0] 46))
        have hbx:=Blk.new W #[.string xn,.slice o1 n1 k1,.slice o2 n2 k2,.int .i64 xs,.slice o4 n4 k4,.slice o5 n4 k5,.int .i64 0,.slice none 0 0] 46
        have hWs:gF<W.heap.size:=HSq.out.rows.lt gF rfl
        have HXE2:=HXE.out.quiet ((Mods.refl _ _).alloc (.cells #[.string xn,.slice o1 n1 k1,.slice o2 n2 k2,.int .i64 xs,.slice o4 n4 k4,.slice o5 n4 k5,.int .i64 0,.slice none 0 0] 46))
        have HYE2:=HYE.out.quiet ((Mods.refl _ _).alloc (.cells #[.string xn,.slice o1 n1 k1,.slice o2 n2 k2,.int .i64 xs,.slice o4 n4 k4,.slice o5 n4 k5,.int .i64 0,.slice none 0 0] 46))
        generalize W.alloc (.cells #[.string xn,.slice o1 n1 k1,.slice o2 n2 k2,.int .i64 xs,.slice o4 n4 k4,.slice o5 n4 k5,.int .i64 0,.slice none 0 0] 46)=W2 at *;clear p1 c0 c1 c2 c3 c4 c5 c6 c7
        have p1:W2.cell? ⟨pb,1,none⟩=some (.slice (some ⟨gF,0,none⟩) z.length cF):=hS2.prog.cell 1
        have fz:=hS2.frz (by omega)
        obtain ⟨_,he,hc⟩:=hS2.at k hkl
        cases he
        have hcx:=hc k hkl
        have hcy:=hc (k - 1) (by omega)
        rw [hx] at hcx;rw [hy] at hcy
        have c0:W2.cell? ⟨gF,k*8,none⟩=some (.string xn):=hcx 0 (by omega)
        have c1:W2.cell? ⟨gF,k*8+1,none⟩=some (.slice o1 n1 k1):=hcx 1 (by omega)
        have c2:W2.cell? ⟨gF,k*8+2,none⟩=some (.slice o2 n2 k2):=hcx 2 (by omega)
        have c3:W2.cell? ⟨gF,k*8+3,none⟩=some (.int .i64 xs):=hcx 3 (by omega)
        have c4:W2.cell? ⟨gF,k*8+4,none⟩=some (.slice o4 n4 k4):=hcx 4 (by omega)
        have c5:W2.cell? ⟨gF,k*8+5,none⟩=some (.slice o5 n4 k5):=hcx 5 (by omega)
        have c6:W2.cell? ⟨gF,k*8+6,none⟩=some (.int .i64 0):=hcx 6 (by omega)
        have c7:W2.cell? ⟨gF,k*8+7,none⟩=some (.slice none 0 0):=hcx 7 (by omega)
        have d0:W2.cell? ⟨gF,(k - 1)*8,none⟩=some (.string yn):=hcy 0 (by omega)
        have d1:W2.cell? ⟨gF,(k - 1)*8+1,none⟩=some (.slice q1 m1 j1):=hcy 1 (by omega)
        have d2:W2.cell? ⟨gF,(k - 1)*8+2,none⟩=some (.slice q2 m2 j2):=hcy 2 (by omega)
        have d3:W2.cell? ⟨gF,(k - 1)*8+3,none⟩=some (.int .i64 ys):=hcy 3 (by omega)
        have d4:W2.cell? ⟨gF,(k - 1)*8+4,none⟩=some (.slice q4 m4 j4):=hcy 4 (by omega)
        have d5:W2.cell? ⟨gF,(k - 1)*8+5,none⟩=some (.slice q5 m4 j5):=hcy 5 (by omega)
        have d6:W2.cell? ⟨gF,(k - 1)*8+6,none⟩=some (.int .i64 0):=hcy 6 (by omega)
        have d7:W2.cell? ⟨gF,(k - 1)*8+7,none⟩=some (.slice none 0 0):=hcy 7 (by omega)
        have hS3:=(hS2.put k hkl ⟨⟨⟨yn,ys⟩,⟨.slice q1 m1 j1,.slice q2 m2 j2,.slice q4 m4 j4,.slice q5 m4 j5⟩⟩,yo⟩ HYE2).quiet ((Mods.refl _ _).drew)
        have hb3:Blk (setRow8 W2 gF k ⟨yn,ys⟩ ⟨.slice q1 m1 j1,.slice q2 m2 j2,.slice q4 m4 j4,.slice q5 m4 j5⟩).drew W.heap.size #[.string xn,.slice o1 n1 k1,.slice o2 n2 k2,.int .i64 xs,.slice o4 n4 k4,.slice o5 n4 k5,.int .i64 0,.slice none 0 0] 46:=(hbx.mods (setRow8_mods (S:=Only gF) (Mods.refl _ _) (.inl rfl)) (fun e=>absurd (show W.heap.size=gF from e) (by omega))).drew
        have HXE3:=HXE2.mods ((setRow8_mods (S:=Only gF) (r:=⟨yn,ys⟩) (v:=⟨.slice q1 m1 j1,.slice q2 m2 j2,.slice q4 m4 j4,.slice q5 m4 j5⟩) (k:=k) (Mods.refl _ W2) (.inl rfl)).trans (((Mods.refl Nil' _).drew).mono (fun _ _ e=>e.elim)))
         (fun b hb e=>HXE2.sl.apart hS2.rows (by decide) hb (by rw [show b=gF from e];rfl)) (fun b hb e=>HXE2.sa.apart hS2.rows (by decide) hb (by rw [show b=gF from e];rfl)) (fun b hb e=>HXE2.sb.apart hS2.rows (by decide) hb (by rw [show b=gF from e];rfl)) (fun b hb e=>HXE2.sp.apart hS2.rows (by decide) hb (by rw [show b=gF from e];rfl))
        have HS3:=hid hS3;have HB3:=hid hb3;have HXE4:=hid HXE3;clear hc hcx hcy hS2 hS3 hb3 hbx HXE2 HYE2 HXE3
        go_region
        try simp only [Exit.then]
        unfold setRow8 at HS3 HB3 HXE4
        simp only at HS3 HB3 HXE4
        generalize ((((((((W2.setCell ⟨gF,k*8,none⟩ (.string yn)).setCell ⟨gF,k*8+1,none⟩ (.slice q1 m1 j1)).setCell ⟨gF,k*8+2,none⟩ (.slice q2 m2 j2)).setCell ⟨gF,k*8+3,none⟩ (.int .i64 ys)).setCell ⟨gF,k*8+4,none⟩ (.slice q4 m4 j4)).setCell ⟨gF,k*8+5,none⟩ (.slice q5 m4 j5)).setCell ⟨gF,k*8+6,none⟩ (.int .i64 0)).setCell ⟨gF,k*8+7,none⟩ (.slice none 0 0)).drew=W3 at *;clear p1 fz c0 c1 c2 c3 c4 c5 c6 c7 d0 d1 d2 d3 d4 d5 d6 d7
        have p1:W3.cell? ⟨pb,1,none⟩=some (.slice (some ⟨gF,0,none⟩) z.length cF):=HS3.out.prog.cell 1
        have fz:=HS3.out.frz (by omega)
        obtain ⟨b0,b1,b2,b3,b4,b5,b6,b7⟩:=HB3.out.cells8
        obtain ⟨_,he,hc⟩:=HS3.out.at (k - 1) (by simp;omega)
        cases he
        have hcy:=hc (k - 1) (by simp;omega)
        have hyk:(y.set k ⟨⟨⟨yn,ys⟩,⟨.slice q1 m1 j1,.slice q2 m2 j2,.slice q4 m4 j4,.slice q5 m4 j5⟩⟩,yo⟩)[k - 1]'(by simp;omega)=⟨⟨⟨yn,ys⟩,⟨.slice q1 m1 j1,.slice q2 m2 j2,.slice q4 m4 j4,.slice q5 m4 j5⟩⟩,yo⟩:=by rw [List.getElem_set,if_neg (by omega)];exact hy
        rw [hyk] at hcy
        have d0:W3.cell? ⟨gF,(k - 1)*8,none⟩=some (.string yn):=hcy 0 (by omega)
        have d1:W3.cell? ⟨gF,(k - 1)*8+1,none⟩=some (.slice q1 m1 j1):=hcy 1 (by omega)
        have d2:W3.cell? ⟨gF,(k - 1)*8+2,none⟩=some (.slice q2 m2 j2):=hcy 2 (by omega)
        have d3:W3.cell? ⟨gF,(k - 1)*8+3,none⟩=some (.int .i64 ys):=hcy 3 (by omega)
        have d4:W3.cell? ⟨gF,(k - 1)*8+4,none⟩=some (.slice q4 m4 j4):=hcy 4 (by omega)
        have d5:W3.cell? ⟨gF,(k - 1)*8+5,none⟩=some (.slice q5 m4 j5):=hcy 5 (by omega)
        have d6:W3.cell? ⟨gF,(k - 1)*8+6,none⟩=some (.int .i64 0):=hcy 6 (by omega)
        have d7:W3.cell? ⟨gF,(k - 1)*8+7,none⟩=some (.slice none 0 0):=hcy 7 (by omega)
        have HS4:Hid (FSt w1 pb (.slice oM ms.length cM) (some ⟨gF,0,none⟩) cF z.length l (swapI y k hkl (by omega)) (setRow8 W3 gF (k - 1) ⟨xn,xs⟩ ⟨.slice o1 n1 k1,.slice o2 n2 k2,.slice o4 n4 k4,.slice o5 n4 k5⟩).drew):=by
         rw [Hid,swapI,hx,hy]
         exact (HS3.out.put (k - 1) (by simp;omega) ⟨⟨⟨xn,xs⟩,⟨.slice o1 n1 k1,.slice o2 n2 k2,.slice o4 n4 k4,.slice o5 n4 k5⟩⟩,xo⟩ HXE4.out).quiet ((Mods.refl _ _).drew)
        have HIN2:Hid (InsI FZ.nm (swapI y k hkl (by omega)) i (k - 1)):=HIN.out.step _ hkl (by omega) hk0 hki (by simp only [hx,hy];exact ht')
        have HPZ2:Hid ((swapI y k hkl (by omega)).Perm z):=(swapI_perm y k hkl (by omega) hk0).trans HPZ.out
        clear hc hcy hyk;go_wp2_with fail
        go_region
        unfold setRow8 at HS4
        simp only at HS4
        generalize ((((((((W3.setCell ⟨gF,(k - 1)*8,none⟩ (.string xn)).setCell ⟨gF,(k - 1)*8+1,none⟩ (.slice o1 n1 k1)).setCell ⟨gF,(k - 1)*8+2,none⟩ (.slice o2 n2 k2)).setCell ⟨gF,(k - 1)*8+3,none⟩ (.int .i64 xs)).setCell ⟨gF,(k - 1)*8+4,none⟩ (.slice o4 n4 k4)).setCell ⟨gF,(k - 1)*8+5,none⟩ (.slice o5 n4 k5)).setCell ⟨gF,(k - 1)*8+6,none⟩ (.int .i64 0)).setCell ⟨gF,(k - 1)*8+7,none⟩ (.slice none 0 0)).drew=W4 at *
        try simp only [Exit.inBlock,Exit.then]
        go_wp2_with fail
        go_roundg (k - 1)
        case measure=>have:=HGK.out;omega
        case rel=>exact ⟨k - 1,_,by go_num,by omega,HPZ2.out,HIN2.out,HS4.out,rfl⟩
       | false =>
        have ht':Op.bytesLess y[k].1.1.name.toList (y[k - 1]'(by omega)).1.1.name.toList=false:=ht
        have HRI2:Hid (RiseI FZ.nm y (i+1)):=HIN.out.done _ hkl hk0 hki ht
        clear ht;go_upto_region 13 with fail;go_quiet (fail)
        try simp only [Exit.then]
        have HSq:Hid (FSt w1 pb (.slice oM ms.length cM) (some ⟨gF,0,none⟩) cF z.length l y (wr.drewN nq)):=HS.out.quiet ((Mods.refl _ _).drewN nq)
        generalize wr.drewN nq=W at *;go_wp2_with fail
        go_roundg (z.length - (i+1))
        case measure=>omega
        case rel=>exact ⟨i+1,y,by go_num,by omega,HPZ.out,HRI2.out,HSq.out,rfl⟩
      ·obtain rfl:k=0:=by omega
       have HRI2:Hid (RiseI FZ.nm y (i+1)):=HIN.out.done0 _
       go_upto_region 13 with fail;go_quiet (fail)
       try simp only [Exit.then]
       have HSq:Hid (FSt w1 pb (.slice oM ms.length cM) (some ⟨gF,0,none⟩) cF z.length l y (wr.drewN nq)):=HS.out.quiet ((Mods.refl _ _).drewN nq)
       generalize wr.drewN nq=W at *;go_wp2_with fail
       go_roundg (z.length - (i+1))
       case measure=>omega
       case rel=>exact ⟨i+1,y,by go_num,by omega,HPZ.out,HRI2.out,HSq.out,rfl⟩
    ·have HRZ:Hid (RiseI FZ.nm y y.length):=fun p q hp hq h1 h2=>HRI.out p q hp hq h1 (by have:=HS.out.len;omega)
     go_wp2_with fail
     go_end0
     have hS:=HS.out
     refine ⟨rfl,l,y,HPM.out,HRM.out,HPZ.out,HRZ.out,⟨hS.prog,hS.maps,?_,?_⟩,?_⟩
     ·rw [List.length_map,hS.len];exact hS.rows
     ·intro j h1 h2
      have hj:j<y.length:=by simpa using h1
      have:=hS.each y[j] (List.getElem_mem hj)
      simpa using this
     ·exact (HMD1.out.mono (fun _ _ e=>.inl e)).trans (hS.md.mono (fun _ _ e=>.inr e))
end Go.Proofs.YtoknbkfclhmapaaGreatDoor
