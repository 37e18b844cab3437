import Derived.Test.YtoknbkfclhmapaaGreatDoorC03
namespace Go.Proofs.YtoknbkfclhmapaaGreatDoor
open Go.RowKit
def sx16 (n:Nat):Int:=if 32768<=n then (n:Int) - 65536 else n
def sx32 (n:Nat):Int:=if 2147483648<=n then (n:Int)+18446744069414584320 else n
structure RSlot where
 op:Nat
 d:Nat
 s:Nat
 jump:Int
 n:Int
def RSlot.val (x:RSlot):Value:=.agg #[.int .i64 x.op,.int .i64 x.d,.int .i64 x.s,.int .i64 x.jump,.int .u64 x.n]
def rsl (s:ByteArray) (r:RS):RSlot × RS :=
 let a:=rb s r;let b:=rb s a.2;let j:=rw2 s b.2;let n:=rw4 s j.2
 (⟨a.1,b.1 % 16,b.1 / 16,sx16 j.1,sx32 n.1⟩,n.2)
abbrev C5 (a b c d:Int) (n:Int):Array Value:=#[.int .i64 a,.int .i64 b,.int .i64 c,.int .i64 d,.int .u64 n]
theorem Blk.cells5 {w:World} {b:Nat} {v0 v1 v2 v3 v4:Value} {t:TypeId} (h:Blk w b #[v0,v1,v2,v3,v4] t) :
  w.cell? ⟨b,0,none⟩=some v0/\w.cell? ⟨b,1,none⟩=some v1/\w.cell? ⟨b,2,none⟩=some v2/\w.cell? ⟨b,3,none⟩=some v3/\w.cell? ⟨b,4,none⟩=some v4 :=
 ⟨h.cell 0,h.cell 1,h.cell 2,h.cell 3,h.cell 4⟩
theorem slot_val (op ds:Nat) (J n:Int):Value.agg (C5 op ((ds:Int) % 16) ((ds:Int) / 16) J n)=RSlot.val ⟨op,ds % 16,ds / 16,J,n⟩:=by
 simp [RSlot.val]
theorem ret_congr {a b:Value} (h:a=b):Ending.returned a=.returned b:=by rw [h]
theorem wrap_neg (n:Nat) (h1:2147483648<=n) (h2:n<=4294967295):IntKind.u64.wrap ((n:Int) - 4294967296)=(n:Int)+18446744069414584320:=by
 simp only [IntKind.wrap,IntKind.bits,IntKind.signed,Bool.false_and,Bool.false_eq_true,if_false];omega
theorem sx32_hi (n:Nat) (h1:2147483648<=n) (h2:n<=4294967295):sx32 n=IntKind.u64.wrap ((n:Int) - 4294967296):=by
 rw [wrap_neg n h1 h2,sx32,if_pos h1]
theorem sx32_lo (n:Nat) (h1:¬ 2147483648<=n):sx32 n=(n:Int):=by
 rw [sx32,if_neg h1]
set_option maxRecDepth 100000 in
set_option maxHeartbeats 1000000 in
theorem slot_any (b:Nat) (s:ByteArray) (r:RS) (w:World) (hs:s.size<=maxLen) (h:RdAt w b s r) :
  Calls Tryz.prog 77 #[.pointer (some ⟨b,0,none⟩)] w fun e w'=>e=.returned (rsl s r).1.val/\RdAt w' b s (rsl s r).2/\Mods (Only b) w w':=by
 have hlt:=h.lt
 have l1:=rb_le s r
 have l2:=rb_le s (rb s r).2
 have l3:=rw2_le s (rb s (rb s r).2).2
 have l4:=rw4_le s (rw2 s (rb s (rb s r).2).2).2
 have HR:Hid (rsl s r=(⟨(rb s r).1,(rb s (rb s r).2).1 % 16,(rb s (rb s r).2).1 / 16,sx16 (rw2 s (rb s (rb s r).2).2).1,sx32 (rw4 s (rw2 s (rb s (rb s r).2).2).2).1⟩,(rw4 s (rw2 s (rb s (rb s r).2).2).2).2)):=rfl
 go_enter Tryz.func77,Tryz.ntmps77
 go_wp2_with fail
 refine (rbyte_any b s r _ hs ((h.alloc _).alloc _)).mono ?_
 rintro e w1 ⟨rfl,h1,m1⟩;generalize rb s r=q1 at *;obtain ⟨op,r1⟩:=q1;simp only at *
 have hx:Blk w1 (w.heap.size+1) (C5 0 0 0 0 0) 138:=Blk.mods (by have:=Blk.new (w.alloc (.cells (C5 0 0 0 0 0) 138)) (C5 0 0 0 0 0) 138;simpa using this) m1 (by simp [Only];omega)
 have hz:Blk w1 w.heap.size (C5 0 0 0 0 0) 138:=Blk.mods ((Blk.new w (C5 0 0 0 0 0) 138).alloc _) m1 (by simp [Only];omega)
 have M1:Mods (Only b) w w1:=(((Mods.refl _ _).alloc _).alloc _).trans m1
 clear m1;obtain ⟨g0,g1,g2,g3,g4⟩:=hx.cells5
 have f0:=hx.frozen 0
 go_wp2_with fail;clear g0 g1 g2 g3 g4 f0
 refine (rbyte_any b s _ _ hs (Blk.setOther h1 (by simp;omega) _)).mono ?_
 rintro e w2 ⟨rfl,h2,m2⟩
 have hx2:=(hx.set 0 (.int .i64 op)).mods m2 (by simp [Only];omega)
 have hz2:=(hz.setOther (a:=⟨w.heap.size+1,0,none⟩) (by simp) (.int .i64 op)).mods m2 (by simp [Only];omega)
 have M2:Mods (Only b) w w2:=(M1.set (a:=⟨w.heap.size+1,0,none⟩) (.inr (by simp)) _).trans m2
 clear m2 M1 hx hz h1;generalize rb s r1=q2 at *;obtain ⟨ds,r2⟩:=q2;simp only at *
 have hx2':Blk w2 (w.heap.size+1) (C5 op 0 0 0 0) 138:=hx2
 clear hx2;obtain ⟨g0,g1,g2,g3,g4⟩:=hx2'.cells5
 have f1:=hx2'.frozen 1
 have f2:=hx2'.frozen 2
 go_wp2_with fail
 refine (rtwo_any b s _ _ hs ((Blk.setOther h2 (by simp;omega) _).setOther (by simp;omega) _)).mono ?_
 rintro e w3 ⟨rfl,h3,m3⟩
 have hx3:Blk w3 (w.heap.size+1) (C5 op (ds % 16) (ds / 16) 0 0) 138:=((hx2'.set 1 _).set 2 _).mods m3 (by simp [Only];omega)
 have hz3:Blk w3 w.heap.size (C5 0 0 0 0 0) 138:=((hz2.setOther (by simp) _).setOther (by simp) _).mods m3 (by simp [Only];omega)
 have M3:Mods (Only b) w w3:=((M2.set (a:=⟨w.heap.size+1,1,none⟩) (.inr (by simp)) _).set (a:=⟨w.heap.size+1,2,none⟩) (.inr (by simp)) _).trans m3
 clear m3 M2 hx2' hz2 h2 g0 g1 g2 g3 g4 f1 f2;generalize rw2 s r2=q3 at *;obtain ⟨j,r3⟩:=q3;simp only at *;obtain ⟨g0,g1,g2,g3,g4⟩:=hx3.cells5
 have f3:=hx3.frozen 3
 by_cases hj:32768<=j
 case' pos =>
  have HJ:Hid ((j:Int) - 65536=sx16 j):=by simp [Hid,sx16,hj]
  have hj':(32768:Int)<=(j:Int):=by omega
  clear hj;go_wp2_with fail
  refine (rfour_any b s _ _ hs ((Blk.setOther h3 (by simp;omega) _).setOther (by simp;omega) _)).mono ?_
  rintro e w4 ⟨rfl,h4,m4⟩
  have hx4:Blk w4 (w.heap.size+1) (C5 op (ds % 16) (ds / 16) (sx16 j) 0) 138:=by
   have:=((hx3.set 3 (.int .i64 j)).set 3 (.int .i64 ((j:Int) - 65536))).mods m4 (by simp [Only];omega)
   rw [HJ.out] at this;exact this
  have hz4:Blk w4 w.heap.size (C5 0 0 0 0 0) 138:=((hz3.setOther (by simp) _).setOther (by simp) _).mods m4 (by simp [Only];omega)
  have M4:Mods (Only b) w w4:=((M3.set (a:=⟨w.heap.size+1,3,none⟩) (.inr (by simp)) _).set (a:=⟨w.heap.size+1,3,none⟩) (.inr (by simp)) _).trans m4
 case' neg =>
  have HJ:Hid ((j:Int)=sx16 j):=by simp [Hid,sx16,hj]
  have hj':decide ((32768:Int)<=(j:Int))=false:=decide_eq_false (by omega)
  clear hj;go_wp2_with fail
  refine (rfour_any b s _ _ hs (Blk.setOther h3 (by simp;omega) _)).mono ?_
  rintro e w4 ⟨rfl,h4,m4⟩
  have hx4:Blk w4 (w.heap.size+1) (C5 op (ds % 16) (ds / 16) (sx16 j) 0) 138:=by
   have:=(hx3.set 3 (.int .i64 j)).mods m4 (by simp [Only];omega)
   rw [HJ.out] at this;exact this
  have hz4:Blk w4 w.heap.size (C5 0 0 0 0 0) 138:=(hz3.setOther (by simp) _).mods m4 (by simp [Only];omega)
  have M4:Mods (Only b) w w4:=(M3.set (a:=⟨w.heap.size+1,3,none⟩) (.inr (by simp)) _).trans m4
 all_goals
  clear m4 M3 hx3 hz3 h3 g0 g1 g2 g3 g4 f3 HJ;generalize rw4 s r3=q4 at *;obtain ⟨n,r4⟩:=q4;simp only at *;generalize sx16 j=J at *;obtain ⟨g0,g1,g2,g3,g4⟩:=hx4.cells5;obtain ⟨k0,k1,k2,k3,k4⟩:=hz4.cells5
  have f4:=hx4.frozen 4
  have z0:=hz4.frozen 0
  have z1:=hz4.frozen 1
  have z2:=hz4.frozen 2
  have z3:=hz4.frozen 3
  have z4:=hz4.frozen 4
  by_cases hn:2147483648<=n
  ·have hn':(2147483648:Int)<=(n:Int):=by omega
   have HE:Hid (_=_):=sx32_hi n hn l4
   clear hn
   go_wp2
   generalize IntKind.u64.wrap ((n:Int) - 4294967296)=N at *
   rw [HE.out] at HR
   refine bodyPost_ret (v:=.agg (C5 op ((ds:Int) % 16) ((ds:Int) / 16) J N)) (results_cell_row Tryz.results77 _ _ w.heap.size 138 _ (0,0) _ rfl
    (((((((hz4.setOther (a:=⟨w.heap.size+1,4,none⟩) (by simp) _).setOther (a:=⟨w.heap.size+1,4,none⟩) (by simp) _).set 0 _).set 1 _).set 2 _).set 3 _).set 4 _) Tryz.underlying138 rfl (by kernel_rfl)) rfl ⟨?_,?_,?_⟩
   ·rw [HR.out];exact ret_congr (slot_val _ _ _ _)
   ·rw [HR.out]
    iterate 7 refine Blk.setOther ?_ (by simp;omega) _
    exact h4
   ·iterate 7 refine Mods.set ?_ (.inr (by simp)) _
    exact M4
  ·have hn':decide ((2147483648:Int)<=(n:Int))=false:=decide_eq_false (by omega)
   have HE:Hid (_=_):=sx32_lo n hn
   clear hn
   go_wp2
   rw [HE.out] at HR
   refine bodyPost_ret (v:=.agg (C5 op ((ds:Int) % 16) ((ds:Int) / 16) J n)) (results_cell_row Tryz.results77 _ _ w.heap.size 138 _ (0,0) _ rfl
    ((((((hz4.setOther (a:=⟨w.heap.size+1,4,none⟩) (by simp) _).set 0 _).set 1 _).set 2 _).set 3 _).set 4 _) Tryz.underlying138 rfl (by kernel_rfl)) rfl ⟨?_,?_,?_⟩
   ·rw [HR.out];exact ret_congr (slot_val _ _ _ _)
   ·rw [HR.out]
    iterate 6 refine Blk.setOther ?_ (by simp;omega) _
    exact h4
   ·iterate 6 refine Mods.set ?_ (.inr (by simp)) _
    exact M4
abbrev E0:ByteArray:={ data:=#[] }
theorem new2 {S:Nat->Prop} {w w1:World} {cs cs':Array Value} {t t':TypeId} (m:Mods S ((w.alloc (.cells cs t)).alloc (.cells cs' t')) w1) (hS:∀ k,w.heap.size<=k->¬ S k) :
  Blk w1 w.heap.size cs t/\Blk w1 (w.heap.size+1) cs' t':=by
 refine ⟨((Blk.new w cs t).alloc _).mods m (hS _ (Nat.le_refl _)),?_⟩
 have h:=Blk.new (w.alloc (.cells cs t)) cs' t'
 have e:(w.alloc (.cells cs t)).heap.size=w.heap.size+1:=by simp
 rw [e] at h
 exact h.mods m (hS _ (by omega))
theorem Blk.cells8 {w:World} {b:Nat} {v0 v1 v2 v3 v4 v5 v6 v7:Value} {t:TypeId} (h:Blk w b #[v0,v1,v2,v3,v4,v5,v6,v7] t) :
  w.cell? ⟨b,0,none⟩=some v0/\w.cell? ⟨b,1,none⟩=some v1/\w.cell? ⟨b,2,none⟩=some v2/\w.cell? ⟨b,3,none⟩=some v3/\w.cell? ⟨b,4,none⟩=some v4/\w.cell? ⟨b,5,none⟩=some v5/\w.cell? ⟨b,6,none⟩=some v6/\w.cell? ⟨b,7,none⟩=some v7 :=
 ⟨h.cell 0,h.cell 1,h.cell 2,h.cell 3,h.cell 4,h.cell 5,h.cell 6,h.cell 7⟩
structure RIns where
 word:ByteArray:=E0
 is32:Bool:=false
 d:Int:=0
 s:Int:=0
 jump:Int:=0
 n:Int:=0
 label:ByteArray:=E0
 name:ByteArray:=E0
def RIns.cells (i:RIns):Array Value:=#[.string i.word,.bool i.is32,.int .i64 i.d,.int .i64 i.s,.int .i64 i.jump,.int .u64 i.n,.string i.label,.string i.name]
def memL:List ByteArray:=[T [108,100,49],T [108,100,50],T [108,100,52],T [108,100,56],T [115,116,49],T [115,116,50],T [115,116,52],T [115,116,56],T [115,116,49],T [115,116,50],T [115,116,52],T [115,116,56]]
def wordM (op:Nat):RIns × Bool :=
 if op<64/\1<=op % 16/\op % 16<=13/\(op % 16<13\/op<32) then ({ word:=reckonsL[op % 16 - 1]?.getD E0,is32:=((op:Int) / 16 % 2==1),s:=-((op:Int) / 32) },true)
 else if 64<=op/\op<76 then ({ word:=comparesL[op - 64]?.getD E0 },true)
 else if 96<op/\op<108 then ({ word:=comparesL[op - 96]?.getD E0,s:=-1 },true)
 else if 128<=op/\op<140 then ({ word:=memL[op - 128]?.getD E0,s:=if 136<=op then -1 else 0 },true)
 else if op=192 then ({ word:=T [119,105,100,101] },true)
 else if op=193 then ({ word:=T [99,97,108,108] },true)
 else if op=194 then ({ word:=T [101,120,105,116] },true)
 else ({},false)
theorem Blk.set8 {w:World} {z:Nat} {t:TypeId} {v0 v1 v2 v3 v4 v5 v6 v7:Value} (h:Blk w z #[v0,v1,v2,v3,v4,v5,v6,v7] t) (a0 a1 a2 a3 a4 a5 a6 a7:Value) :
  Blk ((((((((w.setCell ⟨z,0,none⟩ a0).setCell ⟨z,1,none⟩ a1).setCell ⟨z,2,none⟩ a2).setCell ⟨z,3,none⟩ a3).setCell ⟨z,4,none⟩ a4).setCell ⟨z,5,none⟩ a5).setCell ⟨z,6,none⟩ a6).setCell ⟨z,7,none⟩ a7) z #[a0,a1,a2,a3,a4,a5,a6,a7] t:=by
 have h0:Blk (w.setCell ⟨z,0,none⟩ a0) z #[a0,v1,v2,v3,v4,v5,v6,v7] t:=h.set 0 a0
 have h1:Blk ((w.setCell ⟨z,0,none⟩ a0).setCell ⟨z,1,none⟩ a1) z #[a0,a1,v2,v3,v4,v5,v6,v7] t:=h0.set 1 a1
 have h2:Blk (((w.setCell ⟨z,0,none⟩ a0).setCell ⟨z,1,none⟩ a1).setCell ⟨z,2,none⟩ a2) z #[a0,a1,a2,v3,v4,v5,v6,v7] t:=h1.set 2 a2
 have h3:Blk ((((w.setCell ⟨z,0,none⟩ a0).setCell ⟨z,1,none⟩ a1).setCell ⟨z,2,none⟩ a2).setCell ⟨z,3,none⟩ a3) z #[a0,a1,a2,a3,v4,v5,v6,v7] t:=h2.set 3 a3
 have h4:Blk (((((w.setCell ⟨z,0,none⟩ a0).setCell ⟨z,1,none⟩ a1).setCell ⟨z,2,none⟩ a2).setCell ⟨z,3,none⟩ a3).setCell ⟨z,4,none⟩ a4) z #[a0,a1,a2,a3,a4,v5,v6,v7] t:=h3.set 4 a4
 have h5:Blk ((((((w.setCell ⟨z,0,none⟩ a0).setCell ⟨z,1,none⟩ a1).setCell ⟨z,2,none⟩ a2).setCell ⟨z,3,none⟩ a3).setCell ⟨z,4,none⟩ a4).setCell ⟨z,5,none⟩ a5) z #[a0,a1,a2,a3,a4,a5,v6,v7] t:=h4.set 5 a5
 have h6:Blk (((((((w.setCell ⟨z,0,none⟩ a0).setCell ⟨z,1,none⟩ a1).setCell ⟨z,2,none⟩ a2).setCell ⟨z,3,none⟩ a3).setCell ⟨z,4,none⟩ a4).setCell ⟨z,5,none⟩ a5).setCell ⟨z,6,none⟩ a6) z #[a0,a1,a2,a3,a4,a5,a6,v7] t:=h5.set 6 a6
 have h7:Blk ((((((((w.setCell ⟨z,0,none⟩ a0).setCell ⟨z,1,none⟩ a1).setCell ⟨z,2,none⟩ a2).setCell ⟨z,3,none⟩ a3).setCell ⟨z,4,none⟩ a4).setCell ⟨z,5,none⟩ a5).setCell ⟨z,6,none⟩ a6).setCell ⟨z,7,none⟩ a7) z #[a0,a1,a2,a3,a4,a5,a6,a7] t:=h6.set 7 a7
 exact h7
theorem Mods.set8 {S:Nat->Prop} {w0 w:World} {z:Nat} (h:Mods S w0 w) (hz:S z\/w0.heap.size<=z) (a0 a1 a2 a3 a4 a5 a6 a7:Value) :
  Mods S w0 ((((((((w.setCell ⟨z,0,none⟩ a0).setCell ⟨z,1,none⟩ a1).setCell ⟨z,2,none⟩ a2).setCell ⟨z,3,none⟩ a3).setCell ⟨z,4,none⟩ a4).setCell ⟨z,5,none⟩ a5).setCell ⟨z,6,none⟩ a6).setCell ⟨z,7,none⟩ a7) :=
 (((((((h.set (a:=⟨z,0,none⟩) hz a0).set (a:=⟨z,1,none⟩) hz a1).set (a:=⟨z,2,none⟩) hz a2).set (a:=⟨z,3,none⟩) hz a3).set (a:=⟨z,4,none⟩) hz a4).set (a:=⟨z,5,none⟩) hz a5).set (a:=⟨z,6,none⟩) hz a6).set (a:=⟨z,7,none⟩) hz a7
theorem Mods.setNew {S:Nat->Prop} {w0 w:World} (h:Mods S w0 w) {a:Addr} (hz:w0.heap.size<=a.block) (v:Value):Mods S w0 (w.setCell a v):=h.set (.inr hz) v
theorem results_cell_tmp_row {P:Program} {fn:Func} {p u:Tmp} {ty:TypeId} (h:fn.results=#[.cell p ty,.tmp u]) (tmps:Array Value) (w:World) (g:Nat) (t:TypeId) (cs:Array Value) (fr:Nat × Nat) (d:TypeDesc) (v:Value)
  (hp:tmps.getD p undef=.pointer (some ⟨g,0,none⟩)) (hv:tmps.getD u undef=v) (hg:w.heap[g]?=some (.cells cs t fr))
  (hu:P.underlying ty=some d) (hd:(match d with | .struct _ | .array _ _=>true | _=>false)=true) (hi:(P.info? ty).map (·.size)=some cs.size) :
  (results fn tmps).run P w=.ok (.tuple #[.agg cs,v]) w:=by
 rw [results_cell_tmp h,hp,hv]
 simp [asAddr,run_loadVar_row w g t ty cs fr d hg hu hd hi]
theorem strs_cell {w:World} {b k:Nat} {l:List ByteArray} (h:Blk w b (strs l) 9) (hk:k<l.length):w.cell? ⟨b,k,none⟩=some (.string (l[k]?.getD E0)):=by
 rw [h.cell k,strs_get l k hk];simp [hk]
set_option maxRecDepth 100000 in
set_option maxHeartbeats 1000000 in
theorem word_r (op:Nat) (l:Nat) (w:World) (h1:(op:Int)<64) (hl:(op:Int) % 16=(l:Int)+1) (hl2:l<=12) (h2:(l:Int)+1<13\/(op:Int)<32) (HM:Hid (wordM op=({ word:=reckonsL[l]?.getD E0,is32:=((op:Int) / 16 % 2==1),s:=-((op:Int) / 32) },true))) :
  Calls Tryz.prog 78 #[.int .i64 op] w fun e w'=>e=.returned (.tuple #[.agg (wordM op).1.cells,.bool (wordM op).2])/\Mods Nil' w w':=by
 by_cases h3:(l:Int)+1<13
 ·clear h2
  go_enter Tryz.func78,Tryz.ntmps78
  go_wp2_with fail
  refine (reckons_any _).mono ?_
  rintro e w1 ⟨rfl,b1,m1⟩
  have hc:=strs_cell b1 (k:=l) (by show l<13;omega)
  simp at hc
  obtain ⟨hz,hx⟩:=new2 m1 (fun _ _ e=>e)
  obtain ⟨x0,x1,x2,x3,x4,x5,x6,x7⟩:=hx.cells8;obtain ⟨z0,z1,z2,z3,z4,z5,z6,z7⟩:=hz.cells8
  have fx:=hx.frozen
  have fz:=hz.frozen
  have M1:Mods Nil' w w1:=(((Mods.refl _ _).alloc _).alloc _).trans m1
  clear m1 b1
  go_wp2
  refine bodyPost_ret (results_cell_tmp_row Tryz.results78 _ _ w.heap.size 51 _ (0,0) _ _ rfl rfl (Blk.set8 (((hz.setOther (a:=⟨w.heap.size+1,0,none⟩) (by simp) _).setOther (a:=⟨w.heap.size+1,1,none⟩) (by simp) _).setOther (a:=⟨w.heap.size+1,3,none⟩) (by simp) _) _ _ _ _ _ _ _ _) Tryz.underlying51 rfl (by kernel_rfl)) rfl ⟨?_,(((M1.setNew (a:=⟨w.heap.size+1,0,none⟩) (by simp) _).setNew (a:=⟨w.heap.size+1,1,none⟩) (by simp) _).setNew (a:=⟨w.heap.size+1,3,none⟩) (by simp) _).set8 (.inr (Nat.le_refl _)) _ _ _ _ _ _ _ _⟩
  rw [HM.out];rfl
 ·have h2:(op:Int)<32:=by omega
  have h3':decide ((l:Int)+1<13)=false:=decide_eq_false h3
  clear h3
  go_enter Tryz.func78,Tryz.ntmps78
  go_wp2_with fail
  refine (reckons_any _).mono ?_
  rintro e w1 ⟨rfl,b1,m1⟩
  have hc:=strs_cell b1 (k:=l) (by show l<13;omega)
  simp at hc
  obtain ⟨hz,hx⟩:=new2 m1 (fun _ _ e=>e)
  obtain ⟨x0,x1,x2,x3,x4,x5,x6,x7⟩:=hx.cells8;obtain ⟨z0,z1,z2,z3,z4,z5,z6,z7⟩:=hz.cells8
  have fx:=hx.frozen
  have fz:=hz.frozen
  have M1:Mods Nil' w w1:=(((Mods.refl _ _).alloc _).alloc _).trans m1
  clear m1 b1
  go_wp2
  refine bodyPost_ret (results_cell_tmp_row Tryz.results78 _ _ w.heap.size 51 _ (0,0) _ _ rfl rfl (Blk.set8 (((hz.setOther (a:=⟨w.heap.size+1,0,none⟩) (by simp) _).setOther (a:=⟨w.heap.size+1,1,none⟩) (by simp) _).setOther (a:=⟨w.heap.size+1,3,none⟩) (by simp) _) _ _ _ _ _ _ _ _) Tryz.underlying51 rfl (by kernel_rfl)) rfl ⟨?_,(((M1.setNew (a:=⟨w.heap.size+1,0,none⟩) (by simp) _).setNew (a:=⟨w.heap.size+1,1,none⟩) (by simp) _).setNew (a:=⟨w.heap.size+1,3,none⟩) (by simp) _).set8 (.inr (Nat.le_refl _)) _ _ _ _ _ _ _ _⟩
  rw [HM.out];rfl
set_option maxRecDepth 100000 in
set_option maxHeartbeats 1000000 in
theorem word_c (op l:Nat) (w:World) (hop:(op:Int)=(l:Int)+64) (hl:l<12) (HM:Hid (wordM op=({ word:=comparesL[l]?.getD E0 },true))) :
  Calls Tryz.prog 78 #[.int .i64 op] w fun e w'=>e=.returned (.tuple #[.agg (wordM op).1.cells,.bool (wordM op).2])/\Mods Nil' w w':=by
 obtain rfl:op=l+64:=by omega
 clear hop
 go_enter Tryz.func78,Tryz.ntmps78
 go_wp2_with fail
 refine (compares_any _).mono ?_
 rintro e w1 ⟨rfl,b1,m1⟩
 have hc:=strs_cell b1 (k:=l) (by show l<12;omega)
 simp at hc
 obtain ⟨hz,hx⟩:=new2 m1 (fun _ _ e=>e)
 obtain ⟨x0,x1,x2,x3,x4,x5,x6,x7⟩:=hx.cells8;obtain ⟨z0,z1,z2,z3,z4,z5,z6,z7⟩:=hz.cells8
 have fx:=hx.frozen
 have fz:=hz.frozen
 have M1:Mods Nil' w w1:=(((Mods.refl _ _).alloc _).alloc _).trans m1
 clear m1 b1
 go_wp2
 refine bodyPost_ret (results_cell_tmp_row Tryz.results78 _ _ w.heap.size 51 _ (0,0) _ _ rfl rfl (Blk.set8 (hz.setOther (a:=⟨w.heap.size+1,0,none⟩) (by simp) _) _ _ _ _ _ _ _ _) Tryz.underlying51 rfl (by kernel_rfl)) rfl ⟨?_,(M1.setNew (a:=⟨w.heap.size+1,0,none⟩) (by simp) _).set8 (.inr (Nat.le_refl _)) _ _ _ _ _ _ _ _⟩
 rw [HM.out];rfl
set_option maxRecDepth 100000 in
set_option maxHeartbeats 1000000 in
theorem word_n (op l:Nat) (w:World) (hop:(op:Int)=(l:Int)+96) (hl1:0<l) (hl:l<12) (HM:Hid (wordM op=({ word:=comparesL[l]?.getD E0,s:=-1 },true))) :
  Calls Tryz.prog 78 #[.int .i64 op] w fun e w'=>e=.returned (.tuple #[.agg (wordM op).1.cells,.bool (wordM op).2])/\Mods Nil' w w':=by
 obtain rfl:op=l+96:=by omega
 clear hop
 go_enter Tryz.func78,Tryz.ntmps78
 go_wp2_with fail
 refine (compares_any _).mono ?_
 rintro e w1 ⟨rfl,b1,m1⟩
 have hc:=strs_cell b1 (k:=l) (by show l<12;omega)
 simp at hc
 obtain ⟨hz,hx⟩:=new2 m1 (fun _ _ e=>e)
 obtain ⟨x0,x1,x2,x3,x4,x5,x6,x7⟩:=hx.cells8;obtain ⟨z0,z1,z2,z3,z4,z5,z6,z7⟩:=hz.cells8
 have fx:=hx.frozen
 have fz:=hz.frozen
 have M1:Mods Nil' w w1:=(((Mods.refl _ _).alloc _).alloc _).trans m1
 clear m1 b1
 go_wp2
 refine bodyPost_ret (results_cell_tmp_row Tryz.results78 _ _ w.heap.size 51 _ (0,0) _ _ rfl rfl (Blk.set8 ((hz.setOther (a:=⟨w.heap.size+1,0,none⟩) (by simp) _).setOther (a:=⟨w.heap.size+1,3,none⟩) (by simp) _) _ _ _ _ _ _ _ _) Tryz.underlying51 rfl (by kernel_rfl)) rfl ⟨?_,((M1.setNew (a:=⟨w.heap.size+1,0,none⟩) (by simp) _).setNew (a:=⟨w.heap.size+1,3,none⟩) (by simp) _).set8 (.inr (Nat.le_refl _)) _ _ _ _ _ _ _ _⟩
 rw [HM.out];rfl
set_option maxRecDepth 100000 in
set_option maxHeartbeats 1000000 in
theorem word_x (op:Nat) (w:World) (h:op=192\/op=193\/op=194) :
  Calls Tryz.prog 78 #[.int .i64 op] w fun e w'=>e=.returned (.tuple #[.agg (wordM op).1.cells,.bool (wordM op).2])/\Mods Nil' w w':=by
 rcases h with rfl | rfl | rfl
 all_goals
  go_enter Tryz.func78,Tryz.ntmps78
  go_wp2
  refine bodyPost_ret (results_cell_tmp_row Tryz.results78 _ _ w.heap.size 51 _ (0,0) _ _ rfl rfl ((Blk.new w _ _).alloc _) Tryz.underlying51 rfl (by kernel_rfl)) rfl ⟨rfl,((Mods.refl _ _).alloc _).alloc _⟩
set_option maxRecDepth 100000 in
set_option maxHeartbeats 1000000 in
theorem word_m (op:Nat) (w:World) (h:op=128\/op=129\/op=130\/op=131\/op=132\/op=133) :
  Calls Tryz.prog 78 #[.int .i64 op] w fun e w'=>e=.returned (.tuple #[.agg (wordM op).1.cells,.bool (wordM op).2])/\Mods Nil' w w':=by
 rcases h with rfl | rfl | rfl | rfl | rfl | rfl
 all_goals
  go_enter Tryz.func78,Tryz.ntmps78
  go_wp2
  refine bodyPost_ret (results_cell_tmp_row Tryz.results78 _ _ w.heap.size 51 _ (0,0) _ _ rfl rfl (((Blk.new w _ _).alloc _).alloc _) Tryz.underlying51 rfl (by kernel_rfl)) rfl ⟨rfl,(((Mods.refl _ _).alloc _).alloc _).alloc _⟩
set_option maxRecDepth 100000 in
set_option maxHeartbeats 1000000 in
theorem word_m2 (op:Nat) (w:World) (h:op=134\/op=135\/op=136\/op=137\/op=138\/op=139) :
  Calls Tryz.prog 78 #[.int .i64 op] w fun e w'=>e=.returned (.tuple #[.agg (wordM op).1.cells,.bool (wordM op).2])/\Mods Nil' w w':=by
 rcases h with rfl | rfl | rfl | rfl | rfl | rfl
 all_goals
  go_enter Tryz.func78,Tryz.ntmps78
  go_wp2
  refine bodyPost_ret (results_cell_tmp_row Tryz.results78 _ _ w.heap.size 51 _ (0,0) _ _ rfl rfl (((Blk.new w _ _).alloc _).alloc _) Tryz.underlying51 rfl (by kernel_rfl)) rfl ⟨rfl,(((Mods.refl _ _).alloc _).alloc _).alloc _⟩
set_option maxRecDepth 100000 in
set_option maxHeartbeats 1000000 in
theorem word_none (op:Nat) (w:World) (h1:((op:Int)<64/\((op:Int) % 16=0\/13<(op:Int) % 16\/((op:Int) % 16=13/\32<=(op:Int))))\/(76<=(op:Int)/\(op:Int)<=96)\/(108<=(op:Int)/\(op:Int)<128)\/(140<=(op:Int)/\(op:Int)<192)\/(194<(op:Int))) (h2:op<=255) (HM:Hid (wordM op=({},false))) :
  Calls Tryz.prog 78 #[.int .i64 op] w fun e w'=>e=.returned (.tuple #[.agg (wordM op).1.cells,.bool (wordM op).2])/\Mods Nil' w w':=by
 have hb:(op:Int)<=255:=by omega
 rcases h1 with ⟨h1,h3 | h3 | ⟨h3,h4⟩⟩ | ⟨h1,h3⟩ | ⟨h1,h3⟩ | ⟨h1,h3⟩ | h1
 all_goals
  go_enter Tryz.func78,Tryz.ntmps78
  go_wp2
  refine bodyPost_ret (results_cell_tmp_row Tryz.results78 _ _ w.heap.size 51 _ (0,0) _ _ rfl rfl ((Blk.new w _ _).alloc _) Tryz.underlying51 rfl (by kernel_rfl)) rfl ⟨?_,((Mods.refl _ _).alloc _).alloc _⟩
  rw [HM.out];rfl
theorem word_any (op:Nat) (w:World) (h:op<=255) :
  Calls Tryz.prog 78 #[.int .i64 op] w fun e w'=>e=.returned (.tuple #[.agg (wordM op).1.cells,.bool (wordM op).2])/\Mods Nil' w w':=by
 by_cases c1:op<64/\1<=op % 16/\op % 16<=13/\(op % 16<13\/op<32)
 ·exact word_r op (op % 16 - 1) w (by omega) (by omega) (by omega) (by omega) (by rw [Hid,wordM,if_pos c1])
 ·by_cases c2:64<=op/\op<76
  ·exact word_c op (op - 64) w (by omega) (by omega) (by rw [Hid,wordM,if_neg c1,if_pos c2])
  ·by_cases c3:96<op/\op<108
   ·exact word_n op (op - 96) w (by omega) (by omega) (by omega) (by rw [Hid,wordM,if_neg c1,if_neg c2,if_pos c3])
   ·by_cases c4:128<=op/\op<140
    ·by_cases c5:op<134
     ·exact word_m op w (by omega)
     ·exact word_m2 op w (by omega)
    ·by_cases c6:op=192\/op=193\/op=194
     ·exact word_x op w c6
     ·exact word_none op w (by omega) h (by
       rw [Hid,wordM,if_neg c1,if_neg c2,if_neg c3,if_neg c4,if_neg (fun e=>c6 (.inl e)),if_neg (fun e=>c6 (.inr (.inl e))),if_neg (fun e=>c6 (.inr (.inr e)))])
structure InsOut where
 i:RIns
 jump:Int
 num:Int
 ok:Bool
 r:RS
def InsOut.val (x:InsOut):Value:=.tuple #[.agg x.i.cells,.int .i64 x.jump,.int .u64 x.num,.bool x.ok]
def insBase (i:RIns) (x:RSlot):RIns:={ i with d:=x.d,s:=if i.s<0 then i.s else x.s,n:=x.n }
def NEG:ByteArray:=T [110,101,103]
def JA:ByteArray:=T [106,97]
def insM (s:ByteArray) (r:RS):InsOut :=
 let x:=(rsl s r).1;let r1:=(rsl s r).2
 let i:=(wordM x.op).1
 if (wordM x.op).2=false\/r1.bad=true\/10<x.d\/10<x.s then ⟨i,0,0,false,r1⟩
 else
  let k:=sortM i.word
  let b:=decide (i.s<0)
  let j:=insBase i x
  if k=114 then ⟨j,0,0,!(((x.d:Int)==10)||(x.jump != 0)||(!b&&x.n != 0)||((b||decide (i.word=NEG))&&(x.s:Int) != 0)),r1⟩
  else if k=106 then ⟨j,x.jump,0,!((!b&&x.n != 0)||((b||decide (i.word=JA))&&(x.s:Int) != 0)||(decide (i.word=JA)&&(x.d:Int) != 0)),r1⟩
  else if k=108\/k=115 then ⟨{ j with jump:=x.jump },0,0,!((k==108&&(x.d:Int)==10)||(!b&&x.n != 0)||(b&&(x.s:Int) != 0)),r1⟩
  else if k=119 then
   let y:=(rsl s r1).1;let r2:=(rsl s r1).2
   let low:=x.n % 4294967296
   let n:=IntKind.u64.wrap (low+IntKind.u64.wrap (y.n*4294967296))
   let bad:=r2.bad||((x.d:Int)==10)||decide (1<(x.s:Int))||(x.jump != 0)||((y.op:Int) != 0)||((y.d:Int) != 0)||((y.s:Int) != 0)||(y.jump != 0)||((x.s:Int)==1&&y.n != 0)
   if x.s=1 then ⟨{ j with n:=0 },1,low,!bad,r2⟩ else ⟨{ j with n:=n },0,0,!bad,r2⟩
  else if k=99 then
   if x.s=0/\1<=x.n/\x.n<=4/\x.d=0/\x.jump=0 then ⟨{ j with n:=0,word:=T [104,101,108,112],label:=helpersL[x.n.toNat - 1]?.getD E0 },0,0,true,r1⟩
   else ⟨{ j with n:=0 },1,x.n,((x.s:Int)==1)&&((x.d:Int)==0)&&(x.jump==0),r1⟩
  else ⟨j,0,0,((x.d:Int)==0)&&((x.s:Int)==0)&&(x.jump==0)&&(x.n==0),r1⟩
theorem rsl_bd (s:ByteArray) (r:RS):(rsl s r).1.op<=255/\(rsl s r).1.d<=15/\(rsl s r).1.s<=15/\-32768<=(rsl s r).1.jump/\(rsl s r).1.jump<=32767/\0<=(rsl s r).1.n/\(rsl s r).1.n<=18446744073709551615:=by
 have l1:=rb_le s r
 have l2:=rb_le s (rb s r).2
 have l3:=rw2_le s (rb s (rb s r).2).2
 have l4:=rw4_le s (rw2 s (rb s (rb s r).2).2).2
 refine ⟨l1,?_,?_,?_,?_,?_,?_⟩
 ·show _ % 16<=15;omega
 ·show _ / 16<=15;omega
 ·show _<=sx16 _;unfold sx16;split<;>omega
 ·show sx16 _<=_;unfold sx16;split<;>omega
 ·show _<=sx32 _;unfold sx32;split<;>omega
 ·show sx32 _<=_;unfold sx32;split<;>omega
theorem reckons_size (k:Nat):(reckonsL[k]?.getD E0).size<=16:=by
 rcases Nat.lt_or_ge k 13 with h | h
 ·have:k=0\/k=1\/k=2\/k=3\/k=4\/k=5\/k=6\/k=7\/k=8\/k=9\/k=10\/k=11\/k=12:=by omega
  rcases this with rfl | rfl | rfl | rfl | rfl | rfl | rfl | rfl | rfl | rfl | rfl | rfl | rfl<;>decide
 ·have:reckonsL[k]?=none:=List.getElem?_eq_none (by show 13<=k;exact h)
  rw [this];decide
theorem compares_size (k:Nat):(comparesL[k]?.getD E0).size<=16:=by
 rcases Nat.lt_or_ge k 12 with h | h
 ·have:k=0\/k=1\/k=2\/k=3\/k=4\/k=5\/k=6\/k=7\/k=8\/k=9\/k=10\/k=11:=by omega
  rcases this with rfl | rfl | rfl | rfl | rfl | rfl | rfl | rfl | rfl | rfl | rfl | rfl<;>decide
 ·have:comparesL[k]?=none:=List.getElem?_eq_none (by show 12<=k;exact h)
  rw [this];decide
theorem mem_size (k:Nat):(memL[k]?.getD E0).size<=16:=by
 rcases Nat.lt_or_ge k 12 with h | h
 ·have:k=0\/k=1\/k=2\/k=3\/k=4\/k=5\/k=6\/k=7\/k=8\/k=9\/k=10\/k=11:=by omega
  rcases this with rfl | rfl | rfl | rfl | rfl | rfl | rfl | rfl | rfl | rfl | rfl | rfl<;>decide
 ·have:memL[k]?=none:=List.getElem?_eq_none (by show 12<=k;exact h)
  rw [this];decide
theorem ite_ok {P:RIns × Bool->Prop} {c:Prop} [Decidable c] {a b:RIns × Bool} (h1:P a) (h2:P b):P (if c then a else b):=by
 split
 ·exact h1
 ·exact h2
def Wsz (x:RIns × Bool):Prop:=x.1.word.size<=16
set_option maxRecDepth 100000 in
theorem word_size (op:Nat):(wordM op).1.word.size<=16:=by
 show Wsz (wordM op)
 unfold wordM
 refine ite_ok (reckons_size _) (ite_ok (compares_size _) (ite_ok (compares_size _) (ite_ok (mem_size (op - 128)) (ite_ok ?_ (ite_ok ?_ (ite_ok ?_ ?_))))))
 all_goals (unfold Wsz;dsimp only;decide)
theorem results_cell_tmp3 {P:Program} {fn:Func} {p u1 u2 u3:Tmp} {ty:TypeId} (h:fn.results=#[.cell p ty,.tmp u1,.tmp u2,.tmp u3]) (tmps:Array Value) (w:World) (g:Nat) (t:TypeId) (cs:Array Value) (fr:Nat × Nat) (d:TypeDesc) (v1 v2 v3:Value)
  (hp:tmps.getD p undef=.pointer (some ⟨g,0,none⟩)) (hv1:tmps.getD u1 undef=v1) (hv2:tmps.getD u2 undef=v2) (hv3:tmps.getD u3 undef=v3) (hg:w.heap[g]?=some (.cells cs t fr))
  (hu:P.underlying ty=some d) (hd:(match d with | .struct _ | .array _ _=>true | _=>false)=true) (hi:(P.info? ty).map (·.size)=some cs.size) :
  (results fn tmps).run P w=.ok (.tuple #[.agg cs,v1,v2,v3]) w:=by
 have hp':tmps[p]?.getD undef=.pointer (some ⟨g,0,none⟩):=by simpa using hp
 have h1':tmps[u1]?.getD undef=v1:=by simpa using hv1
 have h2':tmps[u2]?.getD undef=v2:=by simpa using hv2
 have h3':tmps[u3]?.getD undef=v3:=by simpa using hv3
 simp only [results,h]
 simp [hp',h1',h2',h3',asAddr,run_loadVar_row w g t ty cs fr d hg hu hd hi]
end Go.Proofs.YtoknbkfclhmapaaGreatDoor
