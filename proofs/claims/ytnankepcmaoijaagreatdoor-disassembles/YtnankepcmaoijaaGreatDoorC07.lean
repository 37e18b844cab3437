/- Contracts: the parts of an instruction's text, as values. -/
import Derived.Test.YtnankepcmaoijaaGreatDoorC06
import Derived.Laws.EntriesVeiled
import Derived.Test.YtnankepcmaoijaaGreatDoorC04
namespace Go.Proofs.YtnankepcmaoijaaGreatDoor
open Go.RowKit

/-- The blocks that are rows of the table of ops, and the lists of pointers to such: these are written when they are there already. -/
def OpBlk (w : World) (k : Nat) : Prop := ∃ cs t fr, w.heap[k]? = some (.cells cs t fr) ∧ (t = 108 ∨ t = 96)

/-- Nothing has turned but new blocks and such. -/
def Kp (w w' : World) : Prop := Mods (OpBlk w) w w'

theorem Kp.refl (w : World) : Kp w w := Mods.refl _ _
theorem Mods.kp {w w' : World} (m : Mods Nil' w w') : Kp w w' := m.mono (fun _ _ h => h.elim)
theorem Kp.trans {w w' w'' : World} (h : Kp w w') (k : Kp w' w'') : Kp w w'' :=
  Mods.step h k (fun i hi ⟨cs, t, fr, hb, ht⟩ => by
    refine Classical.byContradiction fun hn => hn ?_
    rw [h.block i hi hn] at hb
    exact ⟨cs, t, fr, hb, ht⟩)
theorem Kp.not {w : World} {g : Nat} {cs : Array Value} {t : TypeId} (h : Blk w g cs t) (ht : t ≠ 108 ∧ t ≠ 96) : ¬ OpBlk w g := by
  rintro ⟨cs', t', fr, h', ht'⟩
  rw [show w.heap[g]? = some (.cells cs t (0, 0)) from h] at h'
  cases h'
  rcases ht' with h | h
  · exact ht.1 h
  · exact ht.2 h
theorem Blk.kp {w w' : World} {g : Nat} {cs : Array Value} {t : TypeId} (h : Blk w g cs t) (m : Kp w w') (ht : t ≠ 108 ∧ t ≠ 96) : Blk w' g cs t := h.mods m (Kp.not h ht)
theorem Sl.kp {w w' : World} {e : TypeId} {size : Nat} {v : Value} {n : Nat} {xs : List Value} (h : Sl w e size v n xs) (m : Kp w w') (he : e ≠ 108 ∧ e ≠ 96) : Sl w' e size v n xs := by
  refine h.mods m fun k hk hn => ?_
  rcases h.2 with ⟨rfl, rfl⟩ | ⟨g, cap, cur, rfl, _, hg, _⟩
  · cases hk
  · cases hk
    exact Kp.not (cs := cur) hg he hn
/-- A write into a list of pointers to rows. -/
theorem Mods.kpSl {w w' : World} {v : Value} {n : Nat} {xs : List Value} (h : Sl w 96 1 v n xs) (m : Mods (fun k => v.ownBlock = some k) w w') : Kp w w' :=
  m.mono fun k _ hk => by
    rcases h.2 with ⟨rfl, rfl⟩ | ⟨g, cap, cur, rfl, _, hg, _⟩
    · cases hk
    · cases hk
      exact ⟨_, _, _, hg, .inr rfl⟩

/-- A part as it stands in memory: its three functions. -/
structure PV where
  f1 : Fn
  c1 : Array Value
  k2 : FuncId
  c2 : Array Value
  k3 : FuncId
  c3 : Array Value

def PV.cells (v : PV) (n : Nat) : List Value := [.int .i64 n, .func v.f1 #[] v.c1, .func (.func v.k2) #[] v.c2, .func (.func v.k3) #[] v.c3]
theorem PV.cells_len (v : PV) (n : Nat) : (v.cells n).length = 4 := rfl

/-- A function that has a body. -/
def Ent (k : FuncId) : Prop := ∀ args w, (callFunc k args).run Tryz.prog w = .ok (.enter k args) w

/-- Its functions do what its kind says, in this world and in all that come of it by new blocks. -/
structure PV.Ok (w : World) (p : PK) (v : PV) : Prop where
  wr : ∀ w' x, Kp w w' → Env w' → x.Fit → Calls Tryz.prog v.k2 (#[.agg x.cells] ++ v.c2) w' fun e w'' => e = .returned (.string (T (p.write x))) ∧ Mods Nil' w' w''
  ri : ∀ w' x, Kp w w' → x.Fit → Calls Tryz.prog v.k3 (#[.agg x.cells] ++ v.c3) w' fun e w'' => e = .returned (.bool (p.right x)) ∧ Mods Nil' w' w''
  e2 : Ent v.k2
  e3 : Ent v.k3

theorem PV.Ok.kp {w w' : World} {p : PK} {v : PV} (h : v.Ok w p) (m : Kp w w') : v.Ok w' p :=
  ⟨fun w2 x m2 => h.wr w2 x (m.trans m2), fun w2 x m2 => h.ri w2 x (m.trans m2), h.e2, h.e3⟩

def PartPost (w : World) (p : PK) (e : Ending) (w' : World) : Prop := ∃ v : PV, e = .returned (.agg (v.cells p.fills).toArray) ∧ v.Ok w' p ∧ Mods Nil' w w'

set_option maxHeartbeats 400000 in
theorem part_source (w : World) : Calls Tryz.prog 69 #[] w fun e w' => PartPost w .source e w' := by
  go_enter Tryz.func69, Tryz.ntmps69
  go_wp2_with fail
  refine bodyPost_ret (results_cell_row Tryz.results69 _ _ w.heap.size 130 _ (0, 0) _ rfl (Blk.new _ _ _) Tryz.underlying130 rfl (by kernel_rfl)) rfl ⟨⟨_, _, _, _, _, _⟩, rfl, ?_, (Mods.refl _ _).alloc _⟩
  exact ⟨fun w' x _ hE hx => by simpa using srcW_any x hx w' hE, fun w' x _ hx => by simpa using srcR_any x hx w', enters_of Tryz.func108 (by kernel_rfl) rfl, enters_of Tryz.func110 (by kernel_rfl) rfl⟩

set_option maxHeartbeats 400000 in
theorem operand_val (w : World) : Calls Tryz.prog 79 #[] w fun e w' => e = .returned (.agg #[.int .i64 1, .func (.func 143) #[] #[], .func (.func 144) #[] #[], .func (.func 145) #[] #[]]) ∧ Mods Nil' w w' := by
  go_enter Tryz.func79, Tryz.ntmps79
  go_wp2_with fail
  exact bodyPost_ret (results_cell_row Tryz.results79 _ _ w.heap.size 130 _ (0, 0) _ rfl (Blk.new _ _ _) Tryz.underlying130 rfl (by kernel_rfl)) rfl ⟨rfl, (Mods.refl _ _).alloc _⟩

theorem part_operand (w : World) : Calls Tryz.prog 79 #[] w fun e w' => PartPost w .operand e w' :=
  (operand_val w).mono fun _ _ h => ⟨⟨_, _, _, _, _, _⟩, h.1, ⟨fun w' x _ hE hx => by simpa using opdW_any x hx w' hE, fun w' x _ hx => by simpa using opdR_any x hx w', enters_of Tryz.func144 (by kernel_rfl) rfl, enters_of Tryz.func145 (by kernel_rfl) rfl⟩, h.2⟩

set_option maxHeartbeats 400000 in
theorem part_number (w : World) : Calls Tryz.prog 70 #[] w fun e w' => PartPost w .number e w' := by
  go_enter Tryz.func70, Tryz.ntmps70
  go_wp2_with fail
  refine bodyPost_ret (results_cell_row Tryz.results70 _ _ w.heap.size 130 _ (0, 0) _ rfl (Blk.new _ _ _) Tryz.underlying130 rfl (by kernel_rfl)) rfl ⟨⟨_, _, _, _, _, _⟩, rfl, ?_, (Mods.refl _ _).alloc _⟩
  exact ⟨fun w' x _ hE hx => by simpa using numW_any x hx w' hE, fun w' x _ hx => by simpa [PK.right] using always_any x w', enters_of Tryz.func114 (by kernel_rfl) rfl, enters_of Tryz.func115 (by kernel_rfl) rfl⟩

set_option maxHeartbeats 400000 in
theorem part_label (w : World) : Calls Tryz.prog 80 #[] w fun e w' => PartPost w .label e w' := by
  go_enter Tryz.func80, Tryz.ntmps80
  go_wp2_with fail
  refine bodyPost_ret (results_cell_row Tryz.results80 _ _ w.heap.size 130 _ (0, 0) _ rfl (Blk.new _ _ _) Tryz.underlying130 rfl (by kernel_rfl)) rfl ⟨⟨_, _, _, _, _, _⟩, rfl, ?_, (Mods.refl _ _).alloc _⟩
  exact ⟨fun w' x _ hE hx => by simpa using labW_any x w', fun w' x _ hx => by simpa [PK.right] using always_any x w', enters_of Tryz.func148 (by kernel_rfl) rfl, enters_of Tryz.func115 (by kernel_rfl) rfl⟩

set_option maxHeartbeats 400000 in
theorem part_offset (w : World) : Calls Tryz.prog 85 #[] w fun e w' => PartPost w .offset e w' := by
  go_enter Tryz.func85, Tryz.ntmps85
  go_wp2_with fail
  refine bodyPost_ret (results_cell_row Tryz.results85 _ _ w.heap.size 130 _ (0, 0) _ rfl (Blk.new _ _ _) Tryz.underlying130 rfl (by kernel_rfl)) rfl ⟨⟨_, _, _, _, _, _⟩, rfl, ?_, (Mods.refl _ _).alloc _⟩
  exact ⟨fun w' x _ hE hx => by simpa using offW_any x hx w' hE, fun w' x _ hx => by simpa [PK.right] using always_any x w', enters_of Tryz.func166 (by kernel_rfl) rfl, enters_of Tryz.func115 (by kernel_rfl) rfl⟩

set_option maxHeartbeats 400000 in
theorem part_wide (w : World) : Calls Tryz.prog 89 #[] w fun e w' => PartPost w .wide e w' := by
  go_enter Tryz.func89, Tryz.ntmps89
  go_wp2_with fail
  refine bodyPost_ret (results_cell_row Tryz.results89 _ _ w.heap.size 130 _ (0, 0) _ rfl (Blk.new _ _ _) Tryz.underlying130 rfl (by kernel_rfl)) rfl ⟨⟨_, _, _, _, _, _⟩, rfl, ?_, (Mods.refl _ _).alloc _⟩
  exact ⟨fun w' x _ hE hx => by simpa using wideW_any x hx w' hE, fun w' x _ hx => by simpa using wideR_any x hx w', enters_of Tryz.func172 (by kernel_rfl) rfl, enters_of Tryz.func173 (by kernel_rfl) rfl⟩

set_option maxHeartbeats 400000 in
theorem part_result (w : World) : Calls Tryz.prog 67 #[] w fun e w' => PartPost w .result e w' := by
  go_enter Tryz.func67, Tryz.ntmps67
  go_wp2_with fail
  refine (operand_val _).mono ?_
  rintro e w1 ⟨rfl, m1⟩
  have hz : Blk (w1.alloc (.cells #[.int .i64 1, .func (.func 143) #[] #[], .func (.func 144) #[] #[], .func (.func 104) #[] #[]] 130)) w.heap.size #[.int .i64 0, .nilFunc, .nilFunc, .nilFunc] 130 := ((Blk.new w _ _).mods m1 id).alloc _
  have z0 := hz.cell 0
  have z1 := hz.cell 1
  have z2 := hz.cell 2
  have z3 := hz.cell 3
  have f0 := hz.frozen 0
  have f1' := hz.frozen 1
  have f2 := hz.frozen 2
  have f3 := hz.frozen 3
  simp at z0 z1 z2 z3
  go_wp2_with fail
  refine bodyPost_ret (results_cell_row Tryz.results67 _ _ w.heap.size 130 _ (0, 0) _ rfl ((((hz.set 0 _).set 1 _).set 2 _).set 3 _) Tryz.underlying130 rfl (by kernel_rfl)) rfl ⟨⟨_, _, _, _, _, _⟩, rfl, ?_, ?_⟩
  · exact ⟨fun w' x _ hE hx => by simpa [PK.write] using opdW_any x hx w' hE, fun w' x _ hx => by simpa using resR_any x hx w', enters_of Tryz.func144 (by kernel_rfl) rfl, enters_of Tryz.func104 (by kernel_rfl) rfl⟩
  · iterate 4 refine Mods.set ?_ (.inr (by simp)) _
    exact (((Mods.refl _ _).alloc _).trans m1).alloc _

/-- The values of a mark whose text lies in block g. -/
abbrev markC (b g : Nat) : Array Value := #[.int .i64 0, .func (.func 185) #[] #[.pointer (some ⟨b, 0, none⟩)], .func (.func 187) #[] #[.pointer (some ⟨g, 0, none⟩)], .func (.func 115) #[] #[]]

set_option maxHeartbeats 400000 in
theorem mark_val (w : World) (b : Nat) (t : ByteArray) : Calls Tryz.prog 105 #[.int .u8 b, .string t] w fun e w' =>
    e = .returned (.agg (markC w.heap.size (w.heap.size + 1))) ∧ Blk w' (w.heap.size + 1) #[.string t] 9 ∧ Mods Nil' w w' := by
  have hb3 : Blk (((w.alloc (.cells #[.int .u8 b] 5)).alloc (.cells #[.string t] 9)).alloc (.cells (markC w.heap.size (w.heap.size + 1)) 130)) (w.heap.size + 1 + 1) (markC w.heap.size (w.heap.size + 1)) 130 := by
    have := Blk.new ((w.alloc (.cells #[.int .u8 b] 5)).alloc (.cells #[.string t] 9)) (markC w.heap.size (w.heap.size + 1)) 130
    simpa using this
  have hb : Blk ((w.alloc (.cells #[.int .u8 b] 5)).alloc (.cells #[.string t] 9)) (w.heap.size + 1) #[.string t] 9 := by
    have := Blk.new (w.alloc (.cells #[.int .u8 b] 5)) #[.string t] 9
    simpa using this
  go_enter Tryz.func105, Tryz.ntmps105
  go_wp2_with fail
  exact bodyPost_ret (results_cell_row Tryz.results105 _ _ (w.heap.size + 1 + 1) 130 _ (0, 0) _ rfl hb3 Tryz.underlying130 rfl (by kernel_rfl)) rfl ⟨rfl, hb.alloc _, (((Mods.refl _ _).alloc _).alloc _).alloc _⟩

theorem mark_ok (w : World) (b g : Nat) (t : ByteArray) (p : PK) (hw : ∀ x, T (p.write x) = t) (hr : ∀ x, p.right x = true) (hb : Blk w g #[.string t] 9) : PV.Ok w p ⟨.func 185, #[.pointer (some ⟨b, 0, none⟩)], 187, #[.pointer (some ⟨g, 0, none⟩)], 115, #[]⟩ := by
  refine ⟨fun w' x m hE hx => ?_, fun w' x _ hx => by rw [hr]; simpa using always_any x w', enters_of Tryz.func187 (by kernel_rfl) rfl, enters_of Tryz.func115 (by kernel_rfl) rfl⟩
  have h2 := hb.kp m (by decide)
  rw [hw]
  exact markW_any x w' g t (h2.cell 0) h2.lt

set_option maxHeartbeats 400000 in
theorem part_comma (w : World) : Calls Tryz.prog 68 #[] w fun e w' => PartPost w .comma e w' := by
  go_enter Tryz.func68, Tryz.ntmps68
  go_wp2_with fail
  refine (mark_val _ 44 (T [44, 32])).mono ?_
  rintro e w1 ⟨rfl, hb1, m1⟩
  have hz : Blk w1 w.heap.size #[.int .i64 0, .nilFunc, .nilFunc, .nilFunc] 130 := (Blk.new w _ _).mods m1 id
  have z0 := hz.cell 0
  have z1 := hz.cell 1
  have z2 := hz.cell 2
  have z3 := hz.cell 3
  have f0 := hz.frozen 0
  have f1 := hz.frozen 1
  have f2 := hz.frozen 2
  have f3 := hz.frozen 3
  simp at z0 z1 z2 z3 hb1
  go_wp2_with fail
  refine bodyPost_ret (results_cell_row Tryz.results68 _ _ w.heap.size 130 _ (0, 0) _ rfl ((((hz.set 0 _).set 1 _).set 2 _).set 3 _) Tryz.underlying130 rfl (by kernel_rfl)) rfl ⟨⟨_, _, _, _, _, _⟩, rfl, ?_, ?_⟩
  · refine mark_ok _ _ _ (T [44, 32]) .comma (fun _ => rfl) (fun _ => rfl) ?_
    iterate 4 refine Blk.setOther ?_ (by simp; omega) _
    exact hb1
  · iterate 4 refine Mods.set ?_ (.inr (by simp)) _
    exact ((Mods.refl _ _).alloc _).trans m1

set_option maxHeartbeats 400000 in
theorem part_opens (w : World) : Calls Tryz.prog 84 #[] w fun e w' => PartPost w .opens e w' := by
  go_enter Tryz.func84, Tryz.ntmps84
  go_wp2_with fail
  refine (mark_val _ 91 (T [91])).mono ?_
  rintro e w1 ⟨rfl, hb1, m1⟩
  have hz : Blk w1 w.heap.size #[.int .i64 0, .nilFunc, .nilFunc, .nilFunc] 130 := (Blk.new w _ _).mods m1 id
  have z0 := hz.cell 0
  have z1 := hz.cell 1
  have z2 := hz.cell 2
  have z3 := hz.cell 3
  have f0 := hz.frozen 0
  have f1 := hz.frozen 1
  have f2 := hz.frozen 2
  have f3 := hz.frozen 3
  simp at z0 z1 z2 z3 hb1
  go_wp2_with fail
  refine bodyPost_ret (results_cell_row Tryz.results84 _ _ w.heap.size 130 _ (0, 0) _ rfl ((((hz.set 0 _).set 1 _).set 2 _).set 3 _) Tryz.underlying130 rfl (by kernel_rfl)) rfl ⟨⟨_, _, _, _, _, _⟩, rfl, ?_, ?_⟩
  · refine mark_ok _ _ _ (T [91]) .opens (fun _ => rfl) (fun _ => rfl) ?_
    iterate 4 refine Blk.setOther ?_ (by simp; omega) _
    exact hb1
  · iterate 4 refine Mods.set ?_ (.inr (by simp)) _
    exact ((Mods.refl _ _).alloc _).trans m1

set_option maxHeartbeats 400000 in
theorem part_shut (w : World) : Calls Tryz.prog 86 #[] w fun e w' => PartPost w .shut e w' := by
  go_enter Tryz.func86, Tryz.ntmps86
  go_wp2_with fail
  refine (mark_val _ 93 (T [93])).mono ?_
  rintro e w1 ⟨rfl, hb1, m1⟩
  have hz : Blk w1 w.heap.size #[.int .i64 0, .nilFunc, .nilFunc, .nilFunc] 130 := (Blk.new w _ _).mods m1 id
  have z0 := hz.cell 0
  have z1 := hz.cell 1
  have z2 := hz.cell 2
  have z3 := hz.cell 3
  have f0 := hz.frozen 0
  have f1 := hz.frozen 1
  have f2 := hz.frozen 2
  have f3 := hz.frozen 3
  simp at z0 z1 z2 z3 hb1
  go_wp2_with fail
  refine bodyPost_ret (results_cell_row Tryz.results86 _ _ w.heap.size 130 _ (0, 0) _ rfl ((((hz.set 0 _).set 1 _).set 2 _).set 3 _) Tryz.underlying130 rfl (by kernel_rfl)) rfl ⟨⟨_, _, _, _, _, _⟩, rfl, ?_, ?_⟩
  · refine mark_ok _ _ _ (T [93]) .shut (fun _ => rfl) (fun _ => rfl) ?_
    iterate 4 refine Blk.setOther ?_ (by simp; omega) _
    exact hb1
  · iterate 4 refine Mods.set ?_ (.inr (by simp)) _
    exact ((Mods.refl _ _).alloc _).trans m1

end Go.Proofs.YtnankepcmaoijaaGreatDoor

/- Contracts: how an op is written, and what it needs, out of its parts. -/
namespace Go.Proofs.YtnankepcmaoijaaGreatDoor
open Go.RowKit

/-- A list of parts in memory. -/
structure PartsAt (w : World) (v : Value) (ps : List PK) : Prop where
  ex : ∃ pv : List (PK × PV), pv.map (·.1) = ps ∧ (∀ x ∈ pv, x.2.Ok w x.1) ∧ Sl w 130 4 v pv.length (pv.flatMap (fun x => x.2.cells x.1.fills))

theorem PartsAt.kp {w w' : World} {v : Value} {ps : List PK} (h : PartsAt w v ps) (m : Kp w w') : PartsAt w' v ps := by
  obtain ⟨pv, h1, h2, h3⟩ := h.ex
  exact ⟨pv, h1, fun x hx => (h2 x hx).kp m, h3.kp m (by decide)⟩
theorem PartsAt.mods {w w' : World} {v : Value} {ps : List PK} (h : PartsAt w v ps) (m : Mods Nil' w w') : PartsAt w' v ps := h.kp m.kp

theorem pwrite_len (x : PIns) (hx : x.Fit) (p : PK) : (p.write x).length ≤ 310 := by
  have hd := itoa_len (x.d : Int) (by omega) (by have := hx.d; omega)
  have hs := itoa_len (x.s : Int) (by omega) (by have := hx.s; omega)
  have hn := itoa_len x.num (by have := hx.n0; omega) (by have := hx.n1; omega)
  have hj := itoa_len x.jump (by have := hx.j0; omega) (by have := hx.j1; omega)
  have hw : (Lib.decDigits x.wide).length ≤ 20 := by rw [Lib.decDigits_length]; exact Lib.nDigits_le20 _ (wide_lt x)
  have hl := hx.l
  have hm := hx.m
  rw [← BL_len] at hl hm
  unfold PK.write
  split <;> simp [regP, offP, wideP] <;> (try split) <;> (try split) <;> (try simp) <;> omega

theorem builder_mods {T e : TypeId} {B b : Nat} {bs : List Value} {w w' : World} (h : Lib.IsBuilderF T e B b bs w) (m : Mods Nil' w w') : Lib.IsBuilderF T e B b bs w' := by
  have key : ∀ p, Lib.BuilderAtF T e B b p bs w → Lib.BuilderAtF T e B b p bs w' := by
    rintro p ⟨h1, v, h2, h3, h4⟩
    refine ⟨h1, v, (m.block b (Array.getElem?_eq_some_iff.1 h2).1 id).trans h2, ⟨h3.1, ?_⟩, h4⟩
    rcases h3.2 with hn | ⟨g, cap, cur, fz, hv, hb, hg, rest⟩
    · exact .inl hn
    · exact .inr ⟨g, cap, cur, fz, hv, hb, (m.block g (Array.getElem?_eq_some_iff.1 hg).1 id).trans hg, rest⟩
  rcases h with h | h
  · exact .inl (key _ h)
  · exact .inr (key _ h)

theorem builder_new (w : World) : Lib.IsBuilderF 71 5 w.heap.size w.heap.size [] (w.alloc (.cells #[.pointer none, .slice none 0 0] 71)) :=
  .inl ⟨Nat.le_refl _, .slice none 0 0, heap_alloc_new w _, ⟨rfl, .inl ⟨rfl, rfl⟩⟩, by simp [Value.ownBlock]⟩

/-- What a builder's writing leaves. -/
theorem bwrite_any (B b : Nat) (l : List UInt8) (s : ByteArray) (w : World) (h : Lib.IsBuilderF 71 5 B b (Lib.byteCells l) w) (hlen : l.length + s.size ≤ 140737488355328) (hBw : B ≤ w.heap.size) :
    Calls Tryz.prog 23 #[.pointer (some ⟨b, 0, none⟩), .string s] w fun e w' => e = .returned (.tuple #[.int .i64 s.size, .nilIface]) ∧ Lib.IsBuilderF 71 5 B b (Lib.byteCells (l ++ BL s)) w' ∧ Below B w w' ∧ Lib.OthersKept 5 (some b) w w' :=
  (Any.Builder_WriteString_k Tryz.lw Tryz.extra_lw B b (Lib.byteCells l) s w h (by rw [Lib.byteCells_length]; exact hlen) hBw).mono fun _ _ ⟨he, h1, h2, h3⟩ => ⟨he, .inr (by
    have e : Lib.byteCells (l ++ BL s) = Lib.byteCells l ++ Lib.strCells s := by simp [Lib.byteCells, Lib.strCells, BL]
    rw [e]; exact h1), h2, h3⟩

theorem kept_blk {e : TypeId} {b g : Nat} {w w' : World} {cs : Array Value} {t : TypeId} (h : Lib.OthersKept e (some b) w w') (hg : Blk w g cs t) (hb : g ≠ b) (ht : t ≠ e) : Blk w' g cs t :=
  h g _ hg (fun h => hb (Option.some.inj h)) (fun c fz h => ht (by cases h; rfl))

theorem bstring_any (B b : Nat) (l : List UInt8) (w : World) (h : Lib.IsBuilderF 71 5 B b (Lib.byteCells l) w) (hBw : B ≤ w.heap.size) :
    Calls Tryz.prog 26 #[.pointer (some ⟨b, 0, none⟩)] w fun e w' => e = .returned (.string (T l)) ∧ Below B w w' :=
  (Any.Builder_String_any_k Tryz.ls Tryz.extra_ls B b l w h hBw).mono fun _ _ ⟨he, _, h2, _⟩ => ⟨he, h2⟩

/-- Part k's cells. -/
theorem parts_at {w : World} {pv : List (PK × PV)} {v : Value} (h : Sl w 130 4 v pv.length (pv.flatMap (fun x => x.2.cells x.1.fills))) {o : Option Addr} {c : Nat} (hv : v = .slice o pv.length c) (k : Nat) (hk : k < pv.length) :
    ∃ g, o = some ⟨g, 0, none⟩ ∧ g < w.heap.size ∧ w.cell? ⟨g, k * 4, none⟩ = some (.int .i64 pv[k].1.fills) ∧ w.cell? ⟨g, k * 4 + 1, none⟩ = some (.func pv[k].2.f1 #[] pv[k].2.c1) ∧
      w.cell? ⟨g, k * 4 + 2, none⟩ = some (.func (.func pv[k].2.k2) #[] pv[k].2.c2) ∧ w.cell? ⟨g, k * 4 + 3, none⟩ = some (.func (.func pv[k].2.k3) #[] pv[k].2.c3) := by
  obtain ⟨o', c', hv', h2⟩ := h.view
  rw [hv] at hv'
  cases hv'
  obtain ⟨g, cs, rfl, hb, ht, _⟩ := h2 (by omega)
  refine ⟨g, rfl, hb.lt, ?_, ?_, ?_, ?_⟩
  all_goals rw [take_cell hb ht _ (by omega)]
  · exact (flat_get (fun x : PK × PV => x.2.cells x.1.fills) 4 (fun _ => rfl) pv k 0 hk (by omega)).trans rfl
  · exact (flat_get (fun x : PK × PV => x.2.cells x.1.fills) 4 (fun _ => rfl) pv k 1 hk (by omega)).trans rfl
  · exact (flat_get (fun x : PK × PV => x.2.cells x.1.fills) 4 (fun _ => rfl) pv k 2 hk (by omega)).trans rfl
  · exact (flat_get (fun x : PK × PV => x.2.cells x.1.fills) 4 (fun _ => rfl) pv k 3 hk (by omega)).trans rfl

/-- What is written when k parts are. -/
def accP (x : PIns) (word : List UInt8) (ps : List PK) (k : Nat) : List UInt8 := word ++ (if k = 0 then [] else [32]) ++ (ps.take k).flatMap (PK.write x)

theorem accP_zero (x : PIns) (word : List UInt8) (ps : List PK) : accP x word ps 0 = word := by simp [accP]
theorem accP_first (x : PIns) (word : List UInt8) (ps : List PK) (h : 0 < ps.length) : accP x word ps 1 = (word ++ ([32] : List UInt8)) ++ PK.write x ps[0] := by
  match ps, h with
  | p :: ps, _ => simp [accP]
theorem accP_step (x : PIns) (word : List UInt8) (ps : List PK) (k : Nat) (h : k < ps.length) (h0 : k ≠ 0) : accP x word ps (k + 1) = accP x word ps k ++ PK.write x ps[k] := by
  unfold accP
  rw [if_neg h0, if_neg (by omega), List.take_succ_eq_append_getElem h, List.flatMap_append]
  simp [List.append_assoc]
theorem accP_end (x : PIns) (word : List UInt8) (ps : List PK) : accP x word ps ps.length = word ++ (if ps = [] then [] else [32]) ++ ps.flatMap (PK.write x) := by
  simp [accP]
theorem accP_len (x : PIns) (hx : x.Fit) (word : List UInt8) : ∀ (ps : List PK) (k : Nat), (accP x word ps k).length ≤ word.length + 1 + 310 * ps.length := by
  intro ps k
  have h : ∀ l : List PK, (l.flatMap (PK.write x)).length ≤ 310 * l.length := by
    intro l
    induction l with
    | nil => simp
    | cons p l ih => have := pwrite_len x hx p; simp only [List.flatMap_cons, List.length_append, List.length_cons]; omega
  have h1 := h (ps.take k)
  have h2 : (ps.take k).length ≤ ps.length := by simp; omega
  have h3 : (if k = 0 then ([] : List UInt8) else [32]).length ≤ 1 := by split <;> simp
  simp only [accP, List.length_append]
  omega
end Go.Proofs.YtnankepcmaoijaaGreatDoor
