/- Contract: an instruction's text, in the document's answer. -/
import Derived.Test.YtnankepcmaoijaaGreatDoorC03
import Derived.Test.YtnankepcmaoijaaGreatDoorC14
import Derived.Test.YtnankepcmaoijaaGreatDoorC02
namespace Go.Proofs.YtnankepcmaoijaaGreatDoor
open Go.RowKit


/-- The word as it is written. -/
def wordL (i : RIns) : List UInt8 := BL i.word ++ (if i.is32 then [51, 50] else [])

def textL (i : RIns) : List UInt8 :=
  let k := sortM i.word
  if k = 114 then
    if i.word = NEG then wordL i ++ [32] ++ regL i.d.toNat
    else wordL i ++ [32] ++ regL i.d.toNat ++ [44, 32] ++ othL i.s i.n
  else if k = 106 then
    if wordL i = [106, 97] then [106, 97, 32] ++ BL i.label
    else wordL i ++ [32] ++ regL i.d.toNat ++ [44, 32] ++ othL i.s i.n ++ [44, 32] ++ BL i.label
  else if k = 108 then wordL i ++ [32] ++ regL i.d.toNat ++ [44, 32] ++ brL i.s.toNat i.jump
  else if k = 115 then wordL i ++ [32] ++ brL i.d.toNat i.jump ++ [44, 32] ++ othL i.s i.n
  else if k = 119 then
    if i.name ≠ E0 then [119, 105, 100, 101, 32] ++ regL i.d.toNat ++ [44, 32, 109, 97, 112, 32] ++ BL i.name
    else [119, 105, 100, 101, 32] ++ regL i.d.toNat ++ [44, 32] ++ decM i.n.toNat
  else if k = 104 then [104, 101, 108, 112, 32] ++ BL i.label
  else if k = 99 then [99, 97, 108, 108, 32] ++ BL i.name
  else [101, 120, 105, 116]

set_option maxHeartbeats 1000000 in
theorem text_rn (i : RIns) (h : i.Fit) (w : World) (hk : sortM i.word = 114) (h32 : i.is32 = false) (hne : i.word = NEG) :
    Calls Tryz.prog 20 #[.agg i.cells] w fun e w' => e = .returned (.string (T (textL i))) ∧ Mods Nil' w w' := by
  have HE : Hid (textL i = BL i.word ++ [32] ++ regL i.d.toNat) := by
    have hd : (i.word = NEG) = True := eq_true hne
    simp [Hid, textL, hk, wordL, h32, hd]
  obtain ⟨word, is32, d, s, jump, n, label, name⟩ := i
  obtain ⟨d0, d1, s1, s0, j0, j1, n0, n1, hw, hl, hn, hi32, hso⟩ := h
  clear hi32 hso
  unfold RIns.cells at *
  simp only at *
  subst h32
  obtain ⟨sr, hsr, hsrl⟩ := open_text (reg_len d.toNat)
  have hrg := reg_any d d0 (by omega)
  rw [← hsr.out] at hrg
  have q1 := lit_eq hne
  have HN : Hid _ := hne
  clear hne
  go_enter Tryz.func20, Tryz.ntmps20
  go_wp2_with fail
  refine (sort_any _ _ (by unfold maxLen; omega)).mono ?_
  rintro e w1 ⟨rfl, m1⟩
  have hb1 : Blk w1 w.heap.size #[.string word, .bool false, .int .i64 d, .int .i64 s, .int .i64 jump, .int .u64 n, .string label, .string name] 57 := (Blk.new w _ _).mods m1 (fun e => e)
  have M1 : Mods Nil' w w1 := ((Mods.refl _ _).alloc _).trans m1
  clear m1
  obtain ⟨c0, c1, c2, c3, c4, c5, c6, c7⟩ := hb1.cells8
  rw [hk]
  go_wp2_with fail
  refine (hrg _).mono ?_
  rintro e w2 ⟨rfl, m2⟩
  go_wp2_with fail
  go_ret
  refine ⟨?_, M1.trans m2⟩
  rw [HE.out]
  refine ret_str ?_
  rw [hsr.out, ← T_app, ← T_app, T_BL]
  rfl

set_option maxHeartbeats 1000000 in
theorem text_rn32 (i : RIns) (h : i.Fit) (w : World) (hk : sortM i.word = 114) (h32 : i.is32 = true) (hne : i.word = NEG) :
    Calls Tryz.prog 20 #[.agg i.cells] w fun e w' => e = .returned (.string (T (textL i))) ∧ Mods Nil' w w' := by
  have HE : Hid (textL i = BL i.word ++ [51, 50] ++ [32] ++ regL i.d.toNat) := by
    have hd : (i.word = NEG) = True := eq_true hne
    simp [Hid, textL, hk, wordL, h32, hd]
  obtain ⟨word, is32, d, s, jump, n, label, name⟩ := i
  obtain ⟨d0, d1, s1, s0, j0, j1, n0, n1, hw, hl, hn, hi32, hso⟩ := h
  clear hi32 hso
  unfold RIns.cells at *
  simp only at *
  subst h32
  obtain ⟨sr, hsr, hsrl⟩ := open_text (reg_len d.toNat)
  have hrg := reg_any d d0 (by omega)
  rw [← hsr.out] at hrg
  have q1 := lit_eq hne
  have HN : Hid _ := hne
  clear hne
  go_enter Tryz.func20, Tryz.ntmps20
  go_wp2_with fail
  refine (sort_any _ _ (by unfold maxLen; omega)).mono ?_
  rintro e w1 ⟨rfl, m1⟩
  have hb1 : Blk w1 w.heap.size #[.string word, .bool true, .int .i64 d, .int .i64 s, .int .i64 jump, .int .u64 n, .string label, .string name] 57 := (Blk.new w _ _).mods m1 (fun e => e)
  have M1 : Mods Nil' w w1 := ((Mods.refl _ _).alloc _).trans m1
  clear m1
  obtain ⟨c0, c1, c2, c3, c4, c5, c6, c7⟩ := hb1.cells8
  rw [hk]
  go_wp2_with fail
  refine (hrg _).mono ?_
  rintro e w2 ⟨rfl, m2⟩
  go_wp2_with fail
  go_ret
  refine ⟨?_, M1.trans m2⟩
  rw [HE.out]
  refine ret_str ?_
  rw [hsr.out, ← T_app, ← T_app, ← T_app, T_BL]
  rfl

set_option maxHeartbeats 1000000 in
theorem text_r (i : RIns) (h : i.Fit) (w : World) (hk : sortM i.word = 114) (h32 : i.is32 = false) (hne : i.word ≠ NEG) :
    Calls Tryz.prog 20 #[.agg i.cells] w fun e w' => e = .returned (.string (T (textL i))) ∧ Mods Nil' w w' := by
  have hot := other_any i h
  have HE : Hid (textL i = BL i.word ++ [32] ++ regL i.d.toNat ++ [44, 32] ++ othL i.s i.n) := by
    simp [Hid, textL, hk, wordL, h32, hne]
  obtain ⟨word, is32, d, s, jump, n, label, name⟩ := i
  obtain ⟨d0, d1, s1, s0, j0, j1, n0, n1, hw, hl, hn, hi32, hso⟩ := h
  clear hi32 hso
  unfold RIns.cells at *
  simp only at *
  subst h32
  obtain ⟨sr, hsr, hsrl⟩ := open_text (reg_len d.toNat)
  have hrg := reg_any d d0 (by omega)
  rw [← hsr.out] at hrg
  obtain ⟨so, hso, hsol⟩ := open_text (oth_len s n)
  rw [← hso.out] at hot
  have q1 := lit_ne hne
  have HN : Hid _ := hne
  clear hne
  go_enter Tryz.func20, Tryz.ntmps20
  go_wp2_with fail
  refine (sort_any _ _ (by unfold maxLen; omega)).mono ?_
  rintro e w1 ⟨rfl, m1⟩
  have hb1 : Blk w1 w.heap.size #[.string word, .bool false, .int .i64 d, .int .i64 s, .int .i64 jump, .int .u64 n, .string label, .string name] 57 := (Blk.new w _ _).mods m1 (fun e => e)
  have M1 : Mods Nil' w w1 := ((Mods.refl _ _).alloc _).trans m1
  clear m1
  obtain ⟨c0, c1, c2, c3, c4, c5, c6, c7⟩ := hb1.cells8
  obtain ⟨g0, g1, g2, g3, g4, g5, g6, g7⟩ := Ext.cells8 (S := Nil') hb1 (fun e => e)
  rw [hk]
  go_wp2_with fail
  have ne1 := Ext.ne Nil' w1
  refine wp_region_ext Nil' (by kernel_rfl) (by kernel_rfl) ?_
  repeat (go_big_quiet_step (first | (go_at_call 37; exact Calls.ext_of (hrg _)) | (go_at_call 38; exact Calls.ext_of (hot _))))
  refine wpQuiet_nil ?_
  rintro _ ⟨⟨w2, m2⟩, rfl⟩
  go_wp2_with fail
  go_ret
  refine ⟨?_, M1.trans m2⟩
  rw [HE.out]
  refine ret_str ?_
  rw [hsr.out, hso.out, ← T_app, ← T_app, ← T_app, ← T_app, T_BL]
  rfl

set_option maxHeartbeats 1000000 in
theorem text_r32 (i : RIns) (h : i.Fit) (w : World) (hk : sortM i.word = 114) (h32 : i.is32 = true) (hne : i.word ≠ NEG) :
    Calls Tryz.prog 20 #[.agg i.cells] w fun e w' => e = .returned (.string (T (textL i))) ∧ Mods Nil' w w' := by
  have hot := other_any i h
  have HE : Hid (textL i = BL i.word ++ [51, 50] ++ [32] ++ regL i.d.toNat ++ [44, 32] ++ othL i.s i.n) := by
    simp [Hid, textL, hk, wordL, h32, hne]
  obtain ⟨word, is32, d, s, jump, n, label, name⟩ := i
  obtain ⟨d0, d1, s1, s0, j0, j1, n0, n1, hw, hl, hn, hi32, hso⟩ := h
  clear hi32 hso
  unfold RIns.cells at *
  simp only at *
  subst h32
  obtain ⟨sr, hsr, hsrl⟩ := open_text (reg_len d.toNat)
  have hrg := reg_any d d0 (by omega)
  rw [← hsr.out] at hrg
  obtain ⟨so, hso, hsol⟩ := open_text (oth_len s n)
  rw [← hso.out] at hot
  have q1 := lit_ne hne
  have HN : Hid _ := hne
  clear hne
  go_enter Tryz.func20, Tryz.ntmps20
  go_wp2_with fail
  refine (sort_any _ _ (by unfold maxLen; omega)).mono ?_
  rintro e w1 ⟨rfl, m1⟩
  have hb1 : Blk w1 w.heap.size #[.string word, .bool true, .int .i64 d, .int .i64 s, .int .i64 jump, .int .u64 n, .string label, .string name] 57 := (Blk.new w _ _).mods m1 (fun e => e)
  have M1 : Mods Nil' w w1 := ((Mods.refl _ _).alloc _).trans m1
  clear m1
  obtain ⟨c0, c1, c2, c3, c4, c5, c6, c7⟩ := hb1.cells8
  obtain ⟨g0, g1, g2, g3, g4, g5, g6, g7⟩ := Ext.cells8 (S := Nil') hb1 (fun e => e)
  rw [hk]
  go_wp2_with fail
  have ne1 := Ext.ne Nil' w1
  refine wp_region_ext Nil' (by kernel_rfl) (by kernel_rfl) ?_
  repeat (go_big_quiet_step (first | (go_at_call 37; exact Calls.ext_of (hrg _)) | (go_at_call 38; exact Calls.ext_of (hot _))))
  refine wpQuiet_nil ?_
  rintro _ ⟨⟨w2, m2⟩, rfl⟩
  go_wp2_with fail
  go_ret
  refine ⟨?_, M1.trans m2⟩
  rw [HE.out]
  refine ret_str ?_
  rw [hsr.out, hso.out, ← T_app, ← T_app, ← T_app, ← T_app, ← T_app, T_BL]
  rfl

set_option maxHeartbeats 1000000 in
theorem text_ja (i : RIns) (h : i.Fit) (w : World) (hk : sortM i.word = 106) (h32 : i.is32 = false) (hne : i.word = JA) :
    Calls Tryz.prog 20 #[.agg i.cells] w fun e w' => e = .returned (.string (T (textL i))) ∧ Mods Nil' w w' := by
  have HE : Hid (textL i = [106, 97, 32] ++ BL i.label) := by
    have hj : (BL i.word = [106, 97]) ↔ i.word = JA := ⟨fun e => (T_BL i.word).symm.trans (congrArg T e), fun e => by rw [e]; rfl⟩
    have hd : (i.word = JA) = True := eq_true hne
    simp [Hid, textL, hk, wordL, h32, hd, hj]
  obtain ⟨word, is32, d, s, jump, n, label, name⟩ := i
  obtain ⟨d0, d1, s1, s0, j0, j1, n0, n1, hw, hl, hn, hi32, hso⟩ := h
  clear hi32 hso
  unfold RIns.cells at *
  simp only at *
  subst h32
  have q1 := lit_eq hne
  have HN : Hid _ := hne
  clear hne
  go_enter Tryz.func20, Tryz.ntmps20
  go_wp2_with fail
  refine (sort_any _ _ (by unfold maxLen; omega)).mono ?_
  rintro e w1 ⟨rfl, m1⟩
  have hb1 : Blk w1 w.heap.size #[.string word, .bool false, .int .i64 d, .int .i64 s, .int .i64 jump, .int .u64 n, .string label, .string name] 57 := (Blk.new w _ _).mods m1 (fun e => e)
  have M1 : Mods Nil' w w1 := ((Mods.refl _ _).alloc _).trans m1
  clear m1
  obtain ⟨c0, c1, c2, c3, c4, c5, c6, c7⟩ := hb1.cells8
  rw [hk]
  go_wp2_with fail
  go_ret
  refine ⟨?_, M1⟩
  rw [HE.out]
  refine ret_str ?_
  rw [← T_app, T_BL]
  rfl

set_option maxHeartbeats 1000000 in
theorem text_j (i : RIns) (h : i.Fit) (w : World) (hk : sortM i.word = 106) (h32 : i.is32 = false) (hne : i.word ≠ JA) :
    Calls Tryz.prog 20 #[.agg i.cells] w fun e w' => e = .returned (.string (T (textL i))) ∧ Mods Nil' w w' := by
  have hot := other_any i h
  have HE : Hid (textL i = BL i.word ++ [32] ++ regL i.d.toNat ++ [44, 32] ++ othL i.s i.n ++ [44, 32] ++ BL i.label) := by
    have hj : (BL i.word = [106, 97]) ↔ i.word = JA := ⟨fun e => (T_BL i.word).symm.trans (congrArg T e), fun e => by rw [e]; rfl⟩
    simp [Hid, textL, hk, wordL, h32, hne, hj]
  obtain ⟨word, is32, d, s, jump, n, label, name⟩ := i
  obtain ⟨d0, d1, s1, s0, j0, j1, n0, n1, hw, hl, hn, hi32, hso⟩ := h
  clear hi32 hso
  unfold RIns.cells at *
  simp only at *
  subst h32
  obtain ⟨sr, hsr, hsrl⟩ := open_text (reg_len d.toNat)
  have hrg := reg_any d d0 (by omega)
  rw [← hsr.out] at hrg
  obtain ⟨so, hso, hsol⟩ := open_text (oth_len s n)
  rw [← hso.out] at hot
  have q1 := lit_ne hne
  have HN : Hid _ := hne
  clear hne
  go_enter Tryz.func20, Tryz.ntmps20
  go_wp2_with fail
  refine (sort_any _ _ (by unfold maxLen; omega)).mono ?_
  rintro e w1 ⟨rfl, m1⟩
  have hb1 : Blk w1 w.heap.size #[.string word, .bool false, .int .i64 d, .int .i64 s, .int .i64 jump, .int .u64 n, .string label, .string name] 57 := (Blk.new w _ _).mods m1 (fun e => e)
  have M1 : Mods Nil' w w1 := ((Mods.refl _ _).alloc _).trans m1
  clear m1
  obtain ⟨c0, c1, c2, c3, c4, c5, c6, c7⟩ := hb1.cells8
  obtain ⟨g0, g1, g2, g3, g4, g5, g6, g7⟩ := Ext.cells8 (S := Nil') hb1 (fun e => e)
  rw [hk]
  go_wp2_with fail
  have ne1 := Ext.ne Nil' w1
  refine wp_region_ext Nil' (by kernel_rfl) (by kernel_rfl) ?_
  repeat (go_big_quiet_step (first | (go_at_call 37; exact Calls.ext_of (hrg _)) | (go_at_call 38; exact Calls.ext_of (hot _))))
  refine wpQuiet_nil ?_
  rintro _ ⟨⟨w2, m2⟩, rfl⟩
  go_wp2_with fail
  go_ret
  refine ⟨?_, M1.trans m2⟩
  rw [HE.out]
  refine ret_str ?_
  rw [hsr.out, hso.out, ← T_app, ← T_app, ← T_app, ← T_app, ← T_app, ← T_app, T_BL, T_BL]
  rfl

set_option maxHeartbeats 1000000 in
theorem text_l (i : RIns) (h : i.Fit) (w : World) (hk : sortM i.word = 108) (h32 : i.is32 = false) (hne : 0 ≤ i.s) :
    Calls Tryz.prog 20 #[.agg i.cells] w fun e w' => e = .returned (.string (T (textL i))) ∧ Mods Nil' w w' := by
  have HE : Hid (textL i = BL i.word ++ [32] ++ regL i.d.toNat ++ [44, 32] ++ brL i.s.toNat i.jump) := by
    simp [Hid, textL, hk, wordL, h32]
  obtain ⟨word, is32, d, s, jump, n, label, name⟩ := i
  obtain ⟨d0, d1, s1, s0, j0, j1, n0, n1, hw, hl, hn, hi32, hso⟩ := h
  clear hi32 hso
  unfold RIns.cells at *
  simp only at *
  subst h32
  obtain ⟨sr, hsr, hsrl⟩ := open_text (reg_len d.toNat)
  have hrg := reg_any d d0 (by omega)
  rw [← hsr.out] at hrg
  obtain ⟨so, hso, hsol⟩ := open_text (br_len s.toNat jump)
  have hot := brackets_any s jump hne (by omega) j0 j1
  rw [← hso.out] at hot
  go_enter Tryz.func20, Tryz.ntmps20
  go_wp2_with fail
  refine (sort_any _ _ (by unfold maxLen; omega)).mono ?_
  rintro e w1 ⟨rfl, m1⟩
  have hb1 : Blk w1 w.heap.size #[.string word, .bool false, .int .i64 d, .int .i64 s, .int .i64 jump, .int .u64 n, .string label, .string name] 57 := (Blk.new w _ _).mods m1 (fun e => e)
  have M1 : Mods Nil' w w1 := ((Mods.refl _ _).alloc _).trans m1
  clear m1
  obtain ⟨c0, c1, c2, c3, c4, c5, c6, c7⟩ := hb1.cells8
  obtain ⟨g0, g1, g2, g3, g4, g5, g6, g7⟩ := Ext.cells8 (S := Nil') hb1 (fun e => e)
  rw [hk]
  go_wp2_with fail
  have ne1 := Ext.ne Nil' w1
  refine wp_region_ext Nil' (by kernel_rfl) (by kernel_rfl) ?_
  repeat (go_big_quiet_step (first | (go_at_call 37; exact Calls.ext_of (hrg _)) | (go_at_call 39; exact Calls.ext_of (hot _))))
  refine wpQuiet_nil ?_
  rintro _ ⟨⟨w2, m2⟩, rfl⟩
  go_wp2_with fail
  go_ret
  refine ⟨?_, M1.trans m2⟩
  rw [HE.out]
  refine ret_str ?_
  rw [hsr.out, hso.out, ← T_app, ← T_app, ← T_app, ← T_app, T_BL]
  rfl

set_option maxHeartbeats 1000000 in
theorem text_s (i : RIns) (h : i.Fit) (w : World) (hk : sortM i.word = 115) (h32 : i.is32 = false) :
    Calls Tryz.prog 20 #[.agg i.cells] w fun e w' => e = .returned (.string (T (textL i))) ∧ Mods Nil' w w' := by
  have hot := other_any i h
  have HE : Hid (textL i = BL i.word ++ [32] ++ brL i.d.toNat i.jump ++ [44, 32] ++ othL i.s i.n) := by
    simp [Hid, textL, hk, wordL, h32]
  obtain ⟨word, is32, d, s, jump, n, label, name⟩ := i
  obtain ⟨d0, d1, s1, s0, j0, j1, n0, n1, hw, hl, hn, hi32, hso⟩ := h
  clear hi32 hso
  unfold RIns.cells at *
  simp only at *
  subst h32
  obtain ⟨so, hso, hsol⟩ := open_text (oth_len s n)
  rw [← hso.out] at hot
  obtain ⟨sr, hsr, hsrl⟩ := open_text (br_len d.toNat jump)
  have hrg := brackets_any d jump d0 (by omega) j0 j1
  rw [← hsr.out] at hrg
  go_enter Tryz.func20, Tryz.ntmps20
  go_wp2_with fail
  refine (sort_any _ _ (by unfold maxLen; omega)).mono ?_
  rintro e w1 ⟨rfl, m1⟩
  have hb1 : Blk w1 w.heap.size #[.string word, .bool false, .int .i64 d, .int .i64 s, .int .i64 jump, .int .u64 n, .string label, .string name] 57 := (Blk.new w _ _).mods m1 (fun e => e)
  have M1 : Mods Nil' w w1 := ((Mods.refl _ _).alloc _).trans m1
  clear m1
  obtain ⟨c0, c1, c2, c3, c4, c5, c6, c7⟩ := hb1.cells8
  obtain ⟨g0, g1, g2, g3, g4, g5, g6, g7⟩ := Ext.cells8 (S := Nil') hb1 (fun e => e)
  rw [hk]
  go_wp2_with fail
  have ne1 := Ext.ne Nil' w1
  refine wp_region_ext Nil' (by kernel_rfl) (by kernel_rfl) ?_
  repeat (go_big_quiet_step (first | (go_at_call 39; exact Calls.ext_of (hrg _)) | (go_at_call 38; exact Calls.ext_of (hot _))))
  refine wpQuiet_nil ?_
  rintro _ ⟨⟨w2, m2⟩, rfl⟩
  go_wp2_with fail
  go_ret
  refine ⟨?_, M1.trans m2⟩
  rw [HE.out]
  refine ret_str ?_
  rw [hsr.out, hso.out, ← T_app, ← T_app, ← T_app, ← T_app, T_BL]
  rfl

set_option maxHeartbeats 1000000 in
theorem text_w1 (i : RIns) (h : i.Fit) (w : World) (hk : sortM i.word = 119) (h32 : i.is32 = false) (hne : i.name ≠ E0) :
    Calls Tryz.prog 20 #[.agg i.cells] w fun e w' => e = .returned (.string (T (textL i))) ∧ Mods Nil' w w' := by
  have HE : Hid (textL i = [119, 105, 100, 101, 32] ++ regL i.d.toNat ++ [44, 32, 109, 97, 112, 32] ++ BL i.name) := by
    simp [Hid, textL, hk, hne]
  obtain ⟨word, is32, d, s, jump, n, label, name⟩ := i
  obtain ⟨d0, d1, s1, s0, j0, j1, n0, n1, hw, hl, hn, hi32, hso⟩ := h
  clear hi32 hso
  unfold RIns.cells at *
  simp only at *
  subst h32
  obtain ⟨sr, hsr, hsrl⟩ := open_text (reg_len d.toNat)
  have hrg := reg_any d d0 (by omega)
  rw [← hsr.out] at hrg
  have q1 : (name.toList == []) = false := lit_ne (l := []) hne
  have HN : Hid _ := hne
  clear hne
  go_enter Tryz.func20, Tryz.ntmps20
  go_wp2_with fail
  refine (sort_any _ _ (by unfold maxLen; omega)).mono ?_
  rintro e w1 ⟨rfl, m1⟩
  have hb1 : Blk w1 w.heap.size #[.string word, .bool false, .int .i64 d, .int .i64 s, .int .i64 jump, .int .u64 n, .string label, .string name] 57 := (Blk.new w _ _).mods m1 (fun e => e)
  have M1 : Mods Nil' w w1 := ((Mods.refl _ _).alloc _).trans m1
  clear m1
  obtain ⟨c0, c1, c2, c3, c4, c5, c6, c7⟩ := hb1.cells8
  obtain ⟨g0, g1, g2, g3, g4, g5, g6, g7⟩ := Ext.cells8 (S := Nil') hb1 (fun e => e)
  rw [hk]
  go_wp2_with fail
  have ne1 := Ext.ne Nil' w1
  refine wp_region_ext Nil' (by kernel_rfl) (by kernel_rfl) ?_
  repeat (go_big_quiet_step (first | (go_at_call 37; exact Calls.ext_of (hrg _))))
  refine wpQuiet_nil ?_
  rintro _ ⟨⟨w2, m2⟩, rfl⟩
  go_wp2_with fail
  go_ret
  refine ⟨?_, M1.trans m2⟩
  rw [HE.out]
  refine ret_str ?_
  rw [hsr.out, ← T_app, ← T_app, ← T_app, T_BL]
  rfl

set_option maxHeartbeats 1000000 in
theorem text_w0 (i : RIns) (h : i.Fit) (w : World) (hk : sortM i.word = 119) (h32 : i.is32 = false) (hne : i.name = E0) :
    Calls Tryz.prog 20 #[.agg i.cells] w fun e w' => e = .returned (.string (T (textL i))) ∧ Mods Nil' w w' := by
  have HE : Hid (textL i = [119, 105, 100, 101, 32] ++ regL i.d.toNat ++ [44, 32] ++ decM i.n.toNat) := by
    simp [Hid, textL, hk, hne]
  obtain ⟨word, is32, d, s, jump, n, label, name⟩ := i
  obtain ⟨d0, d1, s1, s0, j0, j1, n0, n1, hw, hl, hn, hi32, hso⟩ := h
  clear hi32 hso
  unfold RIns.cells at *
  simp only at *
  subst h32
  obtain ⟨sr, hsr, hsrl⟩ := open_text (reg_len d.toNat)
  have hrg := reg_any d d0 (by omega)
  rw [← hsr.out] at hrg
  obtain ⟨so, hso, hsol⟩ := open_text (decM_len n.toNat)
  have hot := decimal_int n n0 n1
  rw [← hso.out] at hot
  have q1 : (name.toList == []) = true := lit_eq (l := []) hne
  have HN : Hid _ := hne
  clear hne
  go_enter Tryz.func20, Tryz.ntmps20
  go_wp2_with fail
  refine (sort_any _ _ (by unfold maxLen; omega)).mono ?_
  rintro e w1 ⟨rfl, m1⟩
  have hb1 : Blk w1 w.heap.size #[.string word, .bool false, .int .i64 d, .int .i64 s, .int .i64 jump, .int .u64 n, .string label, .string name] 57 := (Blk.new w _ _).mods m1 (fun e => e)
  have M1 : Mods Nil' w w1 := ((Mods.refl _ _).alloc _).trans m1
  clear m1
  obtain ⟨c0, c1, c2, c3, c4, c5, c6, c7⟩ := hb1.cells8
  obtain ⟨g0, g1, g2, g3, g4, g5, g6, g7⟩ := Ext.cells8 (S := Nil') hb1 (fun e => e)
  rw [hk]
  go_wp2_with fail
  have ne1 := Ext.ne Nil' w1
  refine wp_region_ext Nil' (by kernel_rfl) (by kernel_rfl) ?_
  repeat (go_big_quiet_step (first | (go_at_call 37; exact Calls.ext_of (hrg _)) | (go_at_call 16; exact Calls.ext_of (hot _))))
  refine wpQuiet_nil ?_
  rintro _ ⟨⟨w2, m2⟩, rfl⟩
  go_wp2_with fail
  go_ret
  refine ⟨?_, M1.trans m2⟩
  rw [HE.out]
  refine ret_str ?_
  rw [hsr.out, hso.out, ← T_app, ← T_app, ← T_app]
  rfl

set_option maxHeartbeats 1000000 in
theorem text_h (i : RIns) (h : i.Fit) (w : World) (hk : sortM i.word = 104) (h32 : i.is32 = false) :
    Calls Tryz.prog 20 #[.agg i.cells] w fun e w' => e = .returned (.string (T (textL i))) ∧ Mods Nil' w w' := by
  have HE : Hid (textL i = [104, 101, 108, 112, 32] ++ BL i.label) := by
    simp [Hid, textL, hk]
  obtain ⟨word, is32, d, s, jump, n, label, name⟩ := i
  obtain ⟨d0, d1, s1, s0, j0, j1, n0, n1, hw, hl, hn, hi32, hso⟩ := h
  clear hi32 hso
  unfold RIns.cells at *
  simp only at *
  subst h32
  go_enter Tryz.func20, Tryz.ntmps20
  go_wp2_with fail
  refine (sort_any _ _ (by unfold maxLen; omega)).mono ?_
  rintro e w1 ⟨rfl, m1⟩
  have hb1 : Blk w1 w.heap.size #[.string word, .bool false, .int .i64 d, .int .i64 s, .int .i64 jump, .int .u64 n, .string label, .string name] 57 := (Blk.new w _ _).mods m1 (fun e => e)
  have M1 : Mods Nil' w w1 := ((Mods.refl _ _).alloc _).trans m1
  clear m1
  obtain ⟨c0, c1, c2, c3, c4, c5, c6, c7⟩ := hb1.cells8
  rw [hk]
  go_wp2_with fail
  go_ret
  refine ⟨?_, M1⟩
  rw [HE.out]
  refine ret_str ?_
  rw [← T_app, T_BL]
  rfl

set_option maxHeartbeats 1000000 in
theorem text_c (i : RIns) (h : i.Fit) (w : World) (hk : sortM i.word = 99) (h32 : i.is32 = false) :
    Calls Tryz.prog 20 #[.agg i.cells] w fun e w' => e = .returned (.string (T (textL i))) ∧ Mods Nil' w w' := by
  have HE : Hid (textL i = [99, 97, 108, 108, 32] ++ BL i.name) := by
    simp [Hid, textL, hk]
  obtain ⟨word, is32, d, s, jump, n, label, name⟩ := i
  obtain ⟨d0, d1, s1, s0, j0, j1, n0, n1, hw, hl, hn, hi32, hso⟩ := h
  clear hi32 hso
  unfold RIns.cells at *
  simp only at *
  subst h32
  go_enter Tryz.func20, Tryz.ntmps20
  go_wp2_with fail
  refine (sort_any _ _ (by unfold maxLen; omega)).mono ?_
  rintro e w1 ⟨rfl, m1⟩
  have hb1 : Blk w1 w.heap.size #[.string word, .bool false, .int .i64 d, .int .i64 s, .int .i64 jump, .int .u64 n, .string label, .string name] 57 := (Blk.new w _ _).mods m1 (fun e => e)
  have M1 : Mods Nil' w w1 := ((Mods.refl _ _).alloc _).trans m1
  clear m1
  obtain ⟨c0, c1, c2, c3, c4, c5, c6, c7⟩ := hb1.cells8
  rw [hk]
  go_wp2_with fail
  go_ret
  refine ⟨?_, M1⟩
  rw [HE.out]
  refine ret_str ?_
  rw [← T_app, T_BL]
  rfl

set_option maxHeartbeats 1000000 in
theorem text_e (i : RIns) (h : i.Fit) (w : World) (hk : sortM i.word = 101) (h32 : i.is32 = false) :
    Calls Tryz.prog 20 #[.agg i.cells] w fun e w' => e = .returned (.string (T (textL i))) ∧ Mods Nil' w w' := by
  have HE : Hid (textL i = [101, 120, 105, 116]) := by
    simp [Hid, textL, hk]
  obtain ⟨word, is32, d, s, jump, n, label, name⟩ := i
  obtain ⟨d0, d1, s1, s0, j0, j1, n0, n1, hw, hl, hn, hi32, hso⟩ := h
  clear hi32 hso
  unfold RIns.cells at *
  simp only at *
  subst h32
  go_enter Tryz.func20, Tryz.ntmps20
  go_wp2_with fail
  refine (sort_any _ _ (by unfold maxLen; omega)).mono ?_
  rintro e w1 ⟨rfl, m1⟩
  have hb1 : Blk w1 w.heap.size #[.string word, .bool false, .int .i64 d, .int .i64 s, .int .i64 jump, .int .u64 n, .string label, .string name] 57 := (Blk.new w _ _).mods m1 (fun e => e)
  have M1 : Mods Nil' w w1 := ((Mods.refl _ _).alloc _).trans m1
  clear m1
  obtain ⟨c0, c1, c2, c3, c4, c5, c6, c7⟩ := hb1.cells8
  rw [hk]
  go_wp2_with fail
  go_ret
  refine ⟨?_, M1⟩
  rw [HE.out]
  refine ret_str ?_
  rfl

theorem text_any (i : RIns) (h : i.Fit) (w : World) :
    Calls Tryz.prog 20 #[.agg i.cells] w fun e w' => e = .returned (.string (T (textL i))) ∧ Mods Nil' w w' := by
  rcases h.sort with hk | hk | ⟨hk, hs⟩ | hk | hk | hk | hk | hk
  · by_cases hn : i.word = NEG
    · cases h32 : i.is32 with
      | false => exact text_rn i h w hk h32 hn
      | true => exact text_rn32 i h w hk h32 hn
    · cases h32 : i.is32 with
      | false => exact text_r i h w hk h32 hn
      | true => exact text_r32 i h w hk h32 hn
  all_goals
    have h32 : i.is32 = false := by
      cases h0 : i.is32 with
      | false => rfl
      | true => exact absurd (h.is32 h0) (by rw [hk]; decide)
  · by_cases hn : i.word = JA
    · exact text_ja i h w hk h32 hn
    · exact text_j i h w hk h32 hn
  · exact text_l i h w hk h32 hs
  · exact text_s i h w hk h32
  · by_cases hn : i.name = E0
    · exact text_w0 i h w hk h32 hn
    · exact text_w1 i h w hk h32 hn
  · exact text_h i h w hk h32
  · exact text_c i h w hk h32
  · exact text_e i h w hk h32
end Go.Proofs.YtnankepcmaoijaaGreatDoor
