/- Contract: an instruction out of bytes, in the document's answer. -/
import Derived.Test.YtnankepcmaoijaaGreatDoorC10
import Derived.Test.YtnankepcmaoijaaGreatDoorC12
import Derived.Test.YtnankepcmaoijaaGreatDoorC13
import Derived.Test.YtnankepcmaoijaaGreatDoorC11
import Derived.Test.YtnankepcmaoijaaGreatDoorC05
import Derived.Test.YtnankepcmaoijaaGreatDoorC04
namespace Go.Proofs.YtnankepcmaoijaaGreatDoor
open Go.RowKit

theorem ins_any (b : Nat) (s : ByteArray) (r : RS) (w : World) (hs : s.size ≤ maxLen) (h : RdAt w b s r) :
    Calls Tryz.prog 28 #[.pointer (some ⟨b, 0, none⟩)] w fun e w' => e = .returned (insM s r).val ∧ RdAt w' b s (insM s r).r ∧ Mods (Only b) w w' := by
  cases hok : (wordM (rsl s r).1.op).2 with
  | false => exact ins_no1 b s r w hs h hok
  | true =>
  cases hb : (rsl s r).2.bad with
  | true => exact ins_no2 b s r w hs h hok hb
  | false =>
  by_cases hd : (rsl s r).1.d ≤ 10
  case neg => exact ins_no3 b s r w hs h hok hb (by omega)
  by_cases hsr : (rsl s r).1.s ≤ 10
  case neg => exact ins_no4 b s r w hs h hok hb hd (by omega)
  have hq := word_sorts (rsl s r).1.op hok
  rcases hq with hk | hk | hk | ⟨hs0, hk⟩
  · by_cases hby : (wordM (rsl s r).1.op).1.s < 0
    · exact ins_r1 b s r w hs h hok hb hd hsr hk hby
    · by_cases hw : (wordM (rsl s r).1.op).1.word = T [110, 101, 103]
      · exact ins_r2 b s r w hs h hok hb hd hsr hk hby hw
      · exact ins_r3 b s r w hs h hok hb hd hsr hk hby hw
  · by_cases hby : (wordM (rsl s r).1.op).1.s < 0
    · by_cases hw : (wordM (rsl s r).1.op).1.word = T [106, 97]
      · exact ins_j2 b s r w hs h hok hb hd hsr hk hby hw
      · exact ins_j1 b s r w hs h hok hb hd hsr hk hby hw
    · by_cases hw : (wordM (rsl s r).1.op).1.word = T [106, 97]
      · exact ins_j4 b s r w hs h hok hb hd hsr hk hby hw
      · exact ins_j3 b s r w hs h hok hb hd hsr hk hby hw
  · by_cases hby : (wordM (rsl s r).1.op).1.s < 0
    · rcases hk with hk | hk
      · exact ins_l1 b s r w hs h hok hb hd hsr hk hby
      · exact ins_s1 b s r w hs h hok hb hd hsr hk hby
    · rcases hk with hk | hk
      · exact ins_l2 b s r w hs h hok hb hd hsr hk hby
      · exact ins_s2 b s r w hs h hok hb hd hsr hk hby
  · rcases hk with hk | hk | hk
    · by_cases h1 : (rsl s r).1.s = 1
      · exact ins_w1 b s r w hs h hok hb hd hsr hk hs0 h1
      · exact ins_w2 b s r w hs h hok hb hd hsr hk hs0 h1
    · by_cases hn : (rsl s r).1.s = 0 ∧ 1 ≤ (rsl s r).1.n ∧ (rsl s r).1.n ≤ 4 ∧ (rsl s r).1.d = 0 ∧ (rsl s r).1.jump = 0
      · obtain ⟨a1, a2, a3, a4, a5⟩ := hn
        exact ins_h b s r w hs h hok hb hd hsr hk hs0 ((rsl s r).1.n.toNat - 1) (by unfold Hid; omega) ⟨a1, by omega, a4, a5⟩
      · exact ins_c b s r w hs h hok hb hd hsr hk hs0 hn
    · exact ins_e b s r w hs h hok hb hd hsr hk hs0
end Go.Proofs.YtnankepcmaoijaaGreatDoor

/- Contracts: numbers, registers and brackets as texts, in the document's answer. -/
namespace Go.Proofs.YtnankepcmaoijaaGreatDoor
open Go.RowKit

def sgnL (n : Nat) : List UInt8 := if 9223372036854775808 ≤ n then 45 :: decM (18446744073709551616 - n) else decM n
def regL (n : Nat) : List UInt8 := 114 :: decM n
def jmpL (j : Int) : List UInt8 := if 0 < j then 43 :: decM j.toNat else if j < 0 then 45 :: decM (-j).toNat else []
def brL (r : Nat) (j : Int) : List UInt8 := 91 :: regL r ++ jmpL j ++ [93]
def othL (s n : Int) : List UInt8 := if s < 0 then sgnL n.toNat else regL s.toNat

theorem sgn_len (n : Nat) : (sgnL n).length ≤ 21 := by
  unfold sgnL; split
  · have := decM_len (18446744073709551616 - n); simp; omega
  · have := decM_len n; omega
theorem reg_len (n : Nat) : (regL n).length ≤ 21 := by
  unfold regL; have := decM_len n; simp; omega
theorem jmp_len (j : Int) : (jmpL j).length ≤ 21 := by
  unfold jmpL; split
  · have := decM_len j.toNat; simp; omega
  · split
    · have := decM_len (-j).toNat; simp; omega
    · simp
theorem oth_len (s n : Int) : (othL s n).length ≤ 21 := by
  unfold othL; split
  · exact sgn_len _
  · exact reg_len _
theorem br_len (r : Nat) (j : Int) : (brL r j).length ≤ 44 := by
  unfold brL; have := reg_len r; have := jmp_len j; simp; omega

theorem decimal_int (x : Int) (h0 : 0 ≤ x) (h1 : x < 18446744073709551616) (w : World) :
    Calls Tryz.prog 16 #[.int .u64 x] w fun e w' => e = .returned (.string (T (decM x.toNat))) ∧ Mods Nil' w w' := by
  obtain ⟨n, rfl⟩ : ∃ n : Nat, x = n := ⟨x.toNat, by omega⟩
  simpa using decimal_any n (by omega) w

/-- The text that a callee's contract names, under a name of its own. -/
theorem open_text {l : List UInt8} {k : Nat} (h : l.length ≤ k) : ∃ s : ByteArray, Hid (s = T l) ∧ s.size ≤ k := ⟨T l, rfl, by rw [T_size]; exact h⟩
theorem ret_str {a b : ByteArray} (h : a = b) : Ending.returned (.string a) = .returned (.string b) := by rw [h]
theorem lit_T (l : List UInt8) : (⟨l.toArray⟩ : ByteArray) = T l := rfl

theorem wrap_minus (n : Nat) (h : 9223372036854775808 ≤ n) (hn : n < 18446744073709551616) : IntKind.u64.wrap (-(n : Int)) = ((18446744073709551616 - n : Nat) : Int) := by
  simp only [IntKind.wrap, IntKind.bits, IntKind.signed, Bool.false_and, Bool.false_eq_true, if_false]; omega

set_option maxHeartbeats 1000000 in
theorem signed_any (n : Nat) (hn : n < 18446744073709551616) (w : World) :
    Calls Tryz.prog 56 #[.int .u64 n] w fun e w' => e = .returned (.string (T (sgnL n))) ∧ Mods Nil' w w' := by
  by_cases h : 9223372036854775808 ≤ n
  · have hw := wrap_minus n h hn
    obtain ⟨s, hs, hl⟩ := open_text (decM_len (IntKind.u64.wrap (-(n : Int))).toNat)
    have hx0 : 0 ≤ IntKind.u64.wrap (-(n : Int)) := by rw [hw]; omega
    have hx1 : IntKind.u64.wrap (-(n : Int)) < 18446744073709551616 := by rw [hw]; omega
    have h' : (9223372036854775808 : Int) ≤ (n : Int) := by omega
    have HE : Hid (T (sgnL n) = T [45] ++ s) := by
      rw [Hid, hs.out, T_app, sgnL, if_pos h, hw]; rfl
    clear h hw
    go_enter Tryz.func56, Tryz.ntmps56
    go_wp2_with fail
    refine (decimal_int (IntKind.u64.wrap (-(n : Int))) hx0 hx1 _).mono ?_
    rintro e w1 ⟨rfl, m1⟩
    rw [← hs.out]
    go_wp2_with fail
    go_ret
    exact ⟨by rw [HE.out]; rfl, m1⟩
  · have h' : decide ((9223372036854775808 : Int) ≤ (n : Int)) = false := decide_eq_false (by omega)
    have HE : Hid (sgnL n = decM n) := by rw [Hid, sgnL, if_neg h]
    clear h
    go_enter Tryz.func56, Tryz.ntmps56
    go_wp2_with fail
    refine (decimal_any n hn _).mono ?_
    rintro e w1 ⟨rfl, m1⟩
    go_wp2_with fail
    go_ret
    exact ⟨by rw [HE.out]; rfl, m1⟩

set_option maxHeartbeats 1000000 in
theorem reg_any (x : Int) (h0 : 0 ≤ x) (h1 : x ≤ 9223372036854775807) (w : World) :
    Calls Tryz.prog 37 #[.int .i64 x] w fun e w' => e = .returned (.string (T (regL x.toNat))) ∧ Mods Nil' w w' := by
  obtain ⟨s, hs, hl⟩ := open_text (decM_len x.toNat)
  have HE : Hid (T (regL x.toNat) = T [114] ++ s) := by rw [Hid, hs.out, T_app]; rfl
  go_enter Tryz.func37, Tryz.ntmps37
  go_wp2_with fail
  refine (decimal_int x h0 (by omega) _).mono ?_
  rintro e w1 ⟨rfl, m1⟩
  rw [← hs.out]
  go_wp2_with fail
  go_ret
  exact ⟨by rw [HE.out]; rfl, m1⟩
end Go.Proofs.YtnankepcmaoijaaGreatDoor

/- Contracts: brackets, what stands beside D, slots and ends of an instruction, in the document's answer. -/
namespace Go.Proofs.YtnankepcmaoijaaGreatDoor
open Go.RowKit

theorem signed_int (x : Int) (h0 : 0 ≤ x) (h1 : x < 18446744073709551616) (w : World) :
    Calls Tryz.prog 56 #[.int .u64 x] w fun e w' => e = .returned (.string (T (sgnL x.toNat))) ∧ Mods Nil' w w' := by
  obtain ⟨n, rfl⟩ : ∃ n : Nat, x = n := ⟨x.toNat, by omega⟩
  simpa using signed_any n (by omega) w

theorem wrap_lt (j : Int) (h : j < 0) (h' : -9223372036854775808 ≤ j) : IntKind.u64.wrap j = ((18446744073709551616 - (-j).toNat : Nat) : Int) := by
  simp only [IntKind.wrap, IntKind.bits, IntKind.signed, Bool.false_and, Bool.false_eq_true, if_false]; omega

theorem sgn_wrap (j : Int) (h : j < 0) (h' : -9223372036854775808 ≤ j) : sgnL (IntKind.u64.wrap j).toNat = jmpL j := by
  rw [wrap_lt j h h', Int.toNat_natCast, sgnL, if_pos (by omega), jmpL, if_neg (by omega), if_pos h]
  congr 2; omega

set_option maxHeartbeats 2000000 in
theorem brackets_any (r j : Int) (h0 : 0 ≤ r) (h1 : r ≤ 15) (j0 : -32768 ≤ j) (j1 : j ≤ 32767) (w : World) :
    Calls Tryz.prog 39 #[.int .i64 r, .int .i64 j] w fun e w' => e = .returned (.string (T (brL r.toNat j))) ∧ Mods Nil' w w' := by
  obtain ⟨s, hs, hl⟩ := open_text (reg_len r.toNat)
  rcases Int.lt_trichotomy j 0 with h | rfl | h
  · obtain ⟨q, hq, hql⟩ := open_text (sgn_len (IntKind.u64.wrap j).toNat)
    have HE : Hid (T (brL r.toNat j) = T [91] ++ s ++ q ++ T [93]) := by
      rw [Hid, hs.out, hq.out, T_app, T_app, T_app, sgn_wrap j h (by omega)]; rfl
    have hx0 : 0 ≤ IntKind.u64.wrap j := by rw [wrap_lt j h (by omega)]; omega
    have hx1 : IntKind.u64.wrap j < 18446744073709551616 := by rw [wrap_lt j h (by omega)]; omega
    have hj1 : ¬ 0 < j := by omega
    have hj2 : j ≠ 0 := by omega
    go_enter Tryz.func39, Tryz.ntmps39
    go_wp2_with fail
    refine (reg_any r h0 (by omega) _).mono ?_
    rintro e w1 ⟨rfl, m1⟩
    rw [← hs.out]
    go_wp2_with fail
    refine (signed_int _ hx0 hx1 _).mono ?_
    rintro e w2 ⟨rfl, m2⟩
    rw [← hq.out]
    go_wp2_with fail
    go_ret
    exact ⟨by rw [HE.out]; rfl, m1.trans m2⟩
  · have HE : Hid (T (brL r.toNat 0) = T [91] ++ s ++ T [93]) := by
      rw [Hid, hs.out, T_app, T_app]; simp [brL, jmpL]
    go_enter Tryz.func39, Tryz.ntmps39
    go_wp2_with fail
    refine (reg_any r h0 (by omega) _).mono ?_
    rintro e w1 ⟨rfl, m1⟩
    rw [← hs.out]
    go_wp2_with fail
    go_ret
    exact ⟨by rw [HE.out]; rfl, m1⟩
  · obtain ⟨q, hq, hql⟩ := open_text (sgn_len j.toNat)
    have HE : Hid (T (brL r.toNat j) = T [91] ++ s ++ T [43] ++ q ++ T [93]) := by
      rw [Hid, hs.out, hq.out, T_app, T_app, T_app, T_app, sgnL, if_neg (by omega), brL, jmpL, if_pos h]; simp
    have hj2 : j ≠ 0 := by omega
    go_enter Tryz.func39, Tryz.ntmps39
    go_wp2_with fail
    refine (reg_any r h0 (by omega) _).mono ?_
    rintro e w1 ⟨rfl, m1⟩
    rw [← hs.out]
    go_wp2_with fail
    refine (signed_int _ (by omega) (by omega) _).mono ?_
    rintro e w2 ⟨rfl, m2⟩
    rw [← hq.out]
    go_wp2_with fail
    go_ret
    exact ⟨by rw [HE.out]; rfl, m1.trans m2⟩

/-- What an instruction's numbers may be. -/
structure RIns.Fit (i : RIns) : Prop where
  d0 : 0 ≤ i.d
  d1 : i.d ≤ 15
  s1 : i.s ≤ 15
  s0 : -1 ≤ i.s
  j0 : -32768 ≤ i.jump
  j1 : i.jump ≤ 32767
  n0 : 0 ≤ i.n
  n1 : i.n < 18446744073709551616
  word : i.word.size ≤ 100
  label : i.label.size ≤ 100
  name : i.name.size ≤ 300
  is32 : i.is32 = true → sortM i.word = 114
  sort : sortM i.word = 114 ∨ sortM i.word = 106 ∨ (sortM i.word = 108 ∧ 0 ≤ i.s) ∨ sortM i.word = 115 ∨ sortM i.word = 119 ∨ sortM i.word = 104 ∨ sortM i.word = 99 ∨ sortM i.word = 101

set_option maxHeartbeats 2000000 in
theorem other_any (i : RIns) (h : i.Fit) (w : World) :
    Calls Tryz.prog 38 #[.agg i.cells] w fun e w' => e = .returned (.string (T (othL i.s i.n))) ∧ Mods Nil' w w' := by
  obtain ⟨word, is32, d, s, jump, n, label, name⟩ := i
  obtain ⟨d0, d1, s1, s0, j0, j1, n0, n1, hw, hl, hn, hi32, hsrt⟩ := h
  clear hi32 hsrt
  simp only at *
  by_cases hs : s < 0
  · have HE : Hid (othL s n = sgnL n.toNat) := by rw [Hid, othL, if_pos hs]
    unfold RIns.cells
    go_enter Tryz.func38, Tryz.ntmps38
    go_wp2_with fail
    refine (signed_int _ n0 n1 _).mono ?_
    rintro e w1 ⟨rfl, m1⟩
    go_wp2_with fail
    go_ret
    exact ⟨by rw [HE.out]; rfl, ((Mods.refl _ _).alloc _).trans m1⟩
  · have HE : Hid (othL s n = regL s.toNat) := by rw [Hid, othL, if_neg hs]
    unfold RIns.cells
    go_enter Tryz.func38, Tryz.ntmps38
    go_wp2_with fail
    refine (reg_any _ (by omega) (by omega) _).mono ?_
    rintro e w1 ⟨rfl, m1⟩
    go_wp2_with fail
    go_ret
    exact ⟨by rw [HE.out]; rfl, ((Mods.refl _ _).alloc _).trans m1⟩

def WIDE : ByteArray := T [119, 105, 100, 101]
def CALL : ByteArray := T [99, 97, 108, 108]
def EXIT : ByteArray := T [101, 120, 105, 116]
def slotsI (word : ByteArray) : Nat := if word = WIDE then 2 else 1
def endsI (word : ByteArray) : Bool := decide (word = EXIT) || decide (word = JA)

theorem slots_any (i : RIns) (w : World) :
    Calls Tryz.prog 29 #[.agg i.cells] w fun e w' => e = .returned (.int .i64 (slotsI i.word)) ∧ Mods Nil' w w' := by
  obtain ⟨word, is32, d, s, jump, n, label, name⟩ := i
  simp only
  by_cases h : word = WIDE
  · have q := lit_eq h
    have HE : Hid (slotsI word = 2) := by rw [Hid, slotsI, if_pos h]
    clear h
    unfold RIns.cells
    go_enter Tryz.func29, Tryz.ntmps29
    go_wp2
    go_ret
    exact ⟨by rw [HE.out]; rfl, ((Mods.refl _ _).alloc _)⟩
  · have q := lit_ne h
    have HE : Hid (slotsI word = 1) := by rw [Hid, slotsI, if_neg h]
    clear h
    unfold RIns.cells
    go_enter Tryz.func29, Tryz.ntmps29
    go_wp2
    go_ret
    exact ⟨by rw [HE.out]; rfl, ((Mods.refl _ _).alloc _)⟩

theorem ends_any (i : RIns) (w : World) :
    Calls Tryz.prog 30 #[.agg i.cells] w fun e w' => e = .returned (.bool (endsI i.word)) ∧ Mods Nil' w w' := by
  obtain ⟨word, is32, d, s, jump, n, label, name⟩ := i
  simp only
  by_cases h : word = EXIT
  · have q := lit_eq h
    have HE : Hid (endsI word = true) := by rw [Hid, endsI, decide_eq_true h]; rfl
    clear h
    unfold RIns.cells
    go_enter Tryz.func30, Tryz.ntmps30
    go_wp2
    go_ret
    exact ⟨by rw [HE.out]; rfl, ((Mods.refl _ _).alloc _)⟩
  · have q := lit_ne h
    by_cases h2 : word = JA
    · have q2 := lit_eq h2
      have HE : Hid (endsI word = true) := by rw [Hid, endsI, decide_eq_true h2, Bool.or_true]
      clear h h2
      unfold RIns.cells
      go_enter Tryz.func30, Tryz.ntmps30
      go_wp2
      go_ret
      exact ⟨by rw [HE.out]; rfl, ((Mods.refl _ _).alloc _)⟩
    · have q2 := lit_ne h2
      have HE : Hid (endsI word = false) := by rw [Hid, endsI, decide_eq_false h, decide_eq_false h2]; rfl
      clear h h2
      unfold RIns.cells
      go_enter Tryz.func30, Tryz.ntmps30
      go_wp2
      go_ret
      exact ⟨by rw [HE.out]; rfl, ((Mods.refl _ _).alloc _)⟩
end Go.Proofs.YtnankepcmaoijaaGreatDoor
