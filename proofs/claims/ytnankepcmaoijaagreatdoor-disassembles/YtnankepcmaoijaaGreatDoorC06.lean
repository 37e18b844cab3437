/- Contracts: what the parts of an instruction's text write, and what they need. -/
import Derived.Test.YtnankepcmaoijaaGreatDoorC04
import Derived.Test.YtnankepcmaoijaaGreatDoorC01
import Derived.Lib.AppendIntMem
import Derived.Lib.ItoaLen
namespace Go.Proofs.YtnankepcmaoijaaGreatDoor
open Go.RowKit

/-- The library's table of powers of ten stands. -/
def Env (w : World) : Prop := Lib.TabIs Tryz.prog w "internal/strconv.uint64pow10" .u64 Lib.pow10Tab
theorem Mods.below {w w' : World} (m : Mods Nil' w w') : Below w.heap.size w w' := ⟨m.os, m.tape, m.output, m.size, fun k hk => m.block k hk id⟩
theorem Mods.of_below {w w' : World} (m : Below w.heap.size w w') : Mods Nil' w w' := ⟨m.os, m.tape, m.output, m.size, fun k hk _ => m.block k hk⟩
theorem Env.mods {w w' : World} (h : Env w) (m : Mods Nil' w w') : Env w' := Lib.tabBelow_of_tabIs h w' m.below
theorem Mods.grow (w : World) (k : Nat) (os : Array Obj) : Mods Nil' w (Sort.grow (w.drewN k) os) :=
  ⟨rfl, rfl, rfl, by simp [World.drewN], fun i hi _ => Sort.heap_grow_old (w.drewN k) os (by simpa [World.drewN] using hi)⟩

theorem itoa_any (n : Int) (h0 : -9223372036854775808 ≤ n) (h1 : n ≤ 9223372036854775807) (w : World) (hE : Env w) :
    Calls Tryz.prog 48 #[.int .i64 n] w fun e w' => e = .returned (.string (T (Lib.itoa n))) ∧ Mods Nil' w w' :=
  (Any.strconv_Itoa Tryz.li n h0 h1 w hE).mono fun _ _ ⟨he, k, os, hw⟩ => ⟨he, hw ▸ Mods.grow w k os⟩

theorem itoa_len (n : Int) (h0 : -9223372036854775808 ≤ n) (h1 : n ≤ 9223372036854775807) : (Lib.itoa n).length ≤ 21 := Lib.itoa_length_le n h0 h1

set_option maxHeartbeats 400000 in
theorem regtext_any (n : Nat) (hn : n ≤ 255) (w : World) (hE : Env w) :
    Calls Tryz.prog 109 #[.int .u8 n] w fun e w' => e = .returned (.string (T (regP n))) ∧ Mods Nil' w w' := by
  have hl := itoa_len (n : Int) (by omega) (by omega)
  rw [← T_size] at hl
  have HE : Hid (T (regP n) = T [114] ++ T (Lib.itoa (n : Int))) := by rw [Hid, regP]; exact T_app [114] _
  go_enter Tryz.func109, Tryz.ntmps109
  go_wp2_with fail
  refine (itoa_any (n : Int) (by omega) (by omega) _ hE).mono ?_
  rintro e w1 ⟨rfl, m1⟩
  generalize T (Lib.itoa (n : Int)) = sd at *
  go_wp2_with fail
  go_ret
  exact ⟨by rw [HE.out]; rfl, m1⟩

set_option maxHeartbeats 400000 in
theorem srcW_any (x : PIns) (hx : x.Fit) (w : World) (hE : Env w) :
    Calls Tryz.prog 108 #[.agg x.cells] w fun e w' => e = .returned (.string (T (PK.source.write x))) ∧ Mods Nil' w w' := by
  obtain ⟨op, d, s, jump, num, high, label, name⟩ := x
  have hs := hx.s
  clear hx
  unfold PIns.cells at *
  simp only at *
  go_enter Tryz.func108, Tryz.ntmps108
  go_wp2_with fail
  refine (regtext_any s (by omega) _ (hE.mods ((Mods.refl _ _).alloc _))).mono ?_
  rintro e w1 ⟨rfl, m1⟩
  go_wp2_with fail
  go_ret
  exact ⟨rfl, ((Mods.refl _ _).alloc _).trans m1⟩

set_option maxHeartbeats 400000 in
theorem srcR_any (x : PIns) (hx : x.Fit) (w : World) :
    Calls Tryz.prog 110 #[.agg x.cells] w fun e w' => e = .returned (.bool (PK.source.right x)) ∧ Mods Nil' w w' := by
  obtain ⟨op, d, s, jump, num, high, label, name⟩ := x
  have hs := hx.s
  clear hx
  unfold PIns.cells at *
  simp only [PK.right] at *
  go_enter Tryz.func110, Tryz.ntmps110
  go_wp2_with fail
  go_ret
  exact ⟨by simp; omega, (Mods.refl _ _).alloc _⟩

set_option maxHeartbeats 400000 in
theorem opdW_any (x : PIns) (hx : x.Fit) (w : World) (hE : Env w) :
    Calls Tryz.prog 144 #[.agg x.cells] w fun e w' => e = .returned (.string (T (PK.operand.write x))) ∧ Mods Nil' w w' := by
  obtain ⟨op, d, s, jump, num, high, label, name⟩ := x
  have hs := hx.d
  clear hx
  unfold PIns.cells at *
  simp only at *
  go_enter Tryz.func144, Tryz.ntmps144
  go_wp2_with fail
  refine (regtext_any d (by omega) _ (hE.mods ((Mods.refl _ _).alloc _))).mono ?_
  rintro e w1 ⟨rfl, m1⟩
  go_wp2_with fail
  go_ret
  exact ⟨rfl, ((Mods.refl _ _).alloc _).trans m1⟩

set_option maxHeartbeats 400000 in
theorem opdR_any (x : PIns) (hx : x.Fit) (w : World) :
    Calls Tryz.prog 145 #[.agg x.cells] w fun e w' => e = .returned (.bool (PK.operand.right x)) ∧ Mods Nil' w w' := by
  obtain ⟨op, d, s, jump, num, high, label, name⟩ := x
  have hs := hx.d
  clear hx
  unfold PIns.cells at *
  simp only [PK.right] at *
  go_enter Tryz.func145, Tryz.ntmps145
  go_wp2_with fail
  go_ret
  exact ⟨by simp; omega, (Mods.refl _ _).alloc _⟩

set_option maxHeartbeats 400000 in
theorem resR_any (x : PIns) (hx : x.Fit) (w : World) :
    Calls Tryz.prog 104 #[.agg x.cells] w fun e w' => e = .returned (.bool (PK.result.right x)) ∧ Mods Nil' w w' := by
  obtain ⟨op, d, s, jump, num, high, label, name⟩ := x
  have hs := hx.d
  clear hx
  unfold PIns.cells at *
  simp only [PK.right] at *
  go_enter Tryz.func104, Tryz.ntmps104
  go_wp2_with fail
  go_ret
  exact ⟨by simp; omega, (Mods.refl _ _).alloc _⟩

set_option maxHeartbeats 400000 in
theorem numW_any (x : PIns) (hx : x.Fit) (w : World) (hE : Env w) :
    Calls Tryz.prog 114 #[.agg x.cells] w fun e w' => e = .returned (.string (T (PK.number.write x))) ∧ Mods Nil' w w' := by
  obtain ⟨op, d, s, jump, num, high, label, name⟩ := x
  have h0 := hx.n0
  have h1 := hx.n1
  clear hx
  unfold PIns.cells at *
  simp only at *
  go_enter Tryz.func114, Tryz.ntmps114
  go_wp2_with fail
  refine (itoa_any num (by omega) (by omega) _ (hE.mods ((Mods.refl _ _).alloc _))).mono ?_
  rintro e w1 ⟨rfl, m1⟩
  go_wp2_with fail
  go_ret
  exact ⟨rfl, ((Mods.refl _ _).alloc _).trans m1⟩

set_option maxHeartbeats 400000 in
theorem labW_any (x : PIns) (w : World) :
    Calls Tryz.prog 148 #[.agg x.cells] w fun e w' => e = .returned (.string (T (PK.label.write x))) ∧ Mods Nil' w w' := by
  obtain ⟨op, d, s, jump, num, high, label, name⟩ := x
  unfold PIns.cells at *
  simp only at *
  go_enter Tryz.func148, Tryz.ntmps148
  go_wp2_with fail
  go_ret
  exact ⟨rfl, (Mods.refl _ _).alloc _⟩

set_option maxHeartbeats 400000 in
theorem always_any (x : PIns) (w : World) :
    Calls Tryz.prog 115 #[.agg x.cells] w fun e w' => e = .returned (.bool true) ∧ Mods Nil' w w' := by
  obtain ⟨op, d, s, jump, num, high, label, name⟩ := x
  unfold PIns.cells at *
  simp only at *
  go_enter Tryz.func115, Tryz.ntmps115
  go_wp2_with fail
  go_ret
  exact ⟨rfl, (Mods.refl _ _).alloc _⟩

set_option maxHeartbeats 400000 in
theorem markW_any (x : PIns) (w : World) (g : Nat) (t : ByteArray) (h : w.cell? ⟨g, 0, none⟩ = some (.string t)) (hg : g < w.heap.size) :
    Calls Tryz.prog 187 #[.agg x.cells, .pointer (some ⟨g, 0, none⟩)] w fun e w' => e = .returned (.string t) ∧ Mods Nil' w w' := by
  obtain ⟨op, d, s, jump, num, high, label, name⟩ := x
  unfold PIns.cells at *
  simp only at *
  have h' : (w.alloc (.cells #[op, .int .u8 d, .int .u8 s, .int .i16 jump, .int .i32 num, .int .i32 high, .string label, .string name] 100)).cell? ⟨g, 0, none⟩ = some (.string t) := by
    rw [World.cell?_alloc_past _ _ _ hg]; exact h
  go_enter Tryz.func187, Tryz.ntmps187
  go_wp2_with fail
  go_ret
  exact ⟨rfl, (Mods.refl _ _).alloc _⟩

set_option maxHeartbeats 400000 in
theorem wideR_any (x : PIns) (hx : x.Fit) (w : World) :
    Calls Tryz.prog 173 #[.agg x.cells] w fun e w' => e = .returned (.bool (PK.wide.right x)) ∧ Mods Nil' w w' := by
  obtain ⟨op, d, s, jump, num, high, label, name⟩ := x
  have hs := hx.s
  clear hx
  unfold PIns.cells at *
  simp only [PK.right] at *
  by_cases h0 : s = 0
  · subst h0
    go_enter Tryz.func173, Tryz.ntmps173
    go_wp2_with fail
    go_ret
    exact ⟨by simp, (Mods.refl _ _).alloc _⟩
  · by_cases h1 : s = 1
    · subst h1
      go_enter Tryz.func173, Tryz.ntmps173
      go_wp2_with fail
      go_ret
      exact ⟨by simp; rfl, (Mods.refl _ _).alloc _⟩
    · have q0 : decide ((s : Int) = 0) = false := by simp; omega
      have q1 : decide ((s : Int) = 1) = false := by simp; omega
      go_enter Tryz.func173, Tryz.ntmps173
      go_wp2_with fail
      go_ret
      exact ⟨by simp [h0, h1], (Mods.refl _ _).alloc _⟩

set_option maxHeartbeats 400000 in
theorem offW_any (x : PIns) (hx : x.Fit) (w : World) (hE : Env w) :
    Calls Tryz.prog 166 #[.agg x.cells] w fun e w' => e = .returned (.string (T (PK.offset.write x))) ∧ Mods Nil' w w' := by
  obtain ⟨op, d, s, jump, num, high, label, name⟩ := x
  have j0 := hx.j0
  have j1 := hx.j1
  clear hx
  unfold PIns.cells at *
  simp only [PK.write] at *
  have hl := itoa_len jump (by omega) (by omega)
  rw [← T_size] at hl
  have hE1 := hE.mods ((Mods.refl _ _).alloc (.cells #[op, .int .u8 d, .int .u8 s, .int .i16 jump, .int .i32 num, .int .i32 high, .string label, .string name] 100))
  by_cases hp : 0 < jump
  · have HE : Hid (T (offP jump) = T [43] ++ T (Lib.itoa jump)) := by rw [Hid, offP, if_pos hp]; exact T_app [43] _
    go_enter Tryz.func166, Tryz.ntmps166
    go_wp2_with fail
    refine (itoa_any jump (by omega) (by omega) _ hE1).mono ?_
    rintro e w1 ⟨rfl, m1⟩
    generalize T (Lib.itoa jump) = sd at *
    go_wp2_with fail
    go_ret
    exact ⟨by rw [HE.out]; rfl, ((Mods.refl _ _).alloc _).trans m1⟩
  · by_cases hn : jump < 0
    · have HE : Hid (T (offP jump) = T (Lib.itoa jump)) := by rw [Hid, offP, if_neg hp, if_pos hn]
      go_enter Tryz.func166, Tryz.ntmps166
      go_wp2_with fail
      refine (itoa_any jump (by omega) (by omega) _ hE1).mono ?_
      rintro e w1 ⟨rfl, m1⟩
      generalize T (Lib.itoa jump) = sd at *
      go_wp2_with fail
      go_ret
      exact ⟨by rw [HE.out]; rfl, ((Mods.refl _ _).alloc _).trans m1⟩
    · have h0 : jump = 0 := by omega
      subst h0
      go_enter Tryz.func166, Tryz.ntmps166
      go_wp2_with fail
      go_ret
      exact ⟨rfl, (Mods.refl _ _).alloc _⟩

theorem or_hi (a b : Nat) (ha : a < 4294967296) (hb : b < 4294967296) : bits .or .u64 ((a : Int) * 4294967296) (b : Int) = ((a * 4294967296 + b : Nat) : Int) := by
  have h := (bits_nat .u64 64 (by decide) (fun n h0 h1 => by rw [IntKind.wrap_u64]; omega) (a * 4294967296) b (by omega) (by omega)).2
  have e := Nat.two_pow_add_eq_or_of_lt (i := 32) (show b < 2 ^ 32 by omega) a
  rw [Nat.mul_comm] at e
  have e2 : (2 : Nat) ^ 32 = 4294967296 := by decide
  rw [e2] at e
  rw [← e] at h
  simpa using h

set_option maxHeartbeats 400000 in
theorem insWide_any (x : PIns) (w : World) :
    Calls Tryz.prog 175 #[.agg x.cells] w fun e w' => e = .returned (.int .u64 x.wide) ∧ Mods Nil' w w' := by
  obtain ⟨op, d, s, jump, num, high, label, name⟩ := x
  unfold PIns.cells at *
  simp only [PIns.wide] at *
  have HO : Hid (_ = _) := or_hi (high % 4294967296).toNat (num % 4294967296).toNat (by omega) (by omega)
  have e1 : (((high % 4294967296).toNat : Nat) : Int) = high % 4294967296 := by omega
  have e2 : (((num % 4294967296).toNat : Nat) : Int) = num % 4294967296 := by omega
  have HO2 : Hid (bits .or .u64 (high % 4294967296 * 4294967296) (num % 4294967296) = (((high % 4294967296).toNat * 4294967296 + (num % 4294967296).toNat : Nat) : Int)) := by
    have h := HO.out
    rw [e1, e2] at h
    exact h
  clear HO e1 e2
  go_enter Tryz.func175, Tryz.ntmps175
  go_wp2_with fail
  go_ret
  refine ⟨?_, (Mods.refl _ _).alloc _⟩
  rw [← HO2.out]
  rfl

theorem wide_lt (x : PIns) : x.wide < 18446744073709551616 := by
  unfold PIns.wide; omega

theorem holds_zero0 (w : World) (T : TypeId) (nd : Nat) (hs : nd ≤ 24) : Sort.Holds (fun (b : UInt8) => Value.int .u8 (b.toNat : Int)) (w.alloc (.cells Lib.zeros24 T)) w.heap.size 0 (Array.replicate nd (0 : UInt8)) := fun j hj => by
  have hj' : j < nd := by simpa using hj
  refine ⟨?_, World.frozen?_alloc_new _ _ _ _⟩
  rw [World.cell?_alloc_new, Lib.zeros24_at _ (by omega), getElem!_pos _ j hj]
  simp

theorem fin0 (w : World) (o : Obj) (dk : Array UInt8) (k : Nat) : Mods Nil' w ((Sort.putRow (fun (b : UInt8) => Value.int .u8 (b.toNat : Int)) (w.alloc o) w.heap.size 0 dk).drewN k) := by
  rw [Sort.alloc_eq_grow]
  obtain ⟨os', _, e⟩ := Sort.putRow_grow_new (fun (b : UInt8) => Value.int .u8 (b.toNat : Int)) w #[o] w.heap.size 0 dk (Nat.le_refl _)
  rw [e]
  exact Mods.grow w k os'

set_option maxHeartbeats 6400000 in
set_option maxRecDepth 100000 in
/-- The library's FormatUint at base 10. -/
theorem ifmtu_any (u : Nat) (hu64 : u < 18446744073709551616) (w : World) (hE : Env w) :
    Calls Tryz.prog 225 #[.int .u64 u, .int .i64 10] w fun e w' => e = .returned (.string (T (Lib.decDigits u))) ∧ Mods Nil' w w' := by
  by_cases hs : u < 100
  · go_enter Tryz.func225, Tryz.ntmps225
    go_wp2_with fail
    refine (Any.internal_strconv_small { Tryz.lf with } u hs _).mono ?_
    rintro e w1 ⟨rfl, rfl⟩
    go_wp2_with fail
    go_ret
    exact ⟨rfl, Mods.refl _ _⟩
  · have hu1 : 1 ≤ u := by omega
    have hnd20 : Lib.nDigits u ≤ 20 := Lib.nDigits_le20 u hu64
    have hal : Tryz.prog.arrayLen 234 = 24 := by kernel_rfl
    have hsl1 : ∀ W, (Instr.sliceAt 234 (.pointer (some ⟨w.heap.size, 0, none⟩)) none (some (.int .i64 (Lib.nDigits u : Int))) none).run Tryz.prog W = .ok (.slice (some ⟨w.heap.size, 0, none⟩) (Lib.nDigits u) 24) W := fun W => by
      rw [run_sliceAt_array_h W 234 ⟨w.heap.size, 0, none⟩ (by kernel_rfl) .i64 (Lib.nDigits u : Int) (by omega) (by rw [hal]; omega)]
      go_simp
    have hH0 := holds_zero0 w 234 (Lib.nDigits u) (by omega)
    have hfmt := Any.internal_strconv_formatBase10 { Tryz.lf with } w.heap.size 0 24 u (Array.replicate (Lib.nDigits u) 0) (w.alloc (.cells Lib.zeros24 234)) hH0 (by rw [Array.size_replicate]; exact Lib.lt_pow_nDigits u) hu64 (by rw [Array.size_replicate]; omega)
    rw [Array.size_replicate] at hfmt
    have HH0 : Hid _ := hH0
    clear hH0 hal
    go_enter Tryz.func225, Tryz.ntmps225
    go_wp2_with fail
    refine (Any.internal_strconv_numDigits { Tryz.lf with } u hu1 hu64 _ (Lib.tabIs_alloc hE _)).mono ?_
    rintro e w1 ⟨rfl, rfl⟩
    go_wp2_with fail
    refine hfmt.mono ?_
    rintro e w' ⟨rfl, k, v', dk, rfl, hF⟩
    have hcv : (convert 69 9 (.slice (some ⟨w.heap.size, 0, none⟩) (Lib.nDigits u) 24)).run Tryz.prog ((Sort.putRow (fun (b : UInt8) => Value.int .u8 (b.toNat : Int)) (w.alloc (.cells Lib.zeros24 234)) w.heap.size 0 dk).drewN k) = .ok (.string (T (Lib.decDigits u))) ((Sort.putRow (fun (b : UInt8) => Value.int .u8 (b.toNat : Int)) (w.alloc (.cells Lib.zeros24 234)) w.heap.size 0 dk).drewN k) := by
      have h := run_convert_bytes_back (P := Tryz.prog) ((Sort.putRow (fun (b : UInt8) => Value.int .u8 (b.toNat : Int)) (w.alloc (.cells Lib.zeros24 234)) w.heap.size 0 dk).drewN k) 69 9 5 ⟨w.heap.size, 0, none⟩ 24 (Lib.decDigits u) Tryz.underlying69 Tryz.underlying5 Tryz.underlying9 (fun j hj => by
        rw [Lib.row_is_numeral hF j hj, Lib.add_plain, World.cell?_drewN]
        exact Sort.cell?_putRow (fun (b : UInt8) => Value.int .u8 (b.toNat : Int)) _ w.heap.size 0 _ dk HH0.out (by rw [hF.size, Array.size_replicate]) j (by rw [hF.size]; rw [Lib.decDigits_length] at hj; exact hj))
      rw [Lib.decDigits_length] at h
      exact h
    go_wp2_with fail
    go_ret
    exact ⟨rfl, fin0 w _ dk k⟩

theorem fmtu_any (u : Nat) (hu64 : u < 18446744073709551616) (w : World) (hE : Env w) :
    Calls Tryz.prog 205 #[.int .u64 u, .int .i64 10] w fun e w' => e = .returned (.string (T (Lib.decDigits u))) ∧ Mods Nil' w w' := by
  go_enter Tryz.func205, Tryz.ntmps205
  go_wp2_with fail
  refine (ifmtu_any u hu64 _ hE).mono ?_
  rintro e w1 ⟨rfl, m1⟩
  go_wp2_with fail
  go_ret
  exact ⟨rfl, m1⟩

set_option maxHeartbeats 400000 in
theorem wideW_any (x : PIns) (hx : x.Fit) (w : World) (hE : Env w) :
    Calls Tryz.prog 172 #[.agg x.cells] w fun e w' => e = .returned (.string (T (PK.wide.write x))) ∧ Mods Nil' w w' := by
  have hw := insWide_any x
  have hwl := wide_lt x
  by_cases h : x.s = 1
  · have HE : Hid (T (PK.wide.write x) = T [109, 97, 112, 32] ++ x.name) := by
      rw [Hid, PK.write, wideP, if_pos h, ← T_app, T_BL]
    obtain ⟨op, d, s, jump, num, high, label, name⟩ := x
    have hn := hx.m
    clear hx hw
    unfold PIns.cells at *
    simp only at *
    subst h
    go_enter Tryz.func172, Tryz.ntmps172
    go_wp2_with fail
    go_ret
    exact ⟨by rw [HE.out]; rfl, (Mods.refl _ _).alloc _⟩
  · have HE : Hid (PK.wide.write x = Lib.decDigits x.wide) := by rw [Hid, PK.write, wideP, if_neg h]
    generalize x.wide = u at *
    obtain ⟨op, d, s, jump, num, high, label, name⟩ := x
    clear hx
    unfold PIns.cells at *
    simp only at *
    have q1 : decide ((s : Int) = 1) = false := by simp; omega
    go_enter Tryz.func172, Tryz.ntmps172
    go_wp2_with fail
    refine (hw _).mono ?_
    rintro e w1 ⟨rfl, m1⟩
    go_wp2_with fail
    refine (fmtu_any u hwl _ (hE.mods (((Mods.refl _ _).alloc _).trans m1))).mono ?_
    rintro e w2 ⟨rfl, m2⟩
    go_wp2_with fail
    go_ret
    exact ⟨by rw [HE.out]; rfl, (((Mods.refl _ _).alloc _).trans m1).trans m2⟩
end Go.Proofs.YtnankepcmaoijaaGreatDoor
