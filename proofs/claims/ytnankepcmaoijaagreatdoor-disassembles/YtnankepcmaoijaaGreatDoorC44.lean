/- The law's walk: one Disassemble held against the document's. -/
import Derived.Test.YtnankepcmaoijaaGreatDoorC43
import Derived.Test.YtnankepcmaoijaaGreatDoorC24
import Derived.Test.YtnankepcmaoijaaGreatDoorC38
namespace Go.Proofs.YtnankepcmaoijaaGreatDoor
open Go.RowKit

theorem spdis_any (w : World) (hE : Env w) (hW : EnvW w) (s : ByteArray) (hs : s.size ≤ maxLen) :
    Calls Tryz.prog 5 #[.string s] w fun e w' => e = .returned (disV (disM s)) ∧ Mods Nil' w w' := by
  have HD : Hid (Calls Tryz.prog 9 #[.string s] w fun e w' => e = .returned (disV (disM s)) ∧ Mods Nil' w w') := by
    have h := pdis_any w hE hW (BL s) (by rw [BL_len]; exact hs)
    rw [dis_eq] at h
    exact h
  clear hE hW
  cases hd : disM s with
  | none =>
    rw [hd] at HD
    have HD2 : Hid (Calls Tryz.prog 9 #[.string s] w fun e w' => e = .returned (.tuple #[.string ⟨#[]⟩, .int .i64 7]) ∧ Mods Nil' w w') := HD.out
    clear HD hd
    show Calls Tryz.prog 5 #[.string s] w fun e w' => e = .returned (.tuple #[.string ⟨#[]⟩, .int .i64 7]) ∧ Mods Nil' w w'
    go_enter Tryz.func5, Tryz.ntmps5
    go_wp2_with fail
    refine HD2.out.mono ?_
    rintro e w1 ⟨rfl, m1⟩
    go_wp2_with fail
    go_ret2
    exact ⟨rfl, m1⟩
  | some t =>
    rw [hd] at HD
    have HD2 : Hid (Calls Tryz.prog 9 #[.string s] w fun e w' => e = .returned (.tuple #[.string (T t), .int .i64 0]) ∧ Mods Nil' w w') := HD.out
    clear HD hd
    show Calls Tryz.prog 5 #[.string s] w fun e w' => e = .returned (.tuple #[.string (T t), .int .i64 0]) ∧ Mods Nil' w w'
    go_enter Tryz.func5, Tryz.ntmps5
    go_wp2_with fail
    refine HD2.out.mono ?_
    rintro e w1 ⟨rfl, m1⟩
    go_wp2_with fail
    go_ret2
    exact ⟨rfl, m1⟩

theorem znum_any (w : World) (n : Int) : Calls Tryz.prog 8 #[.int .i64 n] w fun e w' => e = .returned (.int .i64 n) ∧ w' = w := by
  go_enter Tryz.func8, Tryz.ntmps8
  go_wp2_with fail
  go_ret
  exact ⟨rfl, rfl⟩

def exObj : List UInt8 := [83, 80, 79, 76, 1, 0, 1, 1, 102, 2, 0, 34, 1, 0, 0, 1, 0, 0, 0, 194, 0, 0, 0, 0, 0, 0, 0, 0, 0]
def exTxt : List UInt8 := [102, 117, 110, 99, 32, 102, 10, 32, 32, 97, 100, 100, 32, 114, 49, 44, 32, 49, 10, 32, 32, 101, 120, 105, 116, 10]
theorem ex_dis : disP exObj = some exTxt := by decide +kernel
end Go.Proofs.YtnankepcmaoijaaGreatDoor

/- The law's walk. -/
namespace Go.Proofs.YtnankepcmaoijaaGreatDoor
open Go.RowKit

def strV (o : Option (List UInt8)) : ByteArray := match o with
  | none => ⟨#[]⟩
  | some t => T t

set_option maxRecDepth 100000 in
set_option maxHeartbeats 1000000 in
theorem zdis_any (w : World) (hE : Env w) (hW : EnvW w) (s : ByteArray) (hs : s.size ≤ maxLen) :
    Calls Tryz.prog 4 #[.string s] w fun e w' => e = .returned (.tuple #[.string (strV (disM s)), .bool true]) ∧ Mods Nil' w w' := by
  have HD : Hid (Calls Tryz.prog 5 #[.string s] w fun e w' => e = .returned (disV (disM s)) ∧ Mods Nil' w w') := spdis_any w hE hW s hs
  have HOp : Hid (∀ w, Calls Tryz.prog 6 #[.string s, .bool false] w fun e w' => OpenPost w s e w') := fun w => open_any s w hs
  have hdm : disM s = (openM s).map (fun o => textM o.1 o.2.1 o.2.2) := rfl
  clear hE hW
  cases ho : openM s with
  | none =>
    have hd : disM s = none := by rw [hdm, ho]; rfl
    rw [hd] at HD ⊢
    have HD2 : Hid (Calls Tryz.prog 5 #[.string s] w fun e w' => e = .returned (.tuple #[.string ⟨#[]⟩, .int .i64 7]) ∧ Mods Nil' w w') := HD.out
    have HO2 : Hid (∀ w, Calls Tryz.prog 6 #[.string s, .bool false] w fun e w' => ∃ p, e = .returned (.tuple #[.pointer p, .bool false]) ∧ Mods Nil' w w') := fun w => (HOp.out w).mono fun e w' h => by
      obtain ⟨m, h⟩ := h
      rw [ho] at h
      obtain ⟨p, hp⟩ := h
      exact ⟨p, hp, m⟩
    clear HD HOp hdm ho hd
    show Calls Tryz.prog 4 #[.string s] w fun e w' => e = .returned (.tuple #[.string ⟨#[]⟩, .bool true]) ∧ Mods Nil' w w'
    go_enter Tryz.func4, Tryz.ntmps4
    go_wp2_with fail
    refine HD2.out.mono ?_
    rintro e w1 ⟨rfl, m1⟩
    go_wp2_with fail
    refine (HO2.out _).mono ?_
    rintro e w2 ⟨p, rfl, m2⟩
    have HM : Hid (Mods Nil' w w2) := m1.trans m2
    clear m1 m2
    go_wp2_with fail
    refine (znum_any _ _).mono ?_
    rintro e w3 ⟨rfl, rfl⟩
    go_wp2_with fail
    go_ret2
    exact ⟨rfl, HM.out⟩
  | some o =>
    have hd : disM s = some (textM o.1 o.2.1 o.2.2) := by rw [hdm, ho]; rfl
    have HTx : Hid (∀ w pb rb' vM vF hs bd, PInv w pb rb' vM vF o.1 (o.2.1.zip hs) o.2.2 bd → hs.length = o.2.1.length → Calls Tryz.prog 7 #[.pointer (some ⟨pb, 0, none⟩)] w fun e w' => e = .returned (.string (T (textM o.1 o.2.1 o.2.2))) ∧ Mods Nil' w w') := fun w pb rb' vM vF hs bd hI hl => dis_text w s o pb rb' vM vF hs bd ho hI hl
    rw [hd] at HD ⊢
    generalize textM o.1 o.2.1 o.2.2 = t at *
    have HD2 : Hid (Calls Tryz.prog 5 #[.string s] w fun e w' => e = .returned (.tuple #[.string (T t), .int .i64 0]) ∧ Mods Nil' w w') := HD.out
    have HO2 : Hid (∀ w, Calls Tryz.prog 6 #[.string s, .bool false] w fun e w' => ∃ pb, e = .returned (.tuple #[.pointer (some ⟨pb, 0, none⟩), .bool true]) ∧ Mods Nil' w w' ∧ Calls Tryz.prog 7 #[.pointer (some ⟨pb, 0, none⟩)] w' fun e w'' => e = .returned (.string (T t)) ∧ Mods Nil' w' w'') := fun w => (HOp.out w).mono fun e w' h => by
      obtain ⟨m, h⟩ := h
      rw [ho] at h
      obtain ⟨pb, rb', vM, vF, hs, bd, he, hI, hl, _⟩ := h
      exact ⟨pb, he, m, HTx.out _ _ _ _ _ _ _ hI hl⟩
    clear HD HOp hdm ho hd HTx
    show Calls Tryz.prog 4 #[.string s] w fun e w' => e = .returned (.tuple #[.string (T t), .bool true]) ∧ Mods Nil' w w'
    go_enter Tryz.func4, Tryz.ntmps4
    go_wp2_with fail
    refine HD2.out.mono ?_
    rintro e w1 ⟨rfl, m1⟩
    go_wp2_with fail
    refine (HO2.out _).mono ?_
    rintro e w2 ⟨pb, rfl, m2, hT⟩
    have HM : Hid (Mods Nil' w w2) := m1.trans m2
    clear m1 m2
    go_wp2_with fail
    refine hT.mono ?_
    rintro e w3 ⟨rfl, m3⟩
    have HM3 : Hid (Mods Nil' w w3) := HM.out.trans m3
    clear m3 HM hT
    go_wp2_with fail
    refine (znum_any _ _).mono ?_
    rintro e w4 ⟨rfl, rfl⟩
    go_wp2_with fail
    go_ret2
    exact ⟨rfl, HM3.out⟩
end Go.Proofs.YtnankepcmaoijaaGreatDoor

/- The law: Disassembles answers true. -/
namespace Go.Proofs.YtnankepcmaoijaaGreatDoor
open Go.RowKit

theorem ex_str : strV (disM ⟨exObj.toArray⟩) = ⟨exTxt.toArray⟩ := by
  have h : disM ⟨exObj.toArray⟩ = some exTxt := by
    rw [← dis_eq]
    exact ex_dis
  rw [h]; rfl

set_option maxRecDepth 100000 in
set_option maxHeartbeats 1000000 in
theorem zlaw_any (w : World) (hE : Env w) (hW : EnvW w) (s : ByteArray) (hs : s.size ≤ maxLen) :
    Calls Tryz.prog 3 #[.string s] w fun e w' => e = .returned (.bool true) ∧ Mods Nil' w w' := by
  have H1 : Hid (Calls Tryz.prog 4 #[.string ⟨#[83, 80, 79, 76, 1, 0, 1, 1, 102, 2, 0, 34, 1, 0, 0, 1, 0, 0, 0, 194, 0, 0, 0, 0, 0, 0, 0, 0, 0]⟩] w fun e w' => e = .returned (.tuple #[.string ⟨#[102, 117, 110, 99, 32, 102, 10, 32, 32, 97, 100, 100, 32, 114, 49, 44, 32, 49, 10, 32, 32, 101, 120, 105, 116, 10]⟩, .bool true]) ∧ Mods Nil' w w') := by
    have h := zdis_any w hE hW ⟨exObj.toArray⟩ (by decide)
    rw [ex_str] at h
    exact h
  have H2 : Hid (∀ w', Mods Nil' w w' → Calls Tryz.prog 4 #[.string s] w' fun e w'' => e = .returned (.tuple #[.string (strV (disM s)), .bool true]) ∧ Mods Nil' w' w'') := fun w' m => zdis_any w' (hE.mods m) (hW.mods m) s hs
  clear hE hW
  generalize strV (disM s) = sv at *
  go_enter Tryz.func3, Tryz.ntmps3
  go_wp2_with fail
  refine H1.out.mono ?_
  rintro e w1 ⟨rfl, m1⟩
  go_wp2_with fail
  refine (H2.out _ m1).mono ?_
  rintro e w2 ⟨rfl, m2⟩
  have HM : Hid (Mods Nil' w w2) := m1.trans m2
  clear m1 m2
  go_wp2_with fail
  go_ret
  exact ⟨rfl, HM.out⟩
end Go.Proofs.YtnankepcmaoijaaGreatDoor
