/- Proved here (called_card): for every two numbers the law Called of the package spoolkeep comes back and answers true: a text is made of them, assembled, linked, loaded by the program; its functions call one another as deep as the first number says: up to six calls deep the answer is the sum that the law reckons; deeper is a trap of depth, at that function and slot; what leads to the stack of a call that came back is out of bounds; and the law leaves its arguments as they were.
   Its conditions: the package-level variables that the row lists hold what the program's text lays in them (the card ties them to it; unicode/utf8.first as pinned); of internal/bytealg.MaxLen it speaks whatever number it holds. -/
import Derived.Test.YthnphhgpfedeeaaGreatDoorC54
import Derived.Test.YthnphhgpfedeeaaGreatDoorTie
import Derived.Test.YthnphhgpfedeeaaGreatDoorCards
namespace Go.Proofs.YthnphhgpfedeeaaGreatDoor
open Go
set_option linter.all false
theorem afU:Rows.calledRow.wfByText (OpenSpec.ofChange Rows.calledSpec)=true:=by kernel_rfl
theorem afV : Tryz.pinned.checked.prog.mainIs = some (true, "8cc621124526fafe3ab389b3adb25f3e05a6fcbd24d7df758c0df6d98b5e5ef9".toList) := by kernel_rfl
theorem afW:true=Tryz.pinned.checked.prog.looks []:=by kernel_rfl
theorem afX:false=Rows.calledRow.goesBy Tryz.pinned.checked.prog:=by kernel_rfl
theorem afY:Tryz.prog.wantsStandIn 3=false:=by kernel_rfl
theorem afZ : Tryz.prog.funcNamed "spool/spoolkeep.Called" = some 5 := by kernel_rfl
theorem called_card:Rows.CalledCardSaid :=
 Claim7.holds_tied_plain_at .later [] [.data, .data, .data, .data, .data, .pinned] true (true, "8cc621124526fafe3ab389b3adb25f3e05a6fcbd24d7df758c0df6d98b5e5ef9") true
  afx (λ_ h=>by cases h) afU (λ_ h=>by cases h) called_row_tie rfl ⟨rfl,rfl⟩ afV rfl
  (λf fn hf hfn=>by
   obtain rfl:f=5:=Option.some.inj (afZ.symm.trans hf) |>.symm;obtain rfl:fn=Tryz.f5:=(Option.some.inj (Tryz.func5.symm.trans hfn)).symm
   exact⟨afW,λj t ht=>by
    rw[afp]at ht
    have h3:t=3:=by
     rcases j with _|_|j
     ·simpa using ht.symm
     ·simpa using ht.symm
     ·simp at ht
    rcases h3 with rfl;exact afY⟩)
  afX
#print axioms called_card
