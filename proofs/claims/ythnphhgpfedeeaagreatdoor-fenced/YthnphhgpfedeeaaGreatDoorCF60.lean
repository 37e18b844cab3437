/- Proved here (fenced_card): for every string of bytes, every input, every two numbers the law Fenced of the package spoolkeep comes back and answers true: two machines are loaded of the bytes by the program, or none both times; where there are some, a run of one of the functions that the first one tells uses no more than its fuel, leaves the input's length as it was (at most 32), tells no more than 20 numbers, and its trap is one of those there are; where it stopped for want of fuel it has used all of it and answers 0; else the second machine's run of the same function with 1000 more answers the same in all; and the law leaves its arguments as they were.
   Its conditions: the package-level variables that the row lists hold what the program's text lays in them (the card ties them to it; unicode/utf8.first as pinned); of internal/bytealg.MaxLen it speaks whatever number it holds; the row's own bound on a string's size. -/
import Derived.Test.YthnphhgpfedeeaaGreatDoorCF59
import Derived.Test.YthnphhgpfedeeaaGreatDoorTie
import Derived.Test.YthnphhgpfedeeaaGreatDoorCards
namespace Go.Proofs.YthnphhgpfedeeaaGreatDoor
open Go
set_option linter.all false
theorem aoY:Rows.fencedRow.wfByText (OpenSpec.ofChange Rows.fencedSpec)=true:=by kernel_rfl
theorem aoZ : Tryz.pinned.checked.prog.mainIs = some (true, "8cc621124526fafe3ab389b3adb25f3e05a6fcbd24d7df758c0df6d98b5e5ef9".toList) := by kernel_rfl
theorem ao0:true=Tryz.pinned.checked.prog.looks []:=by kernel_rfl
theorem ao1:false=Rows.fencedRow.goesBy Tryz.pinned.checked.prog:=by kernel_rfl
theorem ao2:Tryz.prog.wantsStandIn 3=false:=by kernel_rfl
theorem ao3:Tryz.prog.wantsStandIn 9=false:=by kernel_rfl
theorem ao4 : Tryz.prog.funcNamed "spool/spoolkeep.Fenced" = some 6 := by kernel_rfl
theorem fenced_card:Rows.FencedCardSaid :=
 Claim7.holds_tied_plain_at .later [] [.data, .data, .data, .data, .data, .pinned] true (true, "8cc621124526fafe3ab389b3adb25f3e05a6fcbd24d7df758c0df6d98b5e5ef9") true
  aoD (λ_ h=>by cases h) aoY (λ_ h=>by cases h) fenced_row_tie rfl ⟨rfl,rfl⟩ aoZ rfl
  (λf fn hf hfn=>by
   obtain rfl:f=6:=Option.some.inj (ao4.symm.trans hf) |>.symm;obtain rfl:fn=Tryz.f6:=(Option.some.inj (Tryz.func6.symm.trans hfn)).symm
   exact⟨ao0,λj t ht=>by
    rw[aow]at ht
    have h3:t=9\/t=3:=by
     rcases j with _|_|_|_|j
     ·exact .inl (by simpa using ht.symm)
     ·exact .inl (by simpa using ht.symm)
     ·exact .inr (by simpa using ht.symm)
     ·exact .inr (by simpa using ht.symm)
     ·simp at ht
    rcases h3 with rfl|rfl
    ·exact ao3
    ·exact ao2⟩)
  ao1
#print axioms fenced_card
