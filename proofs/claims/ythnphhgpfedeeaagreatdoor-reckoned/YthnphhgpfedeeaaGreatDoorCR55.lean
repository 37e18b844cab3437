/- Proved here (reckoned_card): for every three numbers the law Reckoned of the package spoolkeep comes back and answers true: of the first two and of one of eleven words two texts are made, assembled, linked, loaded by the program; the first, which hands a pointer to the log, ends in a trap of tag, at that function and slot; the second logs two numbers: what the word makes of the two in 64 bits, and what it makes of their low halves in 32 bits, as the law reckons them with the language's own words; and the law leaves its arguments as they were.
   Its conditions: the package-level variables that the row lists hold what the program's text lays in them (the card ties them to it; unicode/utf8.first as pinned); of internal/bytealg.MaxLen it speaks whatever number it holds. -/
import Derived.Test.YthnphhgpfedeeaaGreatDoorCR54
import Derived.Test.YthnphhgpfedeeaaGreatDoorTie
import Derived.Test.YthnphhgpfedeeaaGreatDoorCards
namespace Go.Proofs.YthnphhgpfedeeaaGreatDoor
open Go
set_option linter.all false
theorem ajb:Rows.reckonedRow.wfByText (OpenSpec.ofChange Rows.reckonedSpec)=true:=by kernel_rfl
theorem ajc : Tryz.pinned.checked.prog.mainIs = some (true, "8cc621124526fafe3ab389b3adb25f3e05a6fcbd24d7df758c0df6d98b5e5ef9".toList) := by kernel_rfl
theorem ajd:true=Tryz.pinned.checked.prog.looks []:=by kernel_rfl
theorem aje:false=Rows.reckonedRow.goesBy Tryz.pinned.checked.prog:=by kernel_rfl
theorem ajf:Tryz.prog.wantsStandIn 3=false:=by kernel_rfl
theorem ajg:Tryz.prog.wantsStandIn 22=false:=by kernel_rfl
theorem ajh : Tryz.prog.funcNamed "spool/spoolkeep.Reckoned" = some 3 := by kernel_rfl
theorem reckoned_card:Rows.ReckonedCardSaid :=
 Claim7.holds_tied_plain_at .later [] [.data, .data, .data, .data, .data, .pinned] true (true, "8cc621124526fafe3ab389b3adb25f3e05a6fcbd24d7df758c0df6d98b5e5ef9") true
  agw (λ_ h=>by cases h) ajb (λ_ h=>by cases h) reckoned_row_tie rfl ⟨rfl,rfl⟩ ajc rfl
  (λf fn hf hfn=>by
   obtain rfl:f=3:=Option.some.inj (ajh.symm.trans hf) |>.symm;obtain rfl:fn=Tryz.f3:=(Option.some.inj (Tryz.func3.symm.trans hfn)).symm
   exact⟨ajd,λj t ht=>by
    rw[agi]at ht
    have h3:t=22\/t=3:=by
     rcases j with _|_|_|j
     ·exact .inl (by simpa using ht.symm)
     ·exact .inl (by simpa using ht.symm)
     ·exact .inr (by simpa using ht.symm)
     ·simp at ht
    rcases h3 with rfl|rfl
    ·exact ajg
    ·exact ajf⟩)
  aje
#print axioms reckoned_card
