/- Proved here (kept_card): for every list of numbers the law Kept of the package spoolkeep comes back and answers true: of a text with one map and the functions put, del and get the program makes two machines; of the second one one run of put is done; the numbers tell up to 40 runs of the first one, each with a key and a value: each ends with no trap, answers what it must (del: 0, or 1 where the key was not there; get: the value, or 1000; put: 0, or 1 where four keys are there and this is none of them) and leaves its input as it was; in the end the first machine tells as many entries as there are keys, rising by their keys, each with its value, and the second one the one entry that was put there; and the law leaves its argument as it was.
   Its conditions: the package-level variables that the row lists hold what the program's text lays in them (the card ties them to it; unicode/utf8.first as pinned); of internal/bytealg.MaxLen it speaks whatever number it holds; the row's own bound on a list's size. -/
import Derived.Test.YthnphhgpfedeeaaGreatDoorCK63
import Derived.Test.YthnphhgpfedeeaaGreatDoorTie
import Derived.Test.YthnphhgpfedeeaaGreatDoorCards
namespace Go.Proofs.YthnphhgpfedeeaaGreatDoor
open Go
set_option linter.all false
theorem ag9:Rows.keptRow.wfByText (OpenSpec.ofChange Rows.keptSpec)=true:=by kernel_rfl
theorem aha : Tryz.pinned.checked.prog.mainIs = some (true, "8cc621124526fafe3ab389b3adb25f3e05a6fcbd24d7df758c0df6d98b5e5ef9".toList) := by kernel_rfl
theorem ahb:true=Tryz.pinned.checked.prog.looks []:=by kernel_rfl
theorem ahc:false=Rows.keptRow.goesBy Tryz.pinned.checked.prog:=by kernel_rfl
theorem ahd:Tryz.prog.wantsStandIn 40=false:=by kernel_rfl
theorem ahe : Tryz.prog.funcNamed "spool/spoolkeep.Kept" = some 4 := by kernel_rfl
theorem kept_card:Rows.KeptCardSaid :=
 Claim7.holds_tied_plain_at .later [] [.data, .data, .data, .data, .data, .pinned] true (true, "8cc621124526fafe3ab389b3adb25f3e05a6fcbd24d7df758c0df6d98b5e5ef9") true
  agQ (λ_ h=>by cases h) ag9 (λ_ h=>by cases h) kept_row_tie rfl ⟨rfl,rfl⟩ aha rfl
  (λf fn hf hfn=>by
   obtain rfl:f=4:=Option.some.inj (ahe.symm.trans hf) |>.symm;obtain rfl:fn=Tryz.f4:=(Option.some.inj (Tryz.func4.symm.trans hfn)).symm
   exact⟨ahb,λj t ht=>by
    rw[agE]at ht
    have h3:t=40:=by
     rcases j with _|j
     ·simpa using ht.symm
     ·simp at ht
    subst h3;exact ahd⟩)
  ahc
#print axioms kept_card
