/- Proved here (loads_card): for every string of bytes the law Loads of the package spoollaw comes back and answers true: a text is assembled, linked, loaded and run by the program as it must be; then the program's Load of the bytes and the document's answer the same: the same error, and a machine both times or none; where there is one, the program tells just the names of the functions that the document reads in the bytes, in that order; and the law leaves its argument as it was.
   Its conditions: the package-level variables that the row lists hold what the program's text lays in them (the card ties them to it; unicode/utf8.first as pinned); of internal/bytealg.MaxLen it speaks whatever number it holds; the row's own bound on a string's size. -/
import Derived.Test.YtekmhcbefnmflaaGreatDoorCards
import Derived.Test.YtekmhcbefnmflaaGreatDoorTie
import Derived.Test.YtekmhcbefnmflaaGreatDoorCL63
namespace Go.Proofs.YtekmhcbefnmflaaGreatDoor
open Go
set_option linter.all false
theorem agM:Rows.loadsRow.wfByText (OpenSpec.ofChange Rows.loadsSpec)=true:=by kernel_rfl
theorem agN : Tryz.pinned.checked.prog.mainIs = some (true, "bb3970d9dc5208f54579d04748b5b13a01b9ac60ebde40c7a95d5690533b6c00".toList) := by kernel_rfl
theorem agO:true=Tryz.pinned.checked.prog.looks []:=by kernel_rfl
theorem agP:false=Rows.loadsRow.goesBy Tryz.pinned.checked.prog:=by kernel_rfl
theorem agQ:Tryz.prog.wantsStandIn 9=false:=by kernel_rfl
theorem agR : Tryz.prog.funcNamed "spool/spoollaw.Loads" = some 3 := by kernel_rfl
theorem loads_card:Rows.LoadsCardSaid :=
 Claim7.holds_tied_plain_at .later [] [.data, .data, .data, .data, .data, .pinned] true (true, "bb3970d9dc5208f54579d04748b5b13a01b9ac60ebde40c7a95d5690533b6c00") true
  agw (λ_ h=>by cases h) agM (λ_ h=>by cases h) loads_row_tie rfl ⟨rfl,rfl⟩ agN rfl
  (λf fn hf hfn=>by
   obtain rfl:f=3:=Option.some.inj (agR.symm.trans hf) |>.symm;obtain rfl:fn=Tryz.f3:=(Option.some.inj (Tryz.func3.symm.trans hfn)).symm
   exact⟨agO,λj t ht=>by
    rw[agh]at ht
    have h3:t=9:=by
     rcases j with _|j
     ·simpa using ht.symm
     ·simp at ht
    subst h3;exact agQ⟩)
  agP
#print axioms loads_card
