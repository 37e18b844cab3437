/- Proved here (forth_card): for every text of bytes the law Forth of the package spoolkeep comes back and answers true: where the program's Assemble takes the text, its Disassemble takes the object, and, where what it tells is no longer than a text may be, that is assembled to the same object and told the same again; where it does not take the text, it makes no object and names no line below 0; and the law leaves its argument as it was.
   Its conditions: the package-level variables that the row lists hold what the program's text lays in them (the card ties them to it; unicode/utf8.first as pinned); of internal/bytealg.MaxLen it speaks whatever number it holds; the row's own bound on a string's size. -/
import Derived.Test.YtnhcaifopaeohaaGreatDoorC62
import Derived.Test.YtnhcaifopaeohaaGreatDoorTie
import Derived.Test.YtnhcaifopaeohaaGreatDoorCards
import Derived.SevenTiedAt
namespace Go.Proofs.YtnhcaifopaeohaaGreatDoor
open Go
set_option linter.all false
theorem forth_card:Rows.ForthCardSaid :=
 Claim7.holds_tied_plain_at .later [] [.data, .data, .data, .data, .data, .pinned] true (true, "5480c7049904a1c5a68fd0af7a2e68e535ec049645634e5ae874385886d24b6d") false
  forth_row (fun _ h=>by cases h) (by kernel_rfl) (fun _ h=>by cases h) forth_row_tie rfl ⟨rfl,rfl⟩ (by kernel_rfl) rfl
  (fun f fn hf hfn=>by
   obtain rfl : f = 4 := Option.some.inj ((show Tryz.prog.funcNamed "spool/spoolkeep.Forth" = some 4 by kernel_rfl).symm.trans hf) |>.symm
   obtain rfl:fn=Tryz.f4:=(Option.some.inj (Tryz.func4.symm.trans hfn)).symm
   exact ⟨by kernel_rfl,fun j t ht=>by
    rw [kflawParams] at ht
    have h3:t=9:=by
     rcases j with _ | j
     ·simpa using ht.symm
     ·simp at ht
    subst h3
    exact (show Tryz.prog.wantsStandIn 9=false by kernel_rfl)⟩)
  (by kernel_rfl)
#print axioms forth_card
end Go.Proofs.YtnhcaifopaeohaaGreatDoor
