/- Proved here (back_card): for every string of bytes the law Back of the package spoolkeep comes back and answers true: where the program's Disassemble takes the bytes and what it tells is no longer than a text may be, the program's Assemble makes the same bytes of it, with no error; where it does not take them, it tells nothing; and the law leaves its argument as it was.
   Its conditions: the package-level variables that the row lists hold what the program's text lays in them (the card ties them to it; unicode/utf8.first as pinned); of internal/bytealg.MaxLen it speaks whatever number it holds; the row's own bound on a string's size. -/
import Derived.Test.YtnhcaifopaeohaaGreatDoorC52
import Derived.Test.YtnhcaifopaeohaaGreatDoorTie
import Derived.Test.YtnhcaifopaeohaaGreatDoorCards
import Derived.SevenTiedAt
namespace Go.Proofs.YtnhcaifopaeohaaGreatDoor
open Go
set_option linter.all false
theorem back_card:Rows.BackCardSaid :=
 Claim7.holds_tied_plain_at .later [] [.data, .data, .data, .data, .data, .pinned] true (true, "5480c7049904a1c5a68fd0af7a2e68e535ec049645634e5ae874385886d24b6d") false
  back_row (fun _ h=>by cases h) (by kernel_rfl) (fun _ h=>by cases h) back_row_tie rfl ⟨rfl,rfl⟩ (by kernel_rfl) rfl
  (fun f fn hf hfn=>by
   obtain rfl : f = 3 := Option.some.inj ((show Tryz.prog.funcNamed "spool/spoolkeep.Back" = some 3 by kernel_rfl).symm.trans hf) |>.symm
   obtain rfl:fn=Tryz.f3:=(Option.some.inj (Tryz.func3.symm.trans hfn)).symm
   exact ⟨by kernel_rfl,fun j t ht=>by
    rw [kblawParams] at ht
    have h3:t=9:=by
     rcases j with _ | j
     ·simpa using ht.symm
     ·simp at ht
    subst h3
    exact (show Tryz.prog.wantsStandIn 9=false by kernel_rfl)⟩)
  (by kernel_rfl)
#print axioms back_card
end Go.Proofs.YtnhcaifopaeohaaGreatDoor
