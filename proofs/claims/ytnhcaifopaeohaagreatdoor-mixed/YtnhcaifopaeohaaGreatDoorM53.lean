/- Proved here (mixed_card): for every list of texts and every number the law Mixed of the package spoolkeep comes back and answers true: of the objects that the program's Assemble makes of the first eight texts, as far as it takes them, the program's Link makes the same image, or none, in the order in which they stand, in the order turned by the number, and in the other way round; and the law leaves its arguments as they were.
   Its conditions: the package-level variables that the row lists hold what the program's text lays in them (the card ties them to it; unicode/utf8.first as pinned); of internal/bytealg.MaxLen it speaks whatever number it holds; the row's own bounds on the sizes of strings and lists. -/
import Derived.Test.YtnhcaifopaeohaaGreatDoorM52
import Derived.Test.YtnhcaifopaeohaaGreatDoorTie
import Derived.Test.YtnhcaifopaeohaaGreatDoorCards
import Derived.SevenTiedAt
namespace Go.Proofs.YtnhcaifopaeohaaGreatDoor
open Go
set_option linter.all false
theorem mixed_card:Rows.MixedCardSaid :=
 Claim7.holds_tied_plain_at .later [] [.data, .data, .data, .data, .data, .pinned] true (true, "5480c7049904a1c5a68fd0af7a2e68e535ec049645634e5ae874385886d24b6d") false
  mixed_row (fun _ h=>by cases h) (by kernel_rfl) (fun _ h=>by cases h) mixed_row_tie rfl ⟨rfl,rfl⟩ (by kernel_rfl) rfl
  (fun f fn hf hfn=>by
   obtain rfl : f = 5 := Option.some.inj ((show Tryz.prog.funcNamed "spool/spoolkeep.Mixed" = some 5 by kernel_rfl).symm.trans hf) |>.symm
   obtain rfl:fn=Tryz.f5:=(Option.some.inj (Tryz.func5.symm.trans hfn)).symm
   exact ⟨by kernel_rfl,fun j t ht=>by
    rw [kmlawParams] at ht
    have h3:t=29\/t=3:=by
     rcases j with _ | _ | j
     ·exact .inl (by simpa using ht.symm)
     ·exact .inr (by simpa using ht.symm)
     ·simp at ht
    rcases h3 with rfl | rfl
    ·exact (show Tryz.prog.wantsStandIn 29=false by kernel_rfl)
    ·exact (show Tryz.prog.wantsStandIn 3=false by kernel_rfl)⟩)
  (by kernel_rfl)
#print axioms mixed_card
end Go.Proofs.YtnhcaifopaeohaaGreatDoor
