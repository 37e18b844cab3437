/- Proved here (card_holds): for every text of bytes the law Disassembles of the package spoollaw comes back and answers true: the program's Disassemble tells just what the document's answer tells, the text of a right object or no text and ErrBytes, and it leaves its argument as it was.
   Its conditions: the package-level variables that the row lists hold what the program's text lays in them (the card ties them to it: math/bits.deBruijn32tab, math/bits.deBruijn64tab, internal/strconv.uint64pow10, unicode/utf8.acceptRanges, unicode/utf8.first as pinned, spool/ops.sizeWords); the row's own bound on a string's size. -/
import Derived.Test.YtnankepcmaoijaaGreatDoorC45
import Derived.Test.YtnankepcmaoijaaGreatDoorRows
import Derived.WalkKit
import Derived.ProofKit
import Derived.OpenShut
import Derived.Test.YtnankepcmaoijaaGreatDoorTie
import Derived.Test.YtnankepcmaoijaaGreatDoorCards
import Derived.SevenTiedAt
namespace Go.Proofs.YtnankepcmaoijaaGreatDoor
open Go.RowKit

theorem row_holds : Rows.DisassemblesSaid :=
  OpenClaim.holds_of_wide 3 Tryz.f3 rfl rfl rfl rfl rfl rfl rfl ⟨rfl, rfl, rfl, rfl, rfl⟩ rfl rfl rfl rfl rfl (by kernel_rfl) Tryz.func3 (by kernel_rfl)
    (of_decide_eq_true (by kernel_rfl)) (by unfold Func.isWrapper; first | (rw [if_pos (by decide +kernel)]; kernel_rfl) | (rw [if_neg (by decide +kernel)]; exact ⟨rfl, rfl⟩))
    (fun os started H enc _ => law_lifted os started H enc)
#print axioms row_holds
end Go.Proofs.YtnankepcmaoijaaGreatDoor

/- The tied card. -/
namespace Go.Proofs.YtnankepcmaoijaaGreatDoor
open Go

theorem card_holds : Rows.DisassemblesCardSaid :=
  Claim7.holds_tied_plain_at .later [] [.data, .data, .data, .data, .data, .pinned] true (true, "7e753a91376f86ce51b0251ee99ea20b2c151f459660401328641558a08bf92d") false
    row_holds (fun _ h => by cases h) (by kernel_rfl) (fun _ h => by cases h) disassembles_row_tie rfl ⟨rfl, rfl⟩ (by kernel_rfl) rfl
    (fun f fn hf hfn => by
      obtain rfl : f = 3 := Option.some.inj ((show Tryz.prog.funcNamed "spool/spoollaw.Disassembles" = some 3 by kernel_rfl).symm.trans hf) |>.symm
      obtain rfl : fn = Tryz.f3 := (Option.some.inj (Tryz.func3.symm.trans hfn)).symm
      exact ⟨by kernel_rfl, fun j t ht => by
        rw [lawParams] at ht
        have h3 : t = 9 := by
          rcases j with _ | j
          · simpa using ht.symm
          · simp at ht
        subst h3
        exact (show Tryz.prog.wantsStandIn 9 = false by kernel_rfl)⟩)
    (by kernel_rfl)
#print axioms card_holds
end Go.Proofs.YtnankepcmaoijaaGreatDoor
