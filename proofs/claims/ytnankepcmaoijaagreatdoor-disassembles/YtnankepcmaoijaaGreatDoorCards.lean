/-
  DERIVED. GIVEN WITH THE SEED: THE CARDS: each row of YtnankepcmaoijaaGreatDoorRows.lean that lists a variable, with what it lists TIED to the program's text (the seventh form; the later family's looks); each row that meets fmt, with fmt's text TOLD by the authors' own Lean function (tested against real Go, not proved from fmt's source: count such statements apart). THE CARD IS WHAT COUNTS. Prove the row's statement (the work); the ties are given (YtnankepcmaoijaaGreatDoorTie.lean); close each card by the builder's one call (the guide's Derived/Test/ToyasCard.lean, 'card_holds'). Laid BY PROGRAM, IN A SANDBOX (cutbox-door.mjs). By AI agents, Wed Nov 11 2026. No macro, syntax, notation, axiom, sorry.
-/
import Derived.Test.YtnankepcmaoijaaGreatDoorRows
import GoSem.ClaimSeven
namespace Go.Proofs.YtnankepcmaoijaaGreatDoor
namespace Rows

/-- THE TIED CARD OF 'spoollaw.Disassembles'. -/
def disassemblesCard : Claim7 := { stood := { row := disassemblesRow, standIns := [], harness := (true, "7e753a91376f86ce51b0251ee99ea20b2c151f459660401328641558a08bf92d"), looks := false }, kinds := [], alts := [], laidByText := true, laidKinds := [.data, .data, .data, .data, .data, .pinned], laidTests := true, laidLooks := .later }
def DisassemblesCardSaid : Prop := Claim7.holds Tryz.pinned (.plain (OpenSpec.ofChange disassemblesSpec)) disassemblesCard

/-- THE SECOND FORM's CARD OF 'spoollaw.Disassembles'. -/
def disassemblesUptoCard : Claim7 := { stood := { row := disassemblesUptoRow, standIns := [], harness := (true, "7e753a91376f86ce51b0251ee99ea20b2c151f459660401328641558a08bf92d"), looks := false }, kinds := [], alts := [], laidByText := true, laidKinds := [.data, .data, .data, .data, .data, .pinned], laidTests := true, laidLooks := .later }
def DisassemblesUptoCardSaid : Prop := Claim7.holds Tryz.pinned (.plain (OpenSpec.upto disassemblesSpec)) disassemblesUptoCard
end Rows
end Go.Proofs.YtnankepcmaoijaaGreatDoor
