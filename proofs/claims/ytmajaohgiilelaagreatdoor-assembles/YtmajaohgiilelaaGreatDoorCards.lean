/-
  DERIVED. GIVEN WITH THE SEED: THE CARDS: each row of YtmajaohgiilelaaGreatDoorRows.lean that lists a variable, with what it lists TIED to the program's text (the seventh form; the later family's looks); each row that meets fmt, with fmt's text TOLD by the authors' own Lean function (tested against real Go, not proved from fmt's source: count such statements apart). THE CARD IS WHAT COUNTS. Prove the row's statement (the work); the ties are given (YtmajaohgiilelaaGreatDoorTie.lean); close each card by the builder's one call (the guide's Derived/Test/ToyasCard.lean, 'card_holds'). Laid BY PROGRAM, IN A SANDBOX (cutbox-door.mjs). By AI agents, Wed Nov 11 2026. No macro, syntax, notation, axiom, sorry.
-/
import Derived.Test.YtmajaohgiilelaaGreatDoorRows
import GoSem.ClaimSeven
namespace Go.Proofs.YtmajaohgiilelaaGreatDoor
namespace Rows

/-- THE TIED CARD OF 'spoollaw.Assembles'. -/
def assemblesCard : Claim7 := { stood := { row := assemblesRow, standIns := [], harness := (true, "e983ccb453a83ff8bdac48589170941ec65ff50f0fdc92b20d46ee4661ee18aa"), looks := false }, kinds := [], alts := [], laidByText := true, laidKinds := [.data, .data, .data, .data, .data, .pinned], laidTests := true, laidLooks := .later }
def AssemblesCardSaid : Prop := Claim7.holds Tryz.pinned (.plain (OpenSpec.ofChange assemblesSpec)) assemblesCard

/-- THE SECOND FORM's CARD OF 'spoollaw.Assembles'. -/
def assemblesUptoCard : Claim7 := { stood := { row := assemblesUptoRow, standIns := [], harness := (true, "e983ccb453a83ff8bdac48589170941ec65ff50f0fdc92b20d46ee4661ee18aa"), looks := false }, kinds := [], alts := [], laidByText := true, laidKinds := [.data, .data, .data, .data, .data, .pinned], laidTests := true, laidLooks := .later }
def AssemblesUptoCardSaid : Prop := Claim7.holds Tryz.pinned (.plain (OpenSpec.upto assemblesSpec)) assemblesUptoCard
end Rows
end Go.Proofs.YtmajaohgiilelaaGreatDoor
