/-
  DERIVED. GIVEN WITH THE SEED: THE CARDS: each row of YtnhcaifopaeohaaGreatDoorRows.lean that lists a variable, with what it lists TIED to the program's text (the seventh form; the later family's looks); each row that meets fmt, with fmt's text TOLD by the authors' own Lean function (tested against real Go, not proved from fmt's source: count such statements apart). THE CARD IS WHAT COUNTS. Prove the row's statement (the work); the ties are given (YtnhcaifopaeohaaGreatDoorTie.lean); close each card by the builder's one call (the guide's Derived/Test/ToyasCard.lean, 'card_holds'). Laid BY PROGRAM, IN A SANDBOX (cutbox-door.mjs). By AI agents, Wed Nov 11 2026. No macro, syntax, notation, axiom, sorry.
-/
import Derived.Test.YtnhcaifopaeohaaGreatDoorRows
import GoSem.ClaimSeven
namespace Go.Proofs.YtnhcaifopaeohaaGreatDoor
namespace Rows

/-- THE TIED CARD OF 'spoolkeep.Back'. -/
def backCard : Claim7 := { stood := { row := backRow, standIns := [], harness := (true, "5480c7049904a1c5a68fd0af7a2e68e535ec049645634e5ae874385886d24b6d"), looks := false }, kinds := [], alts := [], laidByText := true, laidKinds := [.data, .data, .data, .data, .data, .pinned], laidTests := true, laidLooks := .later }
def BackCardSaid : Prop := Claim7.holds Tryz.pinned (.plain (OpenSpec.ofChange backSpec)) backCard

/-- THE TIED CARD OF 'spoolkeep.Forth'. -/
def forthCard : Claim7 := { stood := { row := forthRow, standIns := [], harness := (true, "5480c7049904a1c5a68fd0af7a2e68e535ec049645634e5ae874385886d24b6d"), looks := false }, kinds := [], alts := [], laidByText := true, laidKinds := [.data, .data, .data, .data, .data, .pinned], laidTests := true, laidLooks := .later }
def ForthCardSaid : Prop := Claim7.holds Tryz.pinned (.plain (OpenSpec.ofChange forthSpec)) forthCard

/-- THE TIED CARD OF 'spoolkeep.Mixed'. -/
def mixedCard : Claim7 := { stood := { row := mixedRow, standIns := [], harness := (true, "5480c7049904a1c5a68fd0af7a2e68e535ec049645634e5ae874385886d24b6d"), looks := false }, kinds := [], alts := [], laidByText := true, laidKinds := [.data, .data, .data, .data, .data, .pinned], laidTests := true, laidLooks := .later }
def MixedCardSaid : Prop := Claim7.holds Tryz.pinned (.plain (OpenSpec.ofChange mixedSpec)) mixedCard

/-- THE SECOND FORM's CARD OF 'spoolkeep.Back'. -/
def backUptoCard : Claim7 := { stood := { row := backUptoRow, standIns := [], harness := (true, "5480c7049904a1c5a68fd0af7a2e68e535ec049645634e5ae874385886d24b6d"), looks := false }, kinds := [], alts := [], laidByText := true, laidKinds := [.data, .data, .data, .data, .data, .pinned], laidTests := true, laidLooks := .later }
def BackUptoCardSaid : Prop := Claim7.holds Tryz.pinned (.plain (OpenSpec.upto backSpec)) backUptoCard

/-- THE SECOND FORM's CARD OF 'spoolkeep.Forth'. -/
def forthUptoCard : Claim7 := { stood := { row := forthUptoRow, standIns := [], harness := (true, "5480c7049904a1c5a68fd0af7a2e68e535ec049645634e5ae874385886d24b6d"), looks := false }, kinds := [], alts := [], laidByText := true, laidKinds := [.data, .data, .data, .data, .data, .pinned], laidTests := true, laidLooks := .later }
def ForthUptoCardSaid : Prop := Claim7.holds Tryz.pinned (.plain (OpenSpec.upto forthSpec)) forthUptoCard

/-- THE SECOND FORM's CARD OF 'spoolkeep.Mixed'. -/
def mixedUptoCard : Claim7 := { stood := { row := mixedUptoRow, standIns := [], harness := (true, "5480c7049904a1c5a68fd0af7a2e68e535ec049645634e5ae874385886d24b6d"), looks := false }, kinds := [], alts := [], laidByText := true, laidKinds := [.data, .data, .data, .data, .data, .pinned], laidTests := true, laidLooks := .later }
def MixedUptoCardSaid : Prop := Claim7.holds Tryz.pinned (.plain (OpenSpec.upto mixedSpec)) mixedUptoCard
end Rows
end Go.Proofs.YtnhcaifopaeohaaGreatDoor
