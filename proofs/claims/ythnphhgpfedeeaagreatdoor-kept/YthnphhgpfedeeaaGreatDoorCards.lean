/-
  DERIVED. GIVEN WITH THE SEED: THE CARDS: each row of YthnphhgpfedeeaaGreatDoorRows.lean that lists a variable, with what it lists TIED to the program's text (the seventh form; the later family's looks); each row that meets fmt, with fmt's text TOLD by the authors' own Lean function (tested against real Go, not proved from fmt's source: count such statements apart). THE CARD IS WHAT COUNTS. Prove the row's statement (the work); the ties are given (YthnphhgpfedeeaaGreatDoorTie.lean); close each card by the builder's one call (the guide's Derived/Test/ToyasCard.lean, 'card_holds'). Laid BY PROGRAM, IN A SANDBOX (cutbox-door.mjs). By AI agents, Wed Nov 11 2026. No macro, syntax, notation, axiom, sorry.
-/
import Derived.Test.YthnphhgpfedeeaaGreatDoorRows
import GoSem.ClaimSeven
namespace Go.Proofs.YthnphhgpfedeeaaGreatDoor
namespace Rows

/-- THE TIED CARD OF 'spoolkeep.Reckoned'. -/
def reckonedCard : Claim7 := { stood := { row := reckonedRow, standIns := [], harness := (true, "8cc621124526fafe3ab389b3adb25f3e05a6fcbd24d7df758c0df6d98b5e5ef9"), looks := true }, kinds := [], alts := [], laidByText := true, laidKinds := [.data, .data, .data, .data, .data, .pinned], laidTests := true, laidLooks := .later }
def ReckonedCardSaid : Prop := Claim7.holds Tryz.pinned (.plain (OpenSpec.ofChange reckonedSpec)) reckonedCard

/-- THE TIED CARD OF 'spoolkeep.Kept'. -/
def keptCard : Claim7 := { stood := { row := keptRow, standIns := [], harness := (true, "8cc621124526fafe3ab389b3adb25f3e05a6fcbd24d7df758c0df6d98b5e5ef9"), looks := true }, kinds := [], alts := [], laidByText := true, laidKinds := [.data, .data, .data, .data, .data, .pinned], laidTests := true, laidLooks := .later }
def KeptCardSaid : Prop := Claim7.holds Tryz.pinned (.plain (OpenSpec.ofChange keptSpec)) keptCard

/-- THE TIED CARD OF 'spoolkeep.Called'. -/
def calledCard : Claim7 := { stood := { row := calledRow, standIns := [], harness := (true, "8cc621124526fafe3ab389b3adb25f3e05a6fcbd24d7df758c0df6d98b5e5ef9"), looks := true }, kinds := [], alts := [], laidByText := true, laidKinds := [.data, .data, .data, .data, .data, .pinned], laidTests := true, laidLooks := .later }
def CalledCardSaid : Prop := Claim7.holds Tryz.pinned (.plain (OpenSpec.ofChange calledSpec)) calledCard

/-- THE TIED CARD OF 'spoolkeep.Fenced'. -/
def fencedCard : Claim7 := { stood := { row := fencedRow, standIns := [], harness := (true, "8cc621124526fafe3ab389b3adb25f3e05a6fcbd24d7df758c0df6d98b5e5ef9"), looks := true }, kinds := [], alts := [], laidByText := true, laidKinds := [.data, .data, .data, .data, .data, .pinned], laidTests := true, laidLooks := .later }
def FencedCardSaid : Prop := Claim7.holds Tryz.pinned (.plain (OpenSpec.ofChange fencedSpec)) fencedCard

/-- THE SECOND FORM's CARD OF 'spoolkeep.Reckoned'. -/
def reckonedUptoCard : Claim7 := { stood := { row := reckonedUptoRow, standIns := [], harness := (true, "8cc621124526fafe3ab389b3adb25f3e05a6fcbd24d7df758c0df6d98b5e5ef9"), looks := true }, kinds := [], alts := [], laidByText := true, laidKinds := [.data, .data, .data, .data, .data, .pinned], laidTests := true, laidLooks := .later }
def ReckonedUptoCardSaid : Prop := Claim7.holds Tryz.pinned (.plain (OpenSpec.upto reckonedSpec)) reckonedUptoCard

/-- THE SECOND FORM's CARD OF 'spoolkeep.Kept'. -/
def keptUptoCard : Claim7 := { stood := { row := keptUptoRow, standIns := [], harness := (true, "8cc621124526fafe3ab389b3adb25f3e05a6fcbd24d7df758c0df6d98b5e5ef9"), looks := true }, kinds := [], alts := [], laidByText := true, laidKinds := [.data, .data, .data, .data, .data, .pinned], laidTests := true, laidLooks := .later }
def KeptUptoCardSaid : Prop := Claim7.holds Tryz.pinned (.plain (OpenSpec.upto keptSpec)) keptUptoCard

/-- THE SECOND FORM's CARD OF 'spoolkeep.Called'. -/
def calledUptoCard : Claim7 := { stood := { row := calledUptoRow, standIns := [], harness := (true, "8cc621124526fafe3ab389b3adb25f3e05a6fcbd24d7df758c0df6d98b5e5ef9"), looks := true }, kinds := [], alts := [], laidByText := true, laidKinds := [.data, .data, .data, .data, .data, .pinned], laidTests := true, laidLooks := .later }
def CalledUptoCardSaid : Prop := Claim7.holds Tryz.pinned (.plain (OpenSpec.upto calledSpec)) calledUptoCard

/-- THE SECOND FORM's CARD OF 'spoolkeep.Fenced'. -/
def fencedUptoCard : Claim7 := { stood := { row := fencedUptoRow, standIns := [], harness := (true, "8cc621124526fafe3ab389b3adb25f3e05a6fcbd24d7df758c0df6d98b5e5ef9"), looks := true }, kinds := [], alts := [], laidByText := true, laidKinds := [.data, .data, .data, .data, .data, .pinned], laidTests := true, laidLooks := .later }
def FencedUptoCardSaid : Prop := Claim7.holds Tryz.pinned (.plain (OpenSpec.upto fencedSpec)) fencedUptoCard
end Rows
end Go.Proofs.YthnphhgpfedeeaaGreatDoor
