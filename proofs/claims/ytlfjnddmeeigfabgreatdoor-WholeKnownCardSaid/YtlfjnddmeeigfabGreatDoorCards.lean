/-
  DERIVED. GIVEN WITH THE SEED: THE CARDS: each row of YtlfjnddmeeigfabGreatDoorRows.lean that lists a variable, with what it lists TIED to the program's text (the seventh form; the later family's looks); each row that meets fmt, with fmt's text TOLD by the authors' own Lean function (tested against real Go, not proved from fmt's source: count such statements apart). THE CARD IS WHAT COUNTS. Prove the row's statement (the work); the ties are given (YtlfjnddmeeigfabGreatDoorTie.lean); close each card by the builder's one call (the guide's Derived/Test/ToyasCard.lean, 'card_holds'). Laid BY PROGRAM, IN A SANDBOX (cutbox-door.mjs). By AI agents, Wed Nov 11 2026. No macro, syntax, notation, axiom, sorry.
-/
import Derived.Test.YtlfjnddmeeigfabGreatDoorRows
import GoSem.ClaimSeven
namespace Go.Proofs.YtlfjnddmeeigfabGreatDoor
namespace Rows

/-- THE TIED CARD OF 'metewandlaw01.WholeKnown'. -/
def wholeKnownCard : Claim7 := { stood := { row := wholeKnownRow, standIns := [], harness := (true, "9132f0683af877b3cbcf4e311d39ee6b09df825ff83203574b54f12e2ded4c13"), looks := true }, kinds := [], alts := [], goes := true, laidByText := true, laidKinds := [.data, .data, .data, .handle], laidTests := true, laidLooks := .later }
def WholeKnownCardSaid : Prop := Claim7.holds Tryz.pinned (.plain (OpenSpec.ofChange wholeKnownSpec)) wholeKnownCard

/-- THE TIED CARD OF 'metewandlaw01.WholeRing'. -/
def wholeRingCard : Claim7 := { stood := { row := wholeRingRow, standIns := [], harness := (true, "9132f0683af877b3cbcf4e311d39ee6b09df825ff83203574b54f12e2ded4c13"), looks := true }, kinds := [], alts := [], goes := true, laidByText := true, laidKinds := [.data, .data, .data, .handle], laidTests := true, laidLooks := .later }
def WholeRingCardSaid : Prop := Claim7.holds Tryz.pinned (.plain (OpenSpec.ofChange wholeRingSpec)) wholeRingCard

/-- THE TIED CARD OF 'metewandlaw01.WholeDivision'. -/
def wholeDivisionCard : Claim7 := { stood := { row := wholeDivisionRow, standIns := [], harness := (true, "9132f0683af877b3cbcf4e311d39ee6b09df825ff83203574b54f12e2ded4c13"), looks := true }, kinds := [], alts := [], goes := true, laidByText := true, laidKinds := [.data, .data, .data, .handle], laidTests := true, laidLooks := .later }
def WholeDivisionCardSaid : Prop := Claim7.holds Tryz.pinned (.plain (OpenSpec.ofChange wholeDivisionSpec)) wholeDivisionCard

/-- THE TIED CARD OF 'metewandlaw01.WholeOrder'. -/
def wholeOrderCard : Claim7 := { stood := { row := wholeOrderRow, standIns := [], harness := (true, "9132f0683af877b3cbcf4e311d39ee6b09df825ff83203574b54f12e2ded4c13"), looks := true }, kinds := [], alts := [], goes := true, laidByText := true, laidKinds := [.data, .data, .data, .handle], laidTests := true, laidLooks := .later }
def WholeOrderCardSaid : Prop := Claim7.holds Tryz.pinned (.plain (OpenSpec.ofChange wholeOrderSpec)) wholeOrderCard

/-- THE TIED CARD OF 'metewandlaw01.WholeDivisor'. -/
def wholeDivisorCard : Claim7 := { stood := { row := wholeDivisorRow, standIns := [], harness := (true, "9132f0683af877b3cbcf4e311d39ee6b09df825ff83203574b54f12e2ded4c13"), looks := true }, kinds := [], alts := [], goes := true, laidByText := true, laidKinds := [.data, .data, .data, .handle], laidTests := true, laidLooks := .later }
def WholeDivisorCardSaid : Prop := Claim7.holds Tryz.pinned (.plain (OpenSpec.ofChange wholeDivisorSpec)) wholeDivisorCard

/-- THE TIED CARD OF 'metewandlaw01.WholePower'. -/
def wholePowerCard : Claim7 := { stood := { row := wholePowerRow, standIns := [], harness := (true, "9132f0683af877b3cbcf4e311d39ee6b09df825ff83203574b54f12e2ded4c13"), looks := true }, kinds := [], alts := [], goes := true, laidByText := true, laidKinds := [.data, .data, .data, .handle], laidTests := true, laidLooks := .later }
def WholePowerCardSaid : Prop := Claim7.holds Tryz.pinned (.plain (OpenSpec.ofChange wholePowerSpec)) wholePowerCard

/-- THE SECOND FORM's CARD OF 'metewandlaw01.WholeKnown'. -/
def wholeKnownUptoCard : Claim7 := { stood := { row := wholeKnownUptoRow, standIns := [], harness := (true, "9132f0683af877b3cbcf4e311d39ee6b09df825ff83203574b54f12e2ded4c13"), looks := true }, kinds := [], alts := [], goes := true, laidByText := true, laidKinds := [.data, .data, .data, .handle], laidTests := true, laidLooks := .later }
def WholeKnownUptoCardSaid : Prop := Claim7.holds Tryz.pinned (.plain (OpenSpec.upto wholeKnownSpec)) wholeKnownUptoCard

/-- THE SECOND FORM's CARD OF 'metewandlaw01.WholeRing'. -/
def wholeRingUptoCard : Claim7 := { stood := { row := wholeRingUptoRow, standIns := [], harness := (true, "9132f0683af877b3cbcf4e311d39ee6b09df825ff83203574b54f12e2ded4c13"), looks := true }, kinds := [], alts := [], goes := true, laidByText := true, laidKinds := [.data, .data, .data, .handle], laidTests := true, laidLooks := .later }
def WholeRingUptoCardSaid : Prop := Claim7.holds Tryz.pinned (.plain (OpenSpec.upto wholeRingSpec)) wholeRingUptoCard

/-- THE SECOND FORM's CARD OF 'metewandlaw01.WholeDivision'. -/
def wholeDivisionUptoCard : Claim7 := { stood := { row := wholeDivisionUptoRow, standIns := [], harness := (true, "9132f0683af877b3cbcf4e311d39ee6b09df825ff83203574b54f12e2ded4c13"), looks := true }, kinds := [], alts := [], goes := true, laidByText := true, laidKinds := [.data, .data, .data, .handle], laidTests := true, laidLooks := .later }
def WholeDivisionUptoCardSaid : Prop := Claim7.holds Tryz.pinned (.plain (OpenSpec.upto wholeDivisionSpec)) wholeDivisionUptoCard

/-- THE SECOND FORM's CARD OF 'metewandlaw01.WholeOrder'. -/
def wholeOrderUptoCard : Claim7 := { stood := { row := wholeOrderUptoRow, standIns := [], harness := (true, "9132f0683af877b3cbcf4e311d39ee6b09df825ff83203574b54f12e2ded4c13"), looks := true }, kinds := [], alts := [], goes := true, laidByText := true, laidKinds := [.data, .data, .data, .handle], laidTests := true, laidLooks := .later }
def WholeOrderUptoCardSaid : Prop := Claim7.holds Tryz.pinned (.plain (OpenSpec.upto wholeOrderSpec)) wholeOrderUptoCard

/-- THE SECOND FORM's CARD OF 'metewandlaw01.WholeDivisor'. -/
def wholeDivisorUptoCard : Claim7 := { stood := { row := wholeDivisorUptoRow, standIns := [], harness := (true, "9132f0683af877b3cbcf4e311d39ee6b09df825ff83203574b54f12e2ded4c13"), looks := true }, kinds := [], alts := [], goes := true, laidByText := true, laidKinds := [.data, .data, .data, .handle], laidTests := true, laidLooks := .later }
def WholeDivisorUptoCardSaid : Prop := Claim7.holds Tryz.pinned (.plain (OpenSpec.upto wholeDivisorSpec)) wholeDivisorUptoCard

/-- THE SECOND FORM's CARD OF 'metewandlaw01.WholePower'. -/
def wholePowerUptoCard : Claim7 := { stood := { row := wholePowerUptoRow, standIns := [], harness := (true, "9132f0683af877b3cbcf4e311d39ee6b09df825ff83203574b54f12e2ded4c13"), looks := true }, kinds := [], alts := [], goes := true, laidByText := true, laidKinds := [.data, .data, .data, .handle], laidTests := true, laidLooks := .later }
def WholePowerUptoCardSaid : Prop := Claim7.holds Tryz.pinned (.plain (OpenSpec.upto wholePowerSpec)) wholePowerUptoCard
end Rows
end Go.Proofs.YtlfjnddmeeigfabGreatDoor
