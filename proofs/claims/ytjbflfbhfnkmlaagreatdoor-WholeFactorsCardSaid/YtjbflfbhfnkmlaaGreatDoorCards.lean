/-
  DERIVED. GIVEN WITH THE SEED: THE CARDS: each row of YtjbflfbhfnkmlaaGreatDoorRows.lean that lists a variable, with what it lists TIED to the program's text (the seventh form; the later family's looks); each row that meets fmt, with fmt's text TOLD by the authors' own Lean function (tested against real Go, not proved from fmt's source: count such statements apart). THE CARD IS WHAT COUNTS. Prove the row's statement (the work); the ties are given (YtjbflfbhfnkmlaaGreatDoorTie.lean); close each card by the builder's one call (the guide's Derived/Test/ToyasCard.lean, 'card_holds'). Laid BY PROGRAM, IN A SANDBOX (cutbox-door.mjs). By AI agents, Wed Nov 11 2026. No macro, syntax, notation, axiom, sorry.
-/
import Derived.Test.YtjbflfbhfnkmlaaGreatDoorRows
import GoSem.ClaimSeven
namespace Go.Proofs.YtjbflfbhfnkmlaaGreatDoor
namespace Rows

/-- THE TIED CARD OF 'metewandlaw01.WholeDivides'. -/
def wholeDividesCard : Claim7 := { stood := { row := wholeDividesRow, standIns := [], harness := (true, "5b636d659ad764ac209590d385bf5e8b437e903c6188f89a6830ee7befcd27eb"), looks := true }, kinds := [], alts := [], goes := true, laidByText := true, laidKinds := [.data, .data, .data, .handle], laidTests := true, laidLooks := .later }
def WholeDividesCardSaid : Prop := Claim7.holds Tryz.pinned (.plain (OpenSpec.ofChange wholeDividesSpec)) wholeDividesCard

/-- THE TIED CARD OF 'metewandlaw01.WholeGcds'. -/
def wholeGcdsCard : Claim7 := { stood := { row := wholeGcdsRow, standIns := [], harness := (true, "5b636d659ad764ac209590d385bf5e8b437e903c6188f89a6830ee7befcd27eb"), looks := true }, kinds := [], alts := [], goes := true, laidByText := true, laidKinds := [.data, .data, .data, .handle], laidTests := true, laidLooks := .later }
def WholeGcdsCardSaid : Prop := Claim7.holds Tryz.pinned (.plain (OpenSpec.ofChange wholeGcdsSpec)) wholeGcdsCard

/-- THE TIED CARD OF 'metewandlaw01.WholeBases'. -/
def wholeBasesCard : Claim7 := { stood := { row := wholeBasesRow, standIns := [], harness := (true, "5b636d659ad764ac209590d385bf5e8b437e903c6188f89a6830ee7befcd27eb"), looks := true }, kinds := [], alts := [], goes := true, laidByText := true, laidKinds := [.data, .data, .data, .handle], laidTests := true, laidLooks := .later }
def WholeBasesCardSaid : Prop := Claim7.holds Tryz.pinned (.plain (OpenSpec.ofChange wholeBasesSpec)) wholeBasesCard

/-- THE TIED CARD OF 'metewandlaw01.WholeFactors'. -/
def wholeFactorsCard : Claim7 := { stood := { row := wholeFactorsRow, standIns := [], harness := (true, "5b636d659ad764ac209590d385bf5e8b437e903c6188f89a6830ee7befcd27eb"), looks := true }, kinds := [], alts := [], goes := true, laidByText := true, laidKinds := [.data, .data, .data, .handle], laidTests := true, laidLooks := .later }
def WholeFactorsCardSaid : Prop := Claim7.holds Tryz.pinned (.plain (OpenSpec.ofChange wholeFactorsSpec)) wholeFactorsCard

/-- THE TIED CARD OF 'metewandlaw01.WholeRing'. -/
def wholeRingCard : Claim7 := { stood := { row := wholeRingRow, standIns := [], harness := (true, "5b636d659ad764ac209590d385bf5e8b437e903c6188f89a6830ee7befcd27eb"), looks := true }, kinds := [], alts := [], goes := true, laidByText := true, laidKinds := [.data, .data, .data, .handle], laidTests := true, laidLooks := .later }
def WholeRingCardSaid : Prop := Claim7.holds Tryz.pinned (.plain (OpenSpec.ofChange wholeRingSpec)) wholeRingCard

/-- THE TIED CARD OF 'metewandlaw01.WholeDivision'. -/
def wholeDivisionCard : Claim7 := { stood := { row := wholeDivisionRow, standIns := [], harness := (true, "5b636d659ad764ac209590d385bf5e8b437e903c6188f89a6830ee7befcd27eb"), looks := true }, kinds := [], alts := [], goes := true, laidByText := true, laidKinds := [.data, .data, .data, .handle], laidTests := true, laidLooks := .later }
def WholeDivisionCardSaid : Prop := Claim7.holds Tryz.pinned (.plain (OpenSpec.ofChange wholeDivisionSpec)) wholeDivisionCard

/-- THE TIED CARD OF 'metewandlaw01.WholeOrder'. -/
def wholeOrderCard : Claim7 := { stood := { row := wholeOrderRow, standIns := [], harness := (true, "5b636d659ad764ac209590d385bf5e8b437e903c6188f89a6830ee7befcd27eb"), looks := true }, kinds := [], alts := [], goes := true, laidByText := true, laidKinds := [.data, .data, .data, .handle], laidTests := true, laidLooks := .later }
def WholeOrderCardSaid : Prop := Claim7.holds Tryz.pinned (.plain (OpenSpec.ofChange wholeOrderSpec)) wholeOrderCard

/-- THE TIED CARD OF 'metewandlaw01.WholeDivisor'. -/
def wholeDivisorCard : Claim7 := { stood := { row := wholeDivisorRow, standIns := [], harness := (true, "5b636d659ad764ac209590d385bf5e8b437e903c6188f89a6830ee7befcd27eb"), looks := true }, kinds := [], alts := [], goes := true, laidByText := true, laidKinds := [.data, .data, .data, .handle], laidTests := true, laidLooks := .later }
def WholeDivisorCardSaid : Prop := Claim7.holds Tryz.pinned (.plain (OpenSpec.ofChange wholeDivisorSpec)) wholeDivisorCard

/-- THE TIED CARD OF 'metewandlaw01.WholePower'. -/
def wholePowerCard : Claim7 := { stood := { row := wholePowerRow, standIns := [], harness := (true, "5b636d659ad764ac209590d385bf5e8b437e903c6188f89a6830ee7befcd27eb"), looks := true }, kinds := [], alts := [], goes := true, laidByText := true, laidKinds := [.data, .data, .data, .handle], laidTests := true, laidLooks := .later }
def WholePowerCardSaid : Prop := Claim7.holds Tryz.pinned (.plain (OpenSpec.ofChange wholePowerSpec)) wholePowerCard

/-- THE TIED CARD OF 'metewandlaw01.WholeRooted'. -/
def wholeRootedCard : Claim7 := { stood := { row := wholeRootedRow, standIns := [], harness := (true, "5b636d659ad764ac209590d385bf5e8b437e903c6188f89a6830ee7befcd27eb"), looks := true }, kinds := [], alts := [], goes := true, laidByText := true, laidKinds := [.data, .data, .data, .handle], laidTests := true, laidLooks := .later }
def WholeRootedCardSaid : Prop := Claim7.holds Tryz.pinned (.plain (OpenSpec.ofChange wholeRootedSpec)) wholeRootedCard

/-- THE TIED CARD OF 'metewandlaw01.WholeDigits'. -/
def wholeDigitsCard : Claim7 := { stood := { row := wholeDigitsRow, standIns := [], harness := (true, "5b636d659ad764ac209590d385bf5e8b437e903c6188f89a6830ee7befcd27eb"), looks := true }, kinds := [], alts := [], goes := true, laidByText := true, laidKinds := [.data, .data, .data, .handle], laidTests := true, laidLooks := .later }
def WholeDigitsCardSaid : Prop := Claim7.holds Tryz.pinned (.plain (OpenSpec.ofChange wholeDigitsSpec)) wholeDigitsCard

/-- THE TIED CARD OF 'metewandlaw01.WholePrimes'. -/
def wholePrimesCard : Claim7 := { stood := { row := wholePrimesRow, standIns := [], harness := (true, "5b636d659ad764ac209590d385bf5e8b437e903c6188f89a6830ee7befcd27eb"), looks := true }, kinds := [], alts := [], goes := true, laidByText := true, laidKinds := [.data, .data, .data, .handle], laidTests := true, laidLooks := .later }
def WholePrimesCardSaid : Prop := Claim7.holds Tryz.pinned (.plain (OpenSpec.ofChange wholePrimesSpec)) wholePrimesCard

/-- THE SECOND FORM's CARD OF 'metewandlaw01.WholeDivides'. -/
def wholeDividesUptoCard : Claim7 := { stood := { row := wholeDividesUptoRow, standIns := [], harness := (true, "5b636d659ad764ac209590d385bf5e8b437e903c6188f89a6830ee7befcd27eb"), looks := true }, kinds := [], alts := [], goes := true, laidByText := true, laidKinds := [.data, .data, .data, .handle], laidTests := true, laidLooks := .later }
def WholeDividesUptoCardSaid : Prop := Claim7.holds Tryz.pinned (.plain (OpenSpec.upto wholeDividesSpec)) wholeDividesUptoCard

/-- THE SECOND FORM's CARD OF 'metewandlaw01.WholeGcds'. -/
def wholeGcdsUptoCard : Claim7 := { stood := { row := wholeGcdsUptoRow, standIns := [], harness := (true, "5b636d659ad764ac209590d385bf5e8b437e903c6188f89a6830ee7befcd27eb"), looks := true }, kinds := [], alts := [], goes := true, laidByText := true, laidKinds := [.data, .data, .data, .handle], laidTests := true, laidLooks := .later }
def WholeGcdsUptoCardSaid : Prop := Claim7.holds Tryz.pinned (.plain (OpenSpec.upto wholeGcdsSpec)) wholeGcdsUptoCard

/-- THE SECOND FORM's CARD OF 'metewandlaw01.WholeBases'. -/
def wholeBasesUptoCard : Claim7 := { stood := { row := wholeBasesUptoRow, standIns := [], harness := (true, "5b636d659ad764ac209590d385bf5e8b437e903c6188f89a6830ee7befcd27eb"), looks := true }, kinds := [], alts := [], goes := true, laidByText := true, laidKinds := [.data, .data, .data, .handle], laidTests := true, laidLooks := .later }
def WholeBasesUptoCardSaid : Prop := Claim7.holds Tryz.pinned (.plain (OpenSpec.upto wholeBasesSpec)) wholeBasesUptoCard

/-- THE SECOND FORM's CARD OF 'metewandlaw01.WholeFactors'. -/
def wholeFactorsUptoCard : Claim7 := { stood := { row := wholeFactorsUptoRow, standIns := [], harness := (true, "5b636d659ad764ac209590d385bf5e8b437e903c6188f89a6830ee7befcd27eb"), looks := true }, kinds := [], alts := [], goes := true, laidByText := true, laidKinds := [.data, .data, .data, .handle], laidTests := true, laidLooks := .later }
def WholeFactorsUptoCardSaid : Prop := Claim7.holds Tryz.pinned (.plain (OpenSpec.upto wholeFactorsSpec)) wholeFactorsUptoCard

/-- THE SECOND FORM's CARD OF 'metewandlaw01.WholeRing'. -/
def wholeRingUptoCard : Claim7 := { stood := { row := wholeRingUptoRow, standIns := [], harness := (true, "5b636d659ad764ac209590d385bf5e8b437e903c6188f89a6830ee7befcd27eb"), looks := true }, kinds := [], alts := [], goes := true, laidByText := true, laidKinds := [.data, .data, .data, .handle], laidTests := true, laidLooks := .later }
def WholeRingUptoCardSaid : Prop := Claim7.holds Tryz.pinned (.plain (OpenSpec.upto wholeRingSpec)) wholeRingUptoCard

/-- THE SECOND FORM's CARD OF 'metewandlaw01.WholeDivision'. -/
def wholeDivisionUptoCard : Claim7 := { stood := { row := wholeDivisionUptoRow, standIns := [], harness := (true, "5b636d659ad764ac209590d385bf5e8b437e903c6188f89a6830ee7befcd27eb"), looks := true }, kinds := [], alts := [], goes := true, laidByText := true, laidKinds := [.data, .data, .data, .handle], laidTests := true, laidLooks := .later }
def WholeDivisionUptoCardSaid : Prop := Claim7.holds Tryz.pinned (.plain (OpenSpec.upto wholeDivisionSpec)) wholeDivisionUptoCard

/-- THE SECOND FORM's CARD OF 'metewandlaw01.WholeOrder'. -/
def wholeOrderUptoCard : Claim7 := { stood := { row := wholeOrderUptoRow, standIns := [], harness := (true, "5b636d659ad764ac209590d385bf5e8b437e903c6188f89a6830ee7befcd27eb"), looks := true }, kinds := [], alts := [], goes := true, laidByText := true, laidKinds := [.data, .data, .data, .handle], laidTests := true, laidLooks := .later }
def WholeOrderUptoCardSaid : Prop := Claim7.holds Tryz.pinned (.plain (OpenSpec.upto wholeOrderSpec)) wholeOrderUptoCard

/-- THE SECOND FORM's CARD OF 'metewandlaw01.WholeDivisor'. -/
def wholeDivisorUptoCard : Claim7 := { stood := { row := wholeDivisorUptoRow, standIns := [], harness := (true, "5b636d659ad764ac209590d385bf5e8b437e903c6188f89a6830ee7befcd27eb"), looks := true }, kinds := [], alts := [], goes := true, laidByText := true, laidKinds := [.data, .data, .data, .handle], laidTests := true, laidLooks := .later }
def WholeDivisorUptoCardSaid : Prop := Claim7.holds Tryz.pinned (.plain (OpenSpec.upto wholeDivisorSpec)) wholeDivisorUptoCard

/-- THE SECOND FORM's CARD OF 'metewandlaw01.WholePower'. -/
def wholePowerUptoCard : Claim7 := { stood := { row := wholePowerUptoRow, standIns := [], harness := (true, "5b636d659ad764ac209590d385bf5e8b437e903c6188f89a6830ee7befcd27eb"), looks := true }, kinds := [], alts := [], goes := true, laidByText := true, laidKinds := [.data, .data, .data, .handle], laidTests := true, laidLooks := .later }
def WholePowerUptoCardSaid : Prop := Claim7.holds Tryz.pinned (.plain (OpenSpec.upto wholePowerSpec)) wholePowerUptoCard

/-- THE SECOND FORM's CARD OF 'metewandlaw01.WholeRooted'. -/
def wholeRootedUptoCard : Claim7 := { stood := { row := wholeRootedUptoRow, standIns := [], harness := (true, "5b636d659ad764ac209590d385bf5e8b437e903c6188f89a6830ee7befcd27eb"), looks := true }, kinds := [], alts := [], goes := true, laidByText := true, laidKinds := [.data, .data, .data, .handle], laidTests := true, laidLooks := .later }
def WholeRootedUptoCardSaid : Prop := Claim7.holds Tryz.pinned (.plain (OpenSpec.upto wholeRootedSpec)) wholeRootedUptoCard

/-- THE SECOND FORM's CARD OF 'metewandlaw01.WholeDigits'. -/
def wholeDigitsUptoCard : Claim7 := { stood := { row := wholeDigitsUptoRow, standIns := [], harness := (true, "5b636d659ad764ac209590d385bf5e8b437e903c6188f89a6830ee7befcd27eb"), looks := true }, kinds := [], alts := [], goes := true, laidByText := true, laidKinds := [.data, .data, .data, .handle], laidTests := true, laidLooks := .later }
def WholeDigitsUptoCardSaid : Prop := Claim7.holds Tryz.pinned (.plain (OpenSpec.upto wholeDigitsSpec)) wholeDigitsUptoCard

/-- THE SECOND FORM's CARD OF 'metewandlaw01.WholePrimes'. -/
def wholePrimesUptoCard : Claim7 := { stood := { row := wholePrimesUptoRow, standIns := [], harness := (true, "5b636d659ad764ac209590d385bf5e8b437e903c6188f89a6830ee7befcd27eb"), looks := true }, kinds := [], alts := [], goes := true, laidByText := true, laidKinds := [.data, .data, .data, .handle], laidTests := true, laidLooks := .later }
def WholePrimesUptoCardSaid : Prop := Claim7.holds Tryz.pinned (.plain (OpenSpec.upto wholePrimesSpec)) wholePrimesUptoCard
end Rows
end Go.Proofs.YtjbflfbhfnkmlaaGreatDoor
