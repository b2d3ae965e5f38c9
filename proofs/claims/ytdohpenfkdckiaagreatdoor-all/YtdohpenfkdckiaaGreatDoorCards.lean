/-
  DERIVED. GIVEN WITH THE SEED: THE CARDS: each row of YtdohpenfkdckiaaGreatDoorRows.lean that lists a variable, with what it lists TIED to the program's text (the seventh form; the later family's looks); each row that meets fmt, with fmt's text TOLD by the authors' own Lean function (tested against real Go, not proved from fmt's source: count such statements apart). THE CARD IS WHAT COUNTS. Prove the row's statement (the work); the ties are given (YtdohpenfkdckiaaGreatDoorTie.lean); close each card by the builder's one call (the guide's Derived/Test/ToyasCard.lean, 'card_holds'). Laid BY PROGRAM, IN A SANDBOX (cutbox-door.mjs). By AI agents, Wed Nov 11 2026. No macro, syntax, notation, axiom, sorry.
-/
import Derived.Test.YtdohpenfkdckiaaGreatDoorRows
import GoSem.ClaimSeven
namespace Go.Proofs.YtdohpenfkdckiaaGreatDoor
namespace Rows

/-- THE TIED CARD OF 'shadowlaw.Opens'. -/
def opensCard : Claim7 := { stood := { row := opensRow, standIns := [], harness := (true, "1e848ab4c43448b03b361a7cb93ee5b0076e0cbf2284902afc8d3cea765f0133"), looks := true }, kinds := [], alts := [], laidByText := true, laidKinds := [.data, .data, .data, .handle], laidTests := true, laidLooks := .later }
def OpensCardSaid : Prop := Claim7.holds Tryz.pinned (.plain (OpenSpec.ofChange opensSpec)) opensCard

/-- THE TIED CARD OF 'shadowlaw.Txns'. -/
def txnsCard : Claim7 := { stood := { row := txnsRow, standIns := [], harness := (true, "1e848ab4c43448b03b361a7cb93ee5b0076e0cbf2284902afc8d3cea765f0133"), looks := true }, kinds := [], alts := [], laidByText := true, laidKinds := [.data, .data, .data, .handle], laidTests := true, laidLooks := .later }
def TxnsCardSaid : Prop := Claim7.holds Tryz.pinned (.plain (OpenSpec.ofChange txnsSpec)) txnsCard

/-- THE TIED CARD OF 'shadowlaw.Moves'. -/
def movesCard : Claim7 := { stood := { row := movesRow, standIns := [], harness := (true, "1e848ab4c43448b03b361a7cb93ee5b0076e0cbf2284902afc8d3cea765f0133"), looks := true }, kinds := [], alts := [], laidByText := true, laidKinds := [.data, .data, .data, .handle], laidTests := true, laidLooks := .later }
def MovesCardSaid : Prop := Claim7.holds Tryz.pinned (.plain (OpenSpec.ofChange movesSpec)) movesCard

/-- THE TIED CARD OF 'shadowlaw.Commits'. -/
def commitsCard : Claim7 := { stood := { row := commitsRow, standIns := [], harness := (true, "1e848ab4c43448b03b361a7cb93ee5b0076e0cbf2284902afc8d3cea765f0133"), looks := true }, kinds := [], alts := [], laidByText := true, laidKinds := [.data, .data, .data, .handle], laidTests := true, laidLooks := .later }
def CommitsCardSaid : Prop := Claim7.holds Tryz.pinned (.plain (OpenSpec.ofChange commitsSpec)) commitsCard

/-- THE TIED CARD OF 'shadowlaw.Crashes'. -/
def crashesCard : Claim7 := { stood := { row := crashesRow, standIns := [], harness := (true, "1e848ab4c43448b03b361a7cb93ee5b0076e0cbf2284902afc8d3cea765f0133"), looks := true }, kinds := [], alts := [], laidByText := true, laidKinds := [.data, .data, .data, .handle], laidTests := true, laidLooks := .later }
def CrashesCardSaid : Prop := Claim7.holds Tryz.pinned (.plain (OpenSpec.ofChange crashesSpec)) crashesCard

/-- THE TIED CARD OF 'shadowlaw.Faults'. -/
def faultsCard : Claim7 := { stood := { row := faultsRow, standIns := [], harness := (true, "1e848ab4c43448b03b361a7cb93ee5b0076e0cbf2284902afc8d3cea765f0133"), looks := true }, kinds := [], alts := [], laidByText := true, laidKinds := [.data, .data, .data, .handle], laidTests := true, laidLooks := .later }
def FaultsCardSaid : Prop := Claim7.holds Tryz.pinned (.plain (OpenSpec.ofChange faultsSpec)) faultsCard

/-- THE TIED CARD OF 'shadowlaw.Spoils'. -/
def spoilsCard : Claim7 := { stood := { row := spoilsRow, standIns := [], harness := (true, "1e848ab4c43448b03b361a7cb93ee5b0076e0cbf2284902afc8d3cea765f0133"), looks := true }, kinds := [], alts := [], laidByText := true, laidKinds := [.data, .data, .data, .handle], laidTests := true, laidLooks := .later }
def SpoilsCardSaid : Prop := Claim7.holds Tryz.pinned (.plain (OpenSpec.ofChange spoilsSpec)) spoilsCard

/-- THE TIED CARD OF 'shadowlaw.All'. -/
def allCard : Claim7 := { stood := { row := allRow, standIns := [], harness := (true, "1e848ab4c43448b03b361a7cb93ee5b0076e0cbf2284902afc8d3cea765f0133"), looks := true }, kinds := [], alts := [], laidByText := true, laidKinds := [.data, .data, .data, .handle], laidTests := true, laidLooks := .later }
def AllCardSaid : Prop := Claim7.holds Tryz.pinned (.plain (OpenSpec.ofChange allSpec)) allCard

/-- THE TIED CARD OF 'shadowkeep.Steps'. -/
def stepsCard : Claim7 := { stood := { row := stepsRow, standIns := [], harness := (true, "1e848ab4c43448b03b361a7cb93ee5b0076e0cbf2284902afc8d3cea765f0133"), looks := true }, kinds := [], alts := [], laidByText := true, laidKinds := [.data, .data, .data, .handle], laidTests := true, laidLooks := .later }
def StepsCardSaid : Prop := Claim7.holds Tryz.pinned (.plain (OpenSpec.ofChange stepsSpec)) stepsCard

/-- THE TIED CARD OF 'shadowkeep.Shots'. -/
def shotsCard : Claim7 := { stood := { row := shotsRow, standIns := [], harness := (true, "1e848ab4c43448b03b361a7cb93ee5b0076e0cbf2284902afc8d3cea765f0133"), looks := true }, kinds := [], alts := [], laidByText := true, laidKinds := [.data, .data, .data, .handle], laidTests := true, laidLooks := .later }
def ShotsCardSaid : Prop := Claim7.holds Tryz.pinned (.plain (OpenSpec.ofChange shotsSpec)) shotsCard

/-- THE TIED CARD OF 'shadowkeep.Aborted'. -/
def abortedCard : Claim7 := { stood := { row := abortedRow, standIns := [], harness := (true, "1e848ab4c43448b03b361a7cb93ee5b0076e0cbf2284902afc8d3cea765f0133"), looks := true }, kinds := [], alts := [], laidByText := true, laidKinds := [.data, .data, .data, .handle], laidTests := true, laidLooks := .later }
def AbortedCardSaid : Prop := Claim7.holds Tryz.pinned (.plain (OpenSpec.ofChange abortedSpec)) abortedCard

/-- THE TIED CARD OF 'shadowkeep.Durable'. -/
def durableCard : Claim7 := { stood := { row := durableRow, standIns := [], harness := (true, "1e848ab4c43448b03b361a7cb93ee5b0076e0cbf2284902afc8d3cea765f0133"), looks := true }, kinds := [], alts := [], laidByText := true, laidKinds := [.data, .data, .data], laidTests := true, laidLooks := .later }
def DurableCardSaid : Prop := Claim7.holds Tryz.pinned (.plain (OpenSpec.ofChange durableSpec)) durableCard

/-- THE SECOND FORM's CARD OF 'shadowlaw.Opens'. -/
def opensUptoCard : Claim7 := { stood := { row := opensUptoRow, standIns := [], harness := (true, "1e848ab4c43448b03b361a7cb93ee5b0076e0cbf2284902afc8d3cea765f0133"), looks := true }, kinds := [], alts := [], laidByText := true, laidKinds := [.data, .data, .data, .handle], laidTests := true, laidLooks := .later }
def OpensUptoCardSaid : Prop := Claim7.holds Tryz.pinned (.plain (OpenSpec.upto opensSpec)) opensUptoCard

/-- THE SECOND FORM's CARD OF 'shadowlaw.Txns'. -/
def txnsUptoCard : Claim7 := { stood := { row := txnsUptoRow, standIns := [], harness := (true, "1e848ab4c43448b03b361a7cb93ee5b0076e0cbf2284902afc8d3cea765f0133"), looks := true }, kinds := [], alts := [], laidByText := true, laidKinds := [.data, .data, .data, .handle], laidTests := true, laidLooks := .later }
def TxnsUptoCardSaid : Prop := Claim7.holds Tryz.pinned (.plain (OpenSpec.upto txnsSpec)) txnsUptoCard

/-- THE SECOND FORM's CARD OF 'shadowlaw.Moves'. -/
def movesUptoCard : Claim7 := { stood := { row := movesUptoRow, standIns := [], harness := (true, "1e848ab4c43448b03b361a7cb93ee5b0076e0cbf2284902afc8d3cea765f0133"), looks := true }, kinds := [], alts := [], laidByText := true, laidKinds := [.data, .data, .data, .handle], laidTests := true, laidLooks := .later }
def MovesUptoCardSaid : Prop := Claim7.holds Tryz.pinned (.plain (OpenSpec.upto movesSpec)) movesUptoCard

/-- THE SECOND FORM's CARD OF 'shadowlaw.Commits'. -/
def commitsUptoCard : Claim7 := { stood := { row := commitsUptoRow, standIns := [], harness := (true, "1e848ab4c43448b03b361a7cb93ee5b0076e0cbf2284902afc8d3cea765f0133"), looks := true }, kinds := [], alts := [], laidByText := true, laidKinds := [.data, .data, .data, .handle], laidTests := true, laidLooks := .later }
def CommitsUptoCardSaid : Prop := Claim7.holds Tryz.pinned (.plain (OpenSpec.upto commitsSpec)) commitsUptoCard

/-- THE SECOND FORM's CARD OF 'shadowlaw.Crashes'. -/
def crashesUptoCard : Claim7 := { stood := { row := crashesUptoRow, standIns := [], harness := (true, "1e848ab4c43448b03b361a7cb93ee5b0076e0cbf2284902afc8d3cea765f0133"), looks := true }, kinds := [], alts := [], laidByText := true, laidKinds := [.data, .data, .data, .handle], laidTests := true, laidLooks := .later }
def CrashesUptoCardSaid : Prop := Claim7.holds Tryz.pinned (.plain (OpenSpec.upto crashesSpec)) crashesUptoCard

/-- THE SECOND FORM's CARD OF 'shadowlaw.Faults'. -/
def faultsUptoCard : Claim7 := { stood := { row := faultsUptoRow, standIns := [], harness := (true, "1e848ab4c43448b03b361a7cb93ee5b0076e0cbf2284902afc8d3cea765f0133"), looks := true }, kinds := [], alts := [], laidByText := true, laidKinds := [.data, .data, .data, .handle], laidTests := true, laidLooks := .later }
def FaultsUptoCardSaid : Prop := Claim7.holds Tryz.pinned (.plain (OpenSpec.upto faultsSpec)) faultsUptoCard

/-- THE SECOND FORM's CARD OF 'shadowlaw.Spoils'. -/
def spoilsUptoCard : Claim7 := { stood := { row := spoilsUptoRow, standIns := [], harness := (true, "1e848ab4c43448b03b361a7cb93ee5b0076e0cbf2284902afc8d3cea765f0133"), looks := true }, kinds := [], alts := [], laidByText := true, laidKinds := [.data, .data, .data, .handle], laidTests := true, laidLooks := .later }
def SpoilsUptoCardSaid : Prop := Claim7.holds Tryz.pinned (.plain (OpenSpec.upto spoilsSpec)) spoilsUptoCard

/-- THE SECOND FORM's CARD OF 'shadowlaw.All'. -/
def allUptoCard : Claim7 := { stood := { row := allUptoRow, standIns := [], harness := (true, "1e848ab4c43448b03b361a7cb93ee5b0076e0cbf2284902afc8d3cea765f0133"), looks := true }, kinds := [], alts := [], laidByText := true, laidKinds := [.data, .data, .data, .handle], laidTests := true, laidLooks := .later }
def AllUptoCardSaid : Prop := Claim7.holds Tryz.pinned (.plain (OpenSpec.upto allSpec)) allUptoCard

/-- THE SECOND FORM's CARD OF 'shadowkeep.Steps'. -/
def stepsUptoCard : Claim7 := { stood := { row := stepsUptoRow, standIns := [], harness := (true, "1e848ab4c43448b03b361a7cb93ee5b0076e0cbf2284902afc8d3cea765f0133"), looks := true }, kinds := [], alts := [], laidByText := true, laidKinds := [.data, .data, .data, .handle], laidTests := true, laidLooks := .later }
def StepsUptoCardSaid : Prop := Claim7.holds Tryz.pinned (.plain (OpenSpec.upto stepsSpec)) stepsUptoCard

/-- THE SECOND FORM's CARD OF 'shadowkeep.Shots'. -/
def shotsUptoCard : Claim7 := { stood := { row := shotsUptoRow, standIns := [], harness := (true, "1e848ab4c43448b03b361a7cb93ee5b0076e0cbf2284902afc8d3cea765f0133"), looks := true }, kinds := [], alts := [], laidByText := true, laidKinds := [.data, .data, .data, .handle], laidTests := true, laidLooks := .later }
def ShotsUptoCardSaid : Prop := Claim7.holds Tryz.pinned (.plain (OpenSpec.upto shotsSpec)) shotsUptoCard

/-- THE SECOND FORM's CARD OF 'shadowkeep.Aborted'. -/
def abortedUptoCard : Claim7 := { stood := { row := abortedUptoRow, standIns := [], harness := (true, "1e848ab4c43448b03b361a7cb93ee5b0076e0cbf2284902afc8d3cea765f0133"), looks := true }, kinds := [], alts := [], laidByText := true, laidKinds := [.data, .data, .data, .handle], laidTests := true, laidLooks := .later }
def AbortedUptoCardSaid : Prop := Claim7.holds Tryz.pinned (.plain (OpenSpec.upto abortedSpec)) abortedUptoCard

/-- THE SECOND FORM's CARD OF 'shadowkeep.Durable'. -/
def durableUptoCard : Claim7 := { stood := { row := durableUptoRow, standIns := [], harness := (true, "1e848ab4c43448b03b361a7cb93ee5b0076e0cbf2284902afc8d3cea765f0133"), looks := true }, kinds := [], alts := [], laidByText := true, laidKinds := [.data, .data, .data], laidTests := true, laidLooks := .later }
def DurableUptoCardSaid : Prop := Claim7.holds Tryz.pinned (.plain (OpenSpec.upto durableSpec)) durableUptoCard
end Rows
end Go.Proofs.YtdohpenfkdckiaaGreatDoor
