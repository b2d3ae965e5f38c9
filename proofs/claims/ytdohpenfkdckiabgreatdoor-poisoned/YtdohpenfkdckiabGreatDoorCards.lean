/-
  DERIVED. GIVEN WITH THE SEED: THE CARDS: each row of YtdohpenfkdckiabGreatDoorRows.lean that lists a variable, with what it lists TIED to the program's text (the seventh form; the later family's looks); each row that meets fmt, with fmt's text TOLD by the authors' own Lean function (tested against real Go, not proved from fmt's source: count such statements apart). THE CARD IS WHAT COUNTS. Prove the row's statement (the work); the ties are given (YtdohpenfkdckiabGreatDoorTie.lean); close each card by the builder's one call (the guide's Derived/Test/ToyasCard.lean, 'card_holds'). Laid BY PROGRAM, IN A SANDBOX (cutbox-door.mjs). By AI agents, Wed Nov 11 2026. No macro, syntax, notation, axiom, sorry.
-/
import Derived.Test.YtdohpenfkdckiabGreatDoorRows
import GoSem.ClaimSeven
namespace Go.Proofs.YtdohpenfkdckiabGreatDoor
namespace Rows

/-- THE TIED CARD OF 'shadowkeep.Either'. -/
def eitherCard : Claim7 := { stood := { row := eitherRow, standIns := [], harness := (true, "6e517f5928bf3c87a01427508babdcd35d5f63ba92bbd0c0c9238805cb3383da"), looks := true }, kinds := [], alts := [], laidByText := true, laidKinds := [.data, .data, .data], laidTests := true, laidLooks := .later }
def EitherCardSaid : Prop := Claim7.holds Tryz.pinned (.plain (OpenSpec.ofChange eitherSpec)) eitherCard

/-- THE TIED CARD OF 'shadowkeep.Poisoned'. -/
def poisonedCard : Claim7 := { stood := { row := poisonedRow, standIns := [], harness := (true, "6e517f5928bf3c87a01427508babdcd35d5f63ba92bbd0c0c9238805cb3383da"), looks := true }, kinds := [], alts := [], laidByText := true, laidKinds := [.data, .data, .data, .handle], laidTests := true, laidLooks := .later }
def PoisonedCardSaid : Prop := Claim7.holds Tryz.pinned (.plain (OpenSpec.ofChange poisonedSpec)) poisonedCard

/-- THE TIED CARD OF 'shadowkeep.Spare'. -/
def spareCard : Claim7 := { stood := { row := spareRow, standIns := [], harness := (true, "6e517f5928bf3c87a01427508babdcd35d5f63ba92bbd0c0c9238805cb3383da"), looks := true }, kinds := [], alts := [], laidByText := true, laidKinds := [.data, .data, .data], laidTests := true, laidLooks := .later }
def SpareCardSaid : Prop := Claim7.holds Tryz.pinned (.plain (OpenSpec.ofChange spareSpec)) spareCard

/-- THE TIED CARD OF 'shadowkeep.Cheap'. -/
def cheapCard : Claim7 := { stood := { row := cheapRow, standIns := [], harness := (true, "6e517f5928bf3c87a01427508babdcd35d5f63ba92bbd0c0c9238805cb3383da"), looks := true }, kinds := [], alts := [], laidByText := true, laidKinds := [.data, .data, .data], laidTests := true, laidLooks := .later }
def CheapCardSaid : Prop := Claim7.holds Tryz.pinned (.plain (OpenSpec.ofChange cheapSpec)) cheapCard

/-- THE TIED CARD OF 'shadowkeep.Flipped'. -/
def flippedCard : Claim7 := { stood := { row := flippedRow, standIns := [], harness := (true, "6e517f5928bf3c87a01427508babdcd35d5f63ba92bbd0c0c9238805cb3383da"), looks := true }, kinds := [], alts := [], laidByText := true, laidKinds := [.data, .data, .data, .handle], laidTests := true, laidLooks := .later }
def FlippedCardSaid : Prop := Claim7.holds Tryz.pinned (.plain (OpenSpec.ofChange flippedSpec)) flippedCard

/-- THE TIED CARD OF 'shadowkeep.Wild'. -/
def wildCard : Claim7 := { stood := { row := wildRow, standIns := [], harness := (true, "6e517f5928bf3c87a01427508babdcd35d5f63ba92bbd0c0c9238805cb3383da"), looks := true }, kinds := [], alts := [], laidByText := true, laidKinds := [.data, .data, .data, .handle], laidTests := true, laidLooks := .later }
def WildCardSaid : Prop := Claim7.holds Tryz.pinned (.plain (OpenSpec.ofChange wildSpec)) wildCard

/-- THE SECOND FORM's CARD OF 'shadowkeep.Either'. -/
def eitherUptoCard : Claim7 := { stood := { row := eitherUptoRow, standIns := [], harness := (true, "6e517f5928bf3c87a01427508babdcd35d5f63ba92bbd0c0c9238805cb3383da"), looks := true }, kinds := [], alts := [], laidByText := true, laidKinds := [.data, .data, .data], laidTests := true, laidLooks := .later }
def EitherUptoCardSaid : Prop := Claim7.holds Tryz.pinned (.plain (OpenSpec.upto eitherSpec)) eitherUptoCard

/-- THE SECOND FORM's CARD OF 'shadowkeep.Poisoned'. -/
def poisonedUptoCard : Claim7 := { stood := { row := poisonedUptoRow, standIns := [], harness := (true, "6e517f5928bf3c87a01427508babdcd35d5f63ba92bbd0c0c9238805cb3383da"), looks := true }, kinds := [], alts := [], laidByText := true, laidKinds := [.data, .data, .data, .handle], laidTests := true, laidLooks := .later }
def PoisonedUptoCardSaid : Prop := Claim7.holds Tryz.pinned (.plain (OpenSpec.upto poisonedSpec)) poisonedUptoCard

/-- THE SECOND FORM's CARD OF 'shadowkeep.Spare'. -/
def spareUptoCard : Claim7 := { stood := { row := spareUptoRow, standIns := [], harness := (true, "6e517f5928bf3c87a01427508babdcd35d5f63ba92bbd0c0c9238805cb3383da"), looks := true }, kinds := [], alts := [], laidByText := true, laidKinds := [.data, .data, .data], laidTests := true, laidLooks := .later }
def SpareUptoCardSaid : Prop := Claim7.holds Tryz.pinned (.plain (OpenSpec.upto spareSpec)) spareUptoCard

/-- THE SECOND FORM's CARD OF 'shadowkeep.Cheap'. -/
def cheapUptoCard : Claim7 := { stood := { row := cheapUptoRow, standIns := [], harness := (true, "6e517f5928bf3c87a01427508babdcd35d5f63ba92bbd0c0c9238805cb3383da"), looks := true }, kinds := [], alts := [], laidByText := true, laidKinds := [.data, .data, .data], laidTests := true, laidLooks := .later }
def CheapUptoCardSaid : Prop := Claim7.holds Tryz.pinned (.plain (OpenSpec.upto cheapSpec)) cheapUptoCard

/-- THE SECOND FORM's CARD OF 'shadowkeep.Flipped'. -/
def flippedUptoCard : Claim7 := { stood := { row := flippedUptoRow, standIns := [], harness := (true, "6e517f5928bf3c87a01427508babdcd35d5f63ba92bbd0c0c9238805cb3383da"), looks := true }, kinds := [], alts := [], laidByText := true, laidKinds := [.data, .data, .data, .handle], laidTests := true, laidLooks := .later }
def FlippedUptoCardSaid : Prop := Claim7.holds Tryz.pinned (.plain (OpenSpec.upto flippedSpec)) flippedUptoCard

/-- THE SECOND FORM's CARD OF 'shadowkeep.Wild'. -/
def wildUptoCard : Claim7 := { stood := { row := wildUptoRow, standIns := [], harness := (true, "6e517f5928bf3c87a01427508babdcd35d5f63ba92bbd0c0c9238805cb3383da"), looks := true }, kinds := [], alts := [], laidByText := true, laidKinds := [.data, .data, .data, .handle], laidTests := true, laidLooks := .later }
def WildUptoCardSaid : Prop := Claim7.holds Tryz.pinned (.plain (OpenSpec.upto wildSpec)) wildUptoCard
end Rows
end Go.Proofs.YtdohpenfkdckiabGreatDoor
