/-
  DERIVED. GIVEN WITH THE SEED: THE CARDS: each row of YtckhafpejefbbaaGreatDoorRows.lean that lists a variable, with what it lists TIED to the program's text (the seventh form; the later family's looks); each row that meets fmt, with fmt's text TOLD by the authors' own Lean function (tested against real Go, not proved from fmt's source: count such statements apart). THE CARD IS WHAT COUNTS. Prove the row's statement (the work); the ties are given (YtckhafpejefbbaaGreatDoorTie.lean); close each card by the builder's one call (the guide's Derived/Test/ToyasCard.lean, 'card_holds'). Laid BY PROGRAM, IN A SANDBOX (cutbox-door.mjs). By AI agents, Wed Nov 11 2026. No macro, syntax, notation, axiom, sorry.
-/
import Derived.Test.YtckhafpejefbbaaGreatDoorRows
import GoSem.ClaimSeven
namespace Go.Proofs.YtckhafpejefbbaaGreatDoor
namespace Rows

/-- THE TIED CARD OF 'tailorlaw.Opens'. -/
def opensCard : Claim7 := { stood := { row := opensRow, standIns := [], harness := (true, "c4cc0abcbeba12060a3522bd2cbd3fe594e8ca660fff157106188772a1581a92"), looks := true }, kinds := [], alts := [], laidByText := true, laidKinds := [.data, .data, .data, .sentinel, .sentinel], laidTests := true, laidLooks := .later }
def OpensCardSaid : Prop := Claim7.holds Tryz.pinned (.plain (OpenSpec.ofChange opensSpec)) opensCard

/-- THE TIED CARD OF 'tailorlaw.Typed'. -/
def typedCard : Claim7 := { stood := { row := typedRow, standIns := [], harness := (true, "c4cc0abcbeba12060a3522bd2cbd3fe594e8ca660fff157106188772a1581a92"), looks := true }, kinds := [], alts := [], laidByText := true, laidKinds := [.data, .data, .data, .sentinel, .sentinel], laidTests := true, laidLooks := .later }
def TypedCardSaid : Prop := Claim7.holds Tryz.pinned (.plain (OpenSpec.ofChange typedSpec)) typedCard

/-- THE TIED CARD OF 'tailorlaw.Runs'. -/
def runsCard : Claim7 := { stood := { row := runsRow, standIns := [], harness := (true, "c4cc0abcbeba12060a3522bd2cbd3fe594e8ca660fff157106188772a1581a92"), looks := true }, kinds := [], alts := [], laidByText := true, laidKinds := [.data, .data, .data, .sentinel, .sentinel], laidTests := true, laidLooks := .later }
def RunsCardSaid : Prop := Claim7.holds Tryz.pinned (.plain (OpenSpec.ofChange runsSpec)) runsCard

/-- THE TIED CARD OF 'tailorkeep.Placed'. -/
def placedCard : Claim7 := { stood := { row := placedRow, standIns := [], harness := (true, "c4cc0abcbeba12060a3522bd2cbd3fe594e8ca660fff157106188772a1581a92"), looks := true }, kinds := [], alts := [], laidByText := true, laidKinds := [.data, .data, .data, .sentinel, .sentinel], laidTests := true, laidLooks := .later }
def PlacedCardSaid : Prop := Claim7.holds Tryz.pinned (.plain (OpenSpec.ofChange placedSpec)) placedCard

/-- THE TIED CARD OF 'tailorkeep.Counted'. -/
def countedCard : Claim7 := { stood := { row := countedRow, standIns := [], harness := (true, "c4cc0abcbeba12060a3522bd2cbd3fe594e8ca660fff157106188772a1581a92"), looks := true }, kinds := [], alts := [], laidByText := true, laidKinds := [.data, .data, .data, .sentinel, .sentinel], laidTests := true, laidLooks := .later }
def CountedCardSaid : Prop := Claim7.holds Tryz.pinned (.plain (OpenSpec.ofChange countedSpec)) countedCard

/-- THE TIED CARD OF 'tailorkeep.Recursive'. -/
def recursiveCard : Claim7 := { stood := { row := recursiveRow, standIns := [], harness := (true, "c4cc0abcbeba12060a3522bd2cbd3fe594e8ca660fff157106188772a1581a92"), looks := true }, kinds := [], alts := [], laidByText := true, laidKinds := [.data, .data, .data, .sentinel, .sentinel], laidTests := true, laidLooks := .later }
def RecursiveCardSaid : Prop := Claim7.holds Tryz.pinned (.plain (OpenSpec.ofChange recursiveSpec)) recursiveCard

/-- THE TIED CARD OF 'tailorkeep.General'. -/
def generalCard : Claim7 := { stood := { row := generalRow, standIns := [], harness := (true, "c4cc0abcbeba12060a3522bd2cbd3fe594e8ca660fff157106188772a1581a92"), looks := true }, kinds := [], alts := [], laidByText := true, laidKinds := [.data, .data, .data, .sentinel, .sentinel], laidTests := true, laidLooks := .later }
def GeneralCardSaid : Prop := Claim7.holds Tryz.pinned (.plain (OpenSpec.ofChange generalSpec)) generalCard

/-- THE TIED CARD OF 'tailorlaw.All'. -/
def allCard : Claim7 := { stood := { row := allRow, standIns := [], harness := (true, "c4cc0abcbeba12060a3522bd2cbd3fe594e8ca660fff157106188772a1581a92"), looks := true }, kinds := [], alts := [], laidByText := true, laidKinds := [.data, .data, .data, .sentinel, .sentinel], laidTests := true, laidLooks := .later }
def AllCardSaid : Prop := Claim7.holds Tryz.pinned (.plain (OpenSpec.ofChange allSpec)) allCard

/-- THE TIED CARD OF 'tailorkeep.Kept'. -/
def keptCard : Claim7 := { stood := { row := keptRow, standIns := [], harness := (true, "c4cc0abcbeba12060a3522bd2cbd3fe594e8ca660fff157106188772a1581a92"), looks := true }, kinds := [], alts := [], laidByText := true, laidKinds := [.data, .data, .data, .sentinel, .sentinel], laidTests := true, laidLooks := .later }
def KeptCardSaid : Prop := Claim7.holds Tryz.pinned (.plain (OpenSpec.ofChange keptSpec)) keptCard

/-- THE TIED CARD OF 'tailorkeep.Back'. -/
def backCard : Claim7 := { stood := { row := backRow, standIns := [], harness := (true, "c4cc0abcbeba12060a3522bd2cbd3fe594e8ca660fff157106188772a1581a92"), looks := true }, kinds := [], alts := [], laidByText := true, laidKinds := [.data, .data, .data, .sentinel, .sentinel], laidTests := true, laidLooks := .later }
def BackCardSaid : Prop := Claim7.holds Tryz.pinned (.plain (OpenSpec.ofChange backSpec)) backCard

/-- THE TIED CARD OF 'tailorkeep.Spread'. -/
def spreadCard : Claim7 := { stood := { row := spreadRow, standIns := [], harness := (true, "c4cc0abcbeba12060a3522bd2cbd3fe594e8ca660fff157106188772a1581a92"), looks := true }, kinds := [], alts := [], laidByText := true, laidKinds := [.data, .data, .data, .sentinel, .sentinel], laidTests := true, laidLooks := .later }
def SpreadCardSaid : Prop := Claim7.holds Tryz.pinned (.plain (OpenSpec.ofChange spreadSpec)) spreadCard

/-- THE SECOND FORM's CARD OF 'tailorlaw.Opens'. -/
def opensUptoCard : Claim7 := { stood := { row := opensUptoRow, standIns := [], harness := (true, "c4cc0abcbeba12060a3522bd2cbd3fe594e8ca660fff157106188772a1581a92"), looks := true }, kinds := [], alts := [], laidByText := true, laidKinds := [.data, .data, .data, .sentinel, .sentinel], laidTests := true, laidLooks := .later }
def OpensUptoCardSaid : Prop := Claim7.holds Tryz.pinned (.plain (OpenSpec.upto opensSpec)) opensUptoCard

/-- THE SECOND FORM's CARD OF 'tailorlaw.Typed'. -/
def typedUptoCard : Claim7 := { stood := { row := typedUptoRow, standIns := [], harness := (true, "c4cc0abcbeba12060a3522bd2cbd3fe594e8ca660fff157106188772a1581a92"), looks := true }, kinds := [], alts := [], laidByText := true, laidKinds := [.data, .data, .data, .sentinel, .sentinel], laidTests := true, laidLooks := .later }
def TypedUptoCardSaid : Prop := Claim7.holds Tryz.pinned (.plain (OpenSpec.upto typedSpec)) typedUptoCard

/-- THE SECOND FORM's CARD OF 'tailorlaw.Runs'. -/
def runsUptoCard : Claim7 := { stood := { row := runsUptoRow, standIns := [], harness := (true, "c4cc0abcbeba12060a3522bd2cbd3fe594e8ca660fff157106188772a1581a92"), looks := true }, kinds := [], alts := [], laidByText := true, laidKinds := [.data, .data, .data, .sentinel, .sentinel], laidTests := true, laidLooks := .later }
def RunsUptoCardSaid : Prop := Claim7.holds Tryz.pinned (.plain (OpenSpec.upto runsSpec)) runsUptoCard

/-- THE SECOND FORM's CARD OF 'tailorkeep.Placed'. -/
def placedUptoCard : Claim7 := { stood := { row := placedUptoRow, standIns := [], harness := (true, "c4cc0abcbeba12060a3522bd2cbd3fe594e8ca660fff157106188772a1581a92"), looks := true }, kinds := [], alts := [], laidByText := true, laidKinds := [.data, .data, .data, .sentinel, .sentinel], laidTests := true, laidLooks := .later }
def PlacedUptoCardSaid : Prop := Claim7.holds Tryz.pinned (.plain (OpenSpec.upto placedSpec)) placedUptoCard

/-- THE SECOND FORM's CARD OF 'tailorkeep.Counted'. -/
def countedUptoCard : Claim7 := { stood := { row := countedUptoRow, standIns := [], harness := (true, "c4cc0abcbeba12060a3522bd2cbd3fe594e8ca660fff157106188772a1581a92"), looks := true }, kinds := [], alts := [], laidByText := true, laidKinds := [.data, .data, .data, .sentinel, .sentinel], laidTests := true, laidLooks := .later }
def CountedUptoCardSaid : Prop := Claim7.holds Tryz.pinned (.plain (OpenSpec.upto countedSpec)) countedUptoCard

/-- THE SECOND FORM's CARD OF 'tailorkeep.Recursive'. -/
def recursiveUptoCard : Claim7 := { stood := { row := recursiveUptoRow, standIns := [], harness := (true, "c4cc0abcbeba12060a3522bd2cbd3fe594e8ca660fff157106188772a1581a92"), looks := true }, kinds := [], alts := [], laidByText := true, laidKinds := [.data, .data, .data, .sentinel, .sentinel], laidTests := true, laidLooks := .later }
def RecursiveUptoCardSaid : Prop := Claim7.holds Tryz.pinned (.plain (OpenSpec.upto recursiveSpec)) recursiveUptoCard

/-- THE SECOND FORM's CARD OF 'tailorkeep.General'. -/
def generalUptoCard : Claim7 := { stood := { row := generalUptoRow, standIns := [], harness := (true, "c4cc0abcbeba12060a3522bd2cbd3fe594e8ca660fff157106188772a1581a92"), looks := true }, kinds := [], alts := [], laidByText := true, laidKinds := [.data, .data, .data, .sentinel, .sentinel], laidTests := true, laidLooks := .later }
def GeneralUptoCardSaid : Prop := Claim7.holds Tryz.pinned (.plain (OpenSpec.upto generalSpec)) generalUptoCard

/-- THE SECOND FORM's CARD OF 'tailorlaw.All'. -/
def allUptoCard : Claim7 := { stood := { row := allUptoRow, standIns := [], harness := (true, "c4cc0abcbeba12060a3522bd2cbd3fe594e8ca660fff157106188772a1581a92"), looks := true }, kinds := [], alts := [], laidByText := true, laidKinds := [.data, .data, .data, .sentinel, .sentinel], laidTests := true, laidLooks := .later }
def AllUptoCardSaid : Prop := Claim7.holds Tryz.pinned (.plain (OpenSpec.upto allSpec)) allUptoCard

/-- THE SECOND FORM's CARD OF 'tailorkeep.Kept'. -/
def keptUptoCard : Claim7 := { stood := { row := keptUptoRow, standIns := [], harness := (true, "c4cc0abcbeba12060a3522bd2cbd3fe594e8ca660fff157106188772a1581a92"), looks := true }, kinds := [], alts := [], laidByText := true, laidKinds := [.data, .data, .data, .sentinel, .sentinel], laidTests := true, laidLooks := .later }
def KeptUptoCardSaid : Prop := Claim7.holds Tryz.pinned (.plain (OpenSpec.upto keptSpec)) keptUptoCard

/-- THE SECOND FORM's CARD OF 'tailorkeep.Back'. -/
def backUptoCard : Claim7 := { stood := { row := backUptoRow, standIns := [], harness := (true, "c4cc0abcbeba12060a3522bd2cbd3fe594e8ca660fff157106188772a1581a92"), looks := true }, kinds := [], alts := [], laidByText := true, laidKinds := [.data, .data, .data, .sentinel, .sentinel], laidTests := true, laidLooks := .later }
def BackUptoCardSaid : Prop := Claim7.holds Tryz.pinned (.plain (OpenSpec.upto backSpec)) backUptoCard

/-- THE SECOND FORM's CARD OF 'tailorkeep.Spread'. -/
def spreadUptoCard : Claim7 := { stood := { row := spreadUptoRow, standIns := [], harness := (true, "c4cc0abcbeba12060a3522bd2cbd3fe594e8ca660fff157106188772a1581a92"), looks := true }, kinds := [], alts := [], laidByText := true, laidKinds := [.data, .data, .data, .sentinel, .sentinel], laidTests := true, laidLooks := .later }
def SpreadUptoCardSaid : Prop := Claim7.holds Tryz.pinned (.plain (OpenSpec.upto spreadSpec)) spreadUptoCard
end Rows
end Go.Proofs.YtckhafpejefbbaaGreatDoor
