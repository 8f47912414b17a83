/-
  DERIVED. GIVEN WITH THE SEED: THE CARDS: each row of YtifnnckbcjafgabGreatDoorRows.lean that lists a variable, with what it lists TIED to the program's text (the seventh form; the later family's looks); each row that meets fmt, with fmt's text TOLD by the authors' own Lean function (tested against real Go, not proved from fmt's source: count such statements apart). THE CARD IS WHAT COUNTS. Prove the row's statement (the work); the ties are given (YtifnnckbcjafgabGreatDoorTie.lean); close each card by the builder's one call (the guide's Derived/Test/ToyasCard.lean, 'card_holds'). Laid BY PROGRAM, IN A SANDBOX (cutbox-door.mjs). By AI agents, Wed Nov 11 2026. No macro, syntax, notation, axiom, sorry.
-/
import Derived.Test.YtifnnckbcjafgabGreatDoorRows
import GoSem.ClaimSeven
namespace Go.Proofs.YtifnnckbcjafgabGreatDoor
namespace Rows

/-- THE TIED CARD OF 'cressetlaw09.CodecReads1'. -/
def codecReads1Card : Claim7 := { stood := { row := codecReads1Row, standIns := [], harness := (true, "85f9ebf597c6bbe032a7970e0e2ecf08105b3b798a9ef3d97f8b736f2201db0b"), looks := false }, kinds := [], alts := [], laidByText := true, laidKinds := [.data, .data, .data, .data, .data, .data], laidTests := true, laidLooks := .later }
def CodecReads1CardSaid : Prop := Claim7.holds Tryz.pinned (.plain (OpenSpec.ofChange codecReads1Spec)) codecReads1Card

/-- THE TIED CARD OF 'cressetlaw09.CodecReads2'. -/
def codecReads2Card : Claim7 := { stood := { row := codecReads2Row, standIns := [], harness := (true, "85f9ebf597c6bbe032a7970e0e2ecf08105b3b798a9ef3d97f8b736f2201db0b"), looks := false }, kinds := [], alts := [], laidByText := true, laidKinds := [.data, .data, .data, .data, .data, .data], laidTests := true, laidLooks := .later }
def CodecReads2CardSaid : Prop := Claim7.holds Tryz.pinned (.plain (OpenSpec.ofChange codecReads2Spec)) codecReads2Card

/-- THE TIED CARD OF 'cressetlaw09.CodecBack'. -/
def codecBackCard : Claim7 := { stood := { row := codecBackRow, standIns := [], harness := (true, "85f9ebf597c6bbe032a7970e0e2ecf08105b3b798a9ef3d97f8b736f2201db0b"), looks := false }, kinds := [], alts := [], laidByText := true, laidKinds := [.data, .data, .data, .data, .data, .data], laidTests := true, laidLooks := .later }
def CodecBackCardSaid : Prop := Claim7.holds Tryz.pinned (.plain (OpenSpec.ofChange codecBackSpec)) codecBackCard

/-- THE TIED CARD OF 'cressetlaw09.CodecOneForm'. -/
def codecOneFormCard : Claim7 := { stood := { row := codecOneFormRow, standIns := [], harness := (true, "85f9ebf597c6bbe032a7970e0e2ecf08105b3b798a9ef3d97f8b736f2201db0b"), looks := false }, kinds := [], alts := [], laidByText := true, laidKinds := [.data, .data, .data, .data, .data], laidTests := true, laidLooks := .later }
def CodecOneFormCardSaid : Prop := Claim7.holds Tryz.pinned (.plain (OpenSpec.ofChange codecOneFormSpec)) codecOneFormCard

/-- THE TIED CARD OF 'cressetlaw09.CodecMarks'. -/
def codecMarksCard : Claim7 := { stood := { row := codecMarksRow, standIns := [], harness := (true, "85f9ebf597c6bbe032a7970e0e2ecf08105b3b798a9ef3d97f8b736f2201db0b"), looks := false }, kinds := [], alts := [], laidByText := true, laidKinds := [.data, .data, .data, .data, .data, .data], laidTests := true, laidLooks := .later }
def CodecMarksCardSaid : Prop := Claim7.holds Tryz.pinned (.plain (OpenSpec.ofChange codecMarksSpec)) codecMarksCard

/-- THE TIED CARD OF 'cressetlaw10.PairScalars'. -/
def pairScalarsCard : Claim7 := { stood := { row := pairScalarsRow, standIns := [], harness := (true, "85f9ebf597c6bbe032a7970e0e2ecf08105b3b798a9ef3d97f8b736f2201db0b"), looks := false }, kinds := [], alts := [], laidByText := true, laidKinds := [.data, .data, .data, .data, .data], laidTests := true, laidLooks := .later }
def PairScalarsCardSaid : Prop := Claim7.holds Tryz.pinned (.plain (OpenSpec.ofChange pairScalarsSpec)) pairScalarsCard

/-- THE TIED CARD OF 'cressetlaw10.PairSums'. -/
def pairSumsCard : Claim7 := { stood := { row := pairSumsRow, standIns := [], harness := (true, "85f9ebf597c6bbe032a7970e0e2ecf08105b3b798a9ef3d97f8b736f2201db0b"), looks := false }, kinds := [], alts := [], laidByText := true, laidKinds := [.data, .data, .data, .data, .data], laidTests := true, laidLooks := .later }
def PairSumsCardSaid : Prop := Claim7.holds Tryz.pinned (.plain (OpenSpec.ofChange pairSumsSpec)) pairSumsCard

/-- THE TIED CARD OF 'cressetlaw10.PairTells'. -/
def pairTellsCard : Claim7 := { stood := { row := pairTellsRow, standIns := [], harness := (true, "85f9ebf597c6bbe032a7970e0e2ecf08105b3b798a9ef3d97f8b736f2201db0b"), looks := false }, kinds := [], alts := [], laidByText := true, laidKinds := [.data, .data, .data, .data, .data], laidTests := true, laidLooks := .later }
def PairTellsCardSaid : Prop := Claim7.holds Tryz.pinned (.plain (OpenSpec.ofChange pairTellsSpec)) pairTellsCard

/-- THE TIED CARD OF 'cressetlaw10.PairChecks'. -/
def pairChecksCard : Claim7 := { stood := { row := pairChecksRow, standIns := [], harness := (true, "85f9ebf597c6bbe032a7970e0e2ecf08105b3b798a9ef3d97f8b736f2201db0b"), looks := false }, kinds := [], alts := [], laidByText := true, laidKinds := [.data, .data, .data, .data, .data], laidTests := true, laidLooks := .later }
def PairChecksCardSaid : Prop := Claim7.holds Tryz.pinned (.plain (OpenSpec.ofChange pairChecksSpec)) pairChecksCard

/-- THE TIED CARD OF 'cressetlaw10.PairMoves'. -/
def pairMovesCard : Claim7 := { stood := { row := pairMovesRow, standIns := [], harness := (true, "85f9ebf597c6bbe032a7970e0e2ecf08105b3b798a9ef3d97f8b736f2201db0b"), looks := false }, kinds := [], alts := [], laidByText := true, laidKinds := [.data, .data, .data, .data, .data], laidTests := true, laidLooks := .later }
def PairMovesCardSaid : Prop := Claim7.holds Tryz.pinned (.plain (OpenSpec.ofChange pairMovesSpec)) pairMovesCard

/-- THE SECOND FORM's CARD OF 'cressetlaw09.CodecReads1'. -/
def codecReads1UptoCard : Claim7 := { stood := { row := codecReads1UptoRow, standIns := [], harness := (true, "85f9ebf597c6bbe032a7970e0e2ecf08105b3b798a9ef3d97f8b736f2201db0b"), looks := false }, kinds := [], alts := [], laidByText := true, laidKinds := [.data, .data, .data, .data, .data, .data], laidTests := true, laidLooks := .later }
def CodecReads1UptoCardSaid : Prop := Claim7.holds Tryz.pinned (.plain (OpenSpec.upto codecReads1Spec)) codecReads1UptoCard

/-- THE SECOND FORM's CARD OF 'cressetlaw09.CodecReads2'. -/
def codecReads2UptoCard : Claim7 := { stood := { row := codecReads2UptoRow, standIns := [], harness := (true, "85f9ebf597c6bbe032a7970e0e2ecf08105b3b798a9ef3d97f8b736f2201db0b"), looks := false }, kinds := [], alts := [], laidByText := true, laidKinds := [.data, .data, .data, .data, .data, .data], laidTests := true, laidLooks := .later }
def CodecReads2UptoCardSaid : Prop := Claim7.holds Tryz.pinned (.plain (OpenSpec.upto codecReads2Spec)) codecReads2UptoCard

/-- THE SECOND FORM's CARD OF 'cressetlaw09.CodecBack'. -/
def codecBackUptoCard : Claim7 := { stood := { row := codecBackUptoRow, standIns := [], harness := (true, "85f9ebf597c6bbe032a7970e0e2ecf08105b3b798a9ef3d97f8b736f2201db0b"), looks := false }, kinds := [], alts := [], laidByText := true, laidKinds := [.data, .data, .data, .data, .data, .data], laidTests := true, laidLooks := .later }
def CodecBackUptoCardSaid : Prop := Claim7.holds Tryz.pinned (.plain (OpenSpec.upto codecBackSpec)) codecBackUptoCard

/-- THE SECOND FORM's CARD OF 'cressetlaw09.CodecOneForm'. -/
def codecOneFormUptoCard : Claim7 := { stood := { row := codecOneFormUptoRow, standIns := [], harness := (true, "85f9ebf597c6bbe032a7970e0e2ecf08105b3b798a9ef3d97f8b736f2201db0b"), looks := false }, kinds := [], alts := [], laidByText := true, laidKinds := [.data, .data, .data, .data, .data], laidTests := true, laidLooks := .later }
def CodecOneFormUptoCardSaid : Prop := Claim7.holds Tryz.pinned (.plain (OpenSpec.upto codecOneFormSpec)) codecOneFormUptoCard

/-- THE SECOND FORM's CARD OF 'cressetlaw09.CodecMarks'. -/
def codecMarksUptoCard : Claim7 := { stood := { row := codecMarksUptoRow, standIns := [], harness := (true, "85f9ebf597c6bbe032a7970e0e2ecf08105b3b798a9ef3d97f8b736f2201db0b"), looks := false }, kinds := [], alts := [], laidByText := true, laidKinds := [.data, .data, .data, .data, .data, .data], laidTests := true, laidLooks := .later }
def CodecMarksUptoCardSaid : Prop := Claim7.holds Tryz.pinned (.plain (OpenSpec.upto codecMarksSpec)) codecMarksUptoCard

/-- THE SECOND FORM's CARD OF 'cressetlaw10.PairScalars'. -/
def pairScalarsUptoCard : Claim7 := { stood := { row := pairScalarsUptoRow, standIns := [], harness := (true, "85f9ebf597c6bbe032a7970e0e2ecf08105b3b798a9ef3d97f8b736f2201db0b"), looks := false }, kinds := [], alts := [], laidByText := true, laidKinds := [.data, .data, .data, .data, .data], laidTests := true, laidLooks := .later }
def PairScalarsUptoCardSaid : Prop := Claim7.holds Tryz.pinned (.plain (OpenSpec.upto pairScalarsSpec)) pairScalarsUptoCard

/-- THE SECOND FORM's CARD OF 'cressetlaw10.PairSums'. -/
def pairSumsUptoCard : Claim7 := { stood := { row := pairSumsUptoRow, standIns := [], harness := (true, "85f9ebf597c6bbe032a7970e0e2ecf08105b3b798a9ef3d97f8b736f2201db0b"), looks := false }, kinds := [], alts := [], laidByText := true, laidKinds := [.data, .data, .data, .data, .data], laidTests := true, laidLooks := .later }
def PairSumsUptoCardSaid : Prop := Claim7.holds Tryz.pinned (.plain (OpenSpec.upto pairSumsSpec)) pairSumsUptoCard

/-- THE SECOND FORM's CARD OF 'cressetlaw10.PairTells'. -/
def pairTellsUptoCard : Claim7 := { stood := { row := pairTellsUptoRow, standIns := [], harness := (true, "85f9ebf597c6bbe032a7970e0e2ecf08105b3b798a9ef3d97f8b736f2201db0b"), looks := false }, kinds := [], alts := [], laidByText := true, laidKinds := [.data, .data, .data, .data, .data], laidTests := true, laidLooks := .later }
def PairTellsUptoCardSaid : Prop := Claim7.holds Tryz.pinned (.plain (OpenSpec.upto pairTellsSpec)) pairTellsUptoCard

/-- THE SECOND FORM's CARD OF 'cressetlaw10.PairChecks'. -/
def pairChecksUptoCard : Claim7 := { stood := { row := pairChecksUptoRow, standIns := [], harness := (true, "85f9ebf597c6bbe032a7970e0e2ecf08105b3b798a9ef3d97f8b736f2201db0b"), looks := false }, kinds := [], alts := [], laidByText := true, laidKinds := [.data, .data, .data, .data, .data], laidTests := true, laidLooks := .later }
def PairChecksUptoCardSaid : Prop := Claim7.holds Tryz.pinned (.plain (OpenSpec.upto pairChecksSpec)) pairChecksUptoCard

/-- THE SECOND FORM's CARD OF 'cressetlaw10.PairMoves'. -/
def pairMovesUptoCard : Claim7 := { stood := { row := pairMovesUptoRow, standIns := [], harness := (true, "85f9ebf597c6bbe032a7970e0e2ecf08105b3b798a9ef3d97f8b736f2201db0b"), looks := false }, kinds := [], alts := [], laidByText := true, laidKinds := [.data, .data, .data, .data, .data], laidTests := true, laidLooks := .later }
def PairMovesUptoCardSaid : Prop := Claim7.holds Tryz.pinned (.plain (OpenSpec.upto pairMovesSpec)) pairMovesUptoCard
end Rows
end Go.Proofs.YtifnnckbcjafgabGreatDoor
