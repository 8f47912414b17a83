/-
  DERIVED. GIVEN WITH THE SEED: THE CARDS: each row of YtialfoccalobpaaDoorRows.lean that lists a variable, with what it lists TIED to the program's text (the seventh form; the later family's looks); each row that meets fmt, with fmt's text TOLD by the authors' own Lean function (tested against real Go, not proved from fmt's source: count such statements apart). THE CARD IS WHAT COUNTS. Prove the row's statement (the work); the ties are given (YtialfoccalobpaaDoorTie.lean); close each card by the builder's one call (the guide's Derived/Test/ToyasCard.lean, 'card_holds'). Laid BY PROGRAM, IN A SANDBOX (cutbox-door.mjs). By AI agents, Wed Nov 11 2026. No macro, syntax, notation, axiom, sorry.
-/
import Derived.Test.YtialfoccalobpaaDoorRows
import GoSem.ClaimSeven
namespace Go.Proofs.YtialfoccalobpaaDoor
namespace Rows

/-- THE TIED CARD OF 'cressetlaw11.XmdNumbers'. -/
def xmdNumbersCard : Claim7 := { stood := { row := xmdNumbersRow, standIns := [], harness := (true, "b6daa32431f233763afe313a015e8ccf4c28ee3bfe8edd1bcfbc6d106735d499"), looks := false }, kinds := [], alts := [], laidByText := true, laidKinds := [.data, .data, .data, .data], laidTests := true, laidLooks := .later }
def XmdNumbersCardSaid : Prop := Claim7.holds Tryd.pinned (.plain (OpenSpec.ofChange xmdNumbersSpec)) xmdNumbersCard

/-- THE TIED CARD OF 'cressetlaw01.ShaStreams'. -/
def shaStreamsCard : Claim7 := { stood := { row := shaStreamsRow, standIns := [], harness := (true, "b6daa32431f233763afe313a015e8ccf4c28ee3bfe8edd1bcfbc6d106735d499"), looks := false }, kinds := [], alts := [], laidByText := true, laidKinds := [.data, .data], laidTests := true, laidLooks := .later }
def ShaStreamsCardSaid : Prop := Claim7.holds Tryd.pinned (.plain (OpenSpec.ofChange shaStreamsSpec)) shaStreamsCard

/-- THE TIED CARD OF 'cressetlaw07.G1Lists'. -/
def g1ListsCard : Claim7 := { stood := { row := g1ListsRow, standIns := [], harness := (true, "b6daa32431f233763afe313a015e8ccf4c28ee3bfe8edd1bcfbc6d106735d499"), looks := false }, kinds := [], alts := [], laidByText := true, laidKinds := [.data, .data, .data, .data, .data], laidTests := true, laidLooks := .later }
def G1ListsCardSaid : Prop := Claim7.holds Tryd.pinned (.plain (OpenSpec.ofChange g1ListsSpec)) g1ListsCard

/-- THE TIED CARD OF 'cressetlaw08.G2Lists'. -/
def g2ListsCard : Claim7 := { stood := { row := g2ListsRow, standIns := [], harness := (true, "b6daa32431f233763afe313a015e8ccf4c28ee3bfe8edd1bcfbc6d106735d499"), looks := false }, kinds := [], alts := [], laidByText := true, laidKinds := [.data, .data, .data, .data, .data], laidTests := true, laidLooks := .later }
def G2ListsCardSaid : Prop := Claim7.holds Tryd.pinned (.plain (OpenSpec.ofChange g2ListsSpec)) g2ListsCard

/-- THE TIED CARD OF 'cressetlaw06.TowerReckons'. -/
def towerReckonsCard : Claim7 := { stood := { row := towerReckonsRow, standIns := [], harness := (true, "b6daa32431f233763afe313a015e8ccf4c28ee3bfe8edd1bcfbc6d106735d499"), looks := false }, kinds := [], alts := [], laidByText := true, laidKinds := [.data, .data], laidTests := true, laidLooks := .later }
def TowerReckonsCardSaid : Prop := Claim7.holds Tryd.pinned (.plain (OpenSpec.ofChange towerReckonsSpec)) towerReckonsCard

/-- THE SECOND FORM's CARD OF 'cressetlaw11.XmdNumbers'. -/
def xmdNumbersUptoCard : Claim7 := { stood := { row := xmdNumbersUptoRow, standIns := [], harness := (true, "b6daa32431f233763afe313a015e8ccf4c28ee3bfe8edd1bcfbc6d106735d499"), looks := false }, kinds := [], alts := [], laidByText := true, laidKinds := [.data, .data, .data, .data], laidTests := true, laidLooks := .later }
def XmdNumbersUptoCardSaid : Prop := Claim7.holds Tryd.pinned (.plain (OpenSpec.upto xmdNumbersSpec)) xmdNumbersUptoCard

/-- THE SECOND FORM's CARD OF 'cressetlaw01.ShaStreams'. -/
def shaStreamsUptoCard : Claim7 := { stood := { row := shaStreamsUptoRow, standIns := [], harness := (true, "b6daa32431f233763afe313a015e8ccf4c28ee3bfe8edd1bcfbc6d106735d499"), looks := false }, kinds := [], alts := [], laidByText := true, laidKinds := [.data, .data], laidTests := true, laidLooks := .later }
def ShaStreamsUptoCardSaid : Prop := Claim7.holds Tryd.pinned (.plain (OpenSpec.upto shaStreamsSpec)) shaStreamsUptoCard

/-- THE SECOND FORM's CARD OF 'cressetlaw07.G1Lists'. -/
def g1ListsUptoCard : Claim7 := { stood := { row := g1ListsUptoRow, standIns := [], harness := (true, "b6daa32431f233763afe313a015e8ccf4c28ee3bfe8edd1bcfbc6d106735d499"), looks := false }, kinds := [], alts := [], laidByText := true, laidKinds := [.data, .data, .data, .data, .data], laidTests := true, laidLooks := .later }
def G1ListsUptoCardSaid : Prop := Claim7.holds Tryd.pinned (.plain (OpenSpec.upto g1ListsSpec)) g1ListsUptoCard

/-- THE SECOND FORM's CARD OF 'cressetlaw08.G2Lists'. -/
def g2ListsUptoCard : Claim7 := { stood := { row := g2ListsUptoRow, standIns := [], harness := (true, "b6daa32431f233763afe313a015e8ccf4c28ee3bfe8edd1bcfbc6d106735d499"), looks := false }, kinds := [], alts := [], laidByText := true, laidKinds := [.data, .data, .data, .data, .data], laidTests := true, laidLooks := .later }
def G2ListsUptoCardSaid : Prop := Claim7.holds Tryd.pinned (.plain (OpenSpec.upto g2ListsSpec)) g2ListsUptoCard

/-- THE SECOND FORM's CARD OF 'cressetlaw06.TowerReckons'. -/
def towerReckonsUptoCard : Claim7 := { stood := { row := towerReckonsUptoRow, standIns := [], harness := (true, "b6daa32431f233763afe313a015e8ccf4c28ee3bfe8edd1bcfbc6d106735d499"), looks := false }, kinds := [], alts := [], laidByText := true, laidKinds := [.data, .data], laidTests := true, laidLooks := .later }
def TowerReckonsUptoCardSaid : Prop := Claim7.holds Tryd.pinned (.plain (OpenSpec.upto towerReckonsSpec)) towerReckonsUptoCard
end Rows
end Go.Proofs.YtialfoccalobpaaDoor
