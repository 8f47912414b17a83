/-
  DERIVED. GIVEN WITH THE SEED: THE CARDS: each row of YtclfmdaafpachaaDoorRows.lean that lists a variable, with what it lists TIED to the program's text (the seventh form; the later family's looks); each row that meets fmt, with fmt's text TOLD by the authors' own Lean function (tested against real Go, not proved from fmt's source: count such statements apart). THE CARD IS WHAT COUNTS. Prove the row's statement (the work); the ties are given (YtclfmdaafpachaaDoorTie.lean); close each card by the builder's one call (the guide's Derived/Test/ToyasCard.lean, 'card_holds'). Laid BY PROGRAM, IN A SANDBOX (cutbox-door.mjs). By AI agents, Wed Nov 11 2026. No macro, syntax, notation, axiom, sorry.
-/
import Derived.Test.YtclfmdaafpachaaDoorRows
import GoSem.ClaimSeven
namespace Go.Proofs.YtclfmdaafpachaaDoor
namespace Rows

/-- THE TIED CARD OF 'cressetlaw03.FrReads'. -/
def frReadsCard : Claim7 := { stood := { row := frReadsRow, standIns := [], harness := (true, "65f091cb71fe5eab692e20a2400e94e932dbb0dbacaccecc9e5f0fa7d2ec13e4"), looks := false }, kinds := [], alts := [], laidByText := true, laidKinds := [.data, .data], laidTests := true, laidLooks := .later }
def FrReadsCardSaid : Prop := Claim7.holds Tryd.pinned (.plain (OpenSpec.ofChange frReadsSpec)) frReadsCard

/-- THE TIED CARD OF 'cressetlaw03.FrWide'. -/
def frWideCard : Claim7 := { stood := { row := frWideRow, standIns := [], harness := (true, "65f091cb71fe5eab692e20a2400e94e932dbb0dbacaccecc9e5f0fa7d2ec13e4"), looks := false }, kinds := [], alts := [], laidByText := true, laidKinds := [.data, .data, .data], laidTests := true, laidLooks := .later }
def FrWideCardSaid : Prop := Claim7.holds Tryd.pinned (.plain (OpenSpec.ofChange frWideSpec)) frWideCard

/-- THE TIED CARD OF 'cressetlaw03.FrReckons'. -/
def frReckonsCard : Claim7 := { stood := { row := frReckonsRow, standIns := [], harness := (true, "65f091cb71fe5eab692e20a2400e94e932dbb0dbacaccecc9e5f0fa7d2ec13e4"), looks := false }, kinds := [], alts := [], laidByText := true, laidKinds := [.data, .data], laidTests := true, laidLooks := .later }
def FrReckonsCardSaid : Prop := Claim7.holds Tryd.pinned (.plain (OpenSpec.ofChange frReckonsSpec)) frReckonsCard

/-- THE TIED CARD OF 'cressetlaw04.FpReads'. -/
def fpReadsCard : Claim7 := { stood := { row := fpReadsRow, standIns := [], harness := (true, "65f091cb71fe5eab692e20a2400e94e932dbb0dbacaccecc9e5f0fa7d2ec13e4"), looks := false }, kinds := [], alts := [], laidByText := true, laidKinds := [.data, .data, .data, .data], laidTests := true, laidLooks := .later }
def FpReadsCardSaid : Prop := Claim7.holds Tryd.pinned (.plain (OpenSpec.ofChange fpReadsSpec)) fpReadsCard

/-- THE TIED CARD OF 'cressetlaw04.FpWide'. -/
def fpWideCard : Claim7 := { stood := { row := fpWideRow, standIns := [], harness := (true, "65f091cb71fe5eab692e20a2400e94e932dbb0dbacaccecc9e5f0fa7d2ec13e4"), looks := false }, kinds := [], alts := [], laidByText := true, laidKinds := [.data, .data, .data, .data, .data], laidTests := true, laidLooks := .later }
def FpWideCardSaid : Prop := Claim7.holds Tryd.pinned (.plain (OpenSpec.ofChange fpWideSpec)) fpWideCard

/-- THE TIED CARD OF 'cressetlaw04.FpReckons'. -/
def fpReckonsCard : Claim7 := { stood := { row := fpReckonsRow, standIns := [], harness := (true, "65f091cb71fe5eab692e20a2400e94e932dbb0dbacaccecc9e5f0fa7d2ec13e4"), looks := false }, kinds := [], alts := [], laidByText := true, laidKinds := [.data, .data, .data, .data], laidTests := true, laidLooks := .later }
def FpReckonsCardSaid : Prop := Claim7.holds Tryd.pinned (.plain (OpenSpec.ofChange fpReckonsSpec)) fpReckonsCard

/-- THE TIED CARD OF 'cressetlaw04.FpRoots'. -/
def fpRootsCard : Claim7 := { stood := { row := fpRootsRow, standIns := [], harness := (true, "65f091cb71fe5eab692e20a2400e94e932dbb0dbacaccecc9e5f0fa7d2ec13e4"), looks := false }, kinds := [], alts := [], laidByText := true, laidKinds := [.data, .data, .data, .data], laidTests := true, laidLooks := .later }
def FpRootsCardSaid : Prop := Claim7.holds Tryd.pinned (.plain (OpenSpec.ofChange fpRootsSpec)) fpRootsCard

/-- THE TIED CARD OF 'cressetlaw05.Fp2Reads'. -/
def fp2ReadsCard : Claim7 := { stood := { row := fp2ReadsRow, standIns := [], harness := (true, "65f091cb71fe5eab692e20a2400e94e932dbb0dbacaccecc9e5f0fa7d2ec13e4"), looks := false }, kinds := [], alts := [], laidByText := true, laidKinds := [.data, .data], laidTests := true, laidLooks := .later }
def Fp2ReadsCardSaid : Prop := Claim7.holds Tryd.pinned (.plain (OpenSpec.ofChange fp2ReadsSpec)) fp2ReadsCard

/-- THE TIED CARD OF 'cressetlaw05.Fp2Reckons'. -/
def fp2ReckonsCard : Claim7 := { stood := { row := fp2ReckonsRow, standIns := [], harness := (true, "65f091cb71fe5eab692e20a2400e94e932dbb0dbacaccecc9e5f0fa7d2ec13e4"), looks := false }, kinds := [], alts := [], laidByText := true, laidKinds := [.data, .data], laidTests := true, laidLooks := .later }
def Fp2ReckonsCardSaid : Prop := Claim7.holds Tryd.pinned (.plain (OpenSpec.ofChange fp2ReckonsSpec)) fp2ReckonsCard

/-- THE TIED CARD OF 'cressetlaw05.Fp2Roots'. -/
def fp2RootsCard : Claim7 := { stood := { row := fp2RootsRow, standIns := [], harness := (true, "65f091cb71fe5eab692e20a2400e94e932dbb0dbacaccecc9e5f0fa7d2ec13e4"), looks := false }, kinds := [], alts := [], laidByText := true, laidKinds := [.data, .data, .data, .data], laidTests := true, laidLooks := .later }
def Fp2RootsCardSaid : Prop := Claim7.holds Tryd.pinned (.plain (OpenSpec.ofChange fp2RootsSpec)) fp2RootsCard

/-- THE TIED CARD OF 'cressetlaw05.Fp2Squares'. -/
def fp2SquaresCard : Claim7 := { stood := { row := fp2SquaresRow, standIns := [], harness := (true, "65f091cb71fe5eab692e20a2400e94e932dbb0dbacaccecc9e5f0fa7d2ec13e4"), looks := false }, kinds := [], alts := [], laidByText := true, laidKinds := [.data, .data, .data, .data, .data], laidTests := true, laidLooks := .later }
def Fp2SquaresCardSaid : Prop := Claim7.holds Tryd.pinned (.plain (OpenSpec.ofChange fp2SquaresSpec)) fp2SquaresCard

/-- THE TIED CARD OF 'cressetlaw05.Fp2Rules'. -/
def fp2RulesCard : Claim7 := { stood := { row := fp2RulesRow, standIns := [], harness := (true, "65f091cb71fe5eab692e20a2400e94e932dbb0dbacaccecc9e5f0fa7d2ec13e4"), looks := false }, kinds := [], alts := [], laidByText := true, laidKinds := [.data, .data, .data], laidTests := true, laidLooks := .later }
def Fp2RulesCardSaid : Prop := Claim7.holds Tryd.pinned (.plain (OpenSpec.ofChange fp2RulesSpec)) fp2RulesCard

/-- THE TIED CARD OF 'cressetlaw05.Fp2Turns'. -/
def fp2TurnsCard : Claim7 := { stood := { row := fp2TurnsRow, standIns := [], harness := (true, "65f091cb71fe5eab692e20a2400e94e932dbb0dbacaccecc9e5f0fa7d2ec13e4"), looks := false }, kinds := [], alts := [], laidByText := true, laidKinds := [.data, .data, .data], laidTests := true, laidLooks := .later }
def Fp2TurnsCardSaid : Prop := Claim7.holds Tryd.pinned (.plain (OpenSpec.ofChange fp2TurnsSpec)) fp2TurnsCard

/-- THE TIED CARD OF 'cressetlaw06.TowerReckons'. -/
def towerReckonsCard : Claim7 := { stood := { row := towerReckonsRow, standIns := [], harness := (true, "65f091cb71fe5eab692e20a2400e94e932dbb0dbacaccecc9e5f0fa7d2ec13e4"), looks := false }, kinds := [], alts := [], laidByText := true, laidKinds := [.data, .data], laidTests := true, laidLooks := .later }
def TowerReckonsCardSaid : Prop := Claim7.holds Tryd.pinned (.plain (OpenSpec.ofChange towerReckonsSpec)) towerReckonsCard

/-- THE TIED CARD OF 'cressetlaw06.TowerCubics'. -/
def towerCubicsCard : Claim7 := { stood := { row := towerCubicsRow, standIns := [], harness := (true, "65f091cb71fe5eab692e20a2400e94e932dbb0dbacaccecc9e5f0fa7d2ec13e4"), looks := false }, kinds := [], alts := [], laidByText := true, laidKinds := [.data, .data], laidTests := true, laidLooks := .later }
def TowerCubicsCardSaid : Prop := Claim7.holds Tryd.pinned (.plain (OpenSpec.ofChange towerCubicsSpec)) towerCubicsCard

/-- THE TIED CARD OF 'cressetlaw06.TowerRules'. -/
def towerRulesCard : Claim7 := { stood := { row := towerRulesRow, standIns := [], harness := (true, "65f091cb71fe5eab692e20a2400e94e932dbb0dbacaccecc9e5f0fa7d2ec13e4"), looks := false }, kinds := [], alts := [], laidByText := true, laidKinds := [.data, .data], laidTests := true, laidLooks := .later }
def TowerRulesCardSaid : Prop := Claim7.holds Tryd.pinned (.plain (OpenSpec.ofChange towerRulesSpec)) towerRulesCard

/-- THE TIED CARD OF 'cressetlaw06.TowerFrob'. -/
def towerFrobCard : Claim7 := { stood := { row := towerFrobRow, standIns := [], harness := (true, "65f091cb71fe5eab692e20a2400e94e932dbb0dbacaccecc9e5f0fa7d2ec13e4"), looks := false }, kinds := [], alts := [], laidByText := true, laidKinds := [.data, .data], laidTests := true, laidLooks := .later }
def TowerFrobCardSaid : Prop := Claim7.holds Tryd.pinned (.plain (OpenSpec.ofChange towerFrobSpec)) towerFrobCard

/-- THE TIED CARD OF 'cressetlaw06.TowerPowers'. -/
def towerPowersCard : Claim7 := { stood := { row := towerPowersRow, standIns := [], harness := (true, "65f091cb71fe5eab692e20a2400e94e932dbb0dbacaccecc9e5f0fa7d2ec13e4"), looks := false }, kinds := [], alts := [], laidByText := true, laidKinds := [.data, .data], laidTests := true, laidLooks := .later }
def TowerPowersCardSaid : Prop := Claim7.holds Tryd.pinned (.plain (OpenSpec.ofChange towerPowersSpec)) towerPowersCard

/-- THE TIED CARD OF 'cressetlaw06.TowerLines'. -/
def towerLinesCard : Claim7 := { stood := { row := towerLinesRow, standIns := [], harness := (true, "65f091cb71fe5eab692e20a2400e94e932dbb0dbacaccecc9e5f0fa7d2ec13e4"), looks := false }, kinds := [], alts := [], laidByText := true, laidKinds := [.data, .data], laidTests := true, laidLooks := .later }
def TowerLinesCardSaid : Prop := Claim7.holds Tryd.pinned (.plain (OpenSpec.ofChange towerLinesSpec)) towerLinesCard

/-- THE SECOND FORM's CARD OF 'cressetlaw03.FrReads'. -/
def frReadsUptoCard : Claim7 := { stood := { row := frReadsUptoRow, standIns := [], harness := (true, "65f091cb71fe5eab692e20a2400e94e932dbb0dbacaccecc9e5f0fa7d2ec13e4"), looks := false }, kinds := [], alts := [], laidByText := true, laidKinds := [.data, .data], laidTests := true, laidLooks := .later }
def FrReadsUptoCardSaid : Prop := Claim7.holds Tryd.pinned (.plain (OpenSpec.upto frReadsSpec)) frReadsUptoCard

/-- THE SECOND FORM's CARD OF 'cressetlaw03.FrWide'. -/
def frWideUptoCard : Claim7 := { stood := { row := frWideUptoRow, standIns := [], harness := (true, "65f091cb71fe5eab692e20a2400e94e932dbb0dbacaccecc9e5f0fa7d2ec13e4"), looks := false }, kinds := [], alts := [], laidByText := true, laidKinds := [.data, .data, .data], laidTests := true, laidLooks := .later }
def FrWideUptoCardSaid : Prop := Claim7.holds Tryd.pinned (.plain (OpenSpec.upto frWideSpec)) frWideUptoCard

/-- THE SECOND FORM's CARD OF 'cressetlaw03.FrReckons'. -/
def frReckonsUptoCard : Claim7 := { stood := { row := frReckonsUptoRow, standIns := [], harness := (true, "65f091cb71fe5eab692e20a2400e94e932dbb0dbacaccecc9e5f0fa7d2ec13e4"), looks := false }, kinds := [], alts := [], laidByText := true, laidKinds := [.data, .data], laidTests := true, laidLooks := .later }
def FrReckonsUptoCardSaid : Prop := Claim7.holds Tryd.pinned (.plain (OpenSpec.upto frReckonsSpec)) frReckonsUptoCard

/-- THE SECOND FORM's CARD OF 'cressetlaw04.FpReads'. -/
def fpReadsUptoCard : Claim7 := { stood := { row := fpReadsUptoRow, standIns := [], harness := (true, "65f091cb71fe5eab692e20a2400e94e932dbb0dbacaccecc9e5f0fa7d2ec13e4"), looks := false }, kinds := [], alts := [], laidByText := true, laidKinds := [.data, .data, .data, .data], laidTests := true, laidLooks := .later }
def FpReadsUptoCardSaid : Prop := Claim7.holds Tryd.pinned (.plain (OpenSpec.upto fpReadsSpec)) fpReadsUptoCard

/-- THE SECOND FORM's CARD OF 'cressetlaw04.FpWide'. -/
def fpWideUptoCard : Claim7 := { stood := { row := fpWideUptoRow, standIns := [], harness := (true, "65f091cb71fe5eab692e20a2400e94e932dbb0dbacaccecc9e5f0fa7d2ec13e4"), looks := false }, kinds := [], alts := [], laidByText := true, laidKinds := [.data, .data, .data, .data, .data], laidTests := true, laidLooks := .later }
def FpWideUptoCardSaid : Prop := Claim7.holds Tryd.pinned (.plain (OpenSpec.upto fpWideSpec)) fpWideUptoCard

/-- THE SECOND FORM's CARD OF 'cressetlaw04.FpReckons'. -/
def fpReckonsUptoCard : Claim7 := { stood := { row := fpReckonsUptoRow, standIns := [], harness := (true, "65f091cb71fe5eab692e20a2400e94e932dbb0dbacaccecc9e5f0fa7d2ec13e4"), looks := false }, kinds := [], alts := [], laidByText := true, laidKinds := [.data, .data, .data, .data], laidTests := true, laidLooks := .later }
def FpReckonsUptoCardSaid : Prop := Claim7.holds Tryd.pinned (.plain (OpenSpec.upto fpReckonsSpec)) fpReckonsUptoCard

/-- THE SECOND FORM's CARD OF 'cressetlaw04.FpRoots'. -/
def fpRootsUptoCard : Claim7 := { stood := { row := fpRootsUptoRow, standIns := [], harness := (true, "65f091cb71fe5eab692e20a2400e94e932dbb0dbacaccecc9e5f0fa7d2ec13e4"), looks := false }, kinds := [], alts := [], laidByText := true, laidKinds := [.data, .data, .data, .data], laidTests := true, laidLooks := .later }
def FpRootsUptoCardSaid : Prop := Claim7.holds Tryd.pinned (.plain (OpenSpec.upto fpRootsSpec)) fpRootsUptoCard

/-- THE SECOND FORM's CARD OF 'cressetlaw05.Fp2Reads'. -/
def fp2ReadsUptoCard : Claim7 := { stood := { row := fp2ReadsUptoRow, standIns := [], harness := (true, "65f091cb71fe5eab692e20a2400e94e932dbb0dbacaccecc9e5f0fa7d2ec13e4"), looks := false }, kinds := [], alts := [], laidByText := true, laidKinds := [.data, .data], laidTests := true, laidLooks := .later }
def Fp2ReadsUptoCardSaid : Prop := Claim7.holds Tryd.pinned (.plain (OpenSpec.upto fp2ReadsSpec)) fp2ReadsUptoCard

/-- THE SECOND FORM's CARD OF 'cressetlaw05.Fp2Reckons'. -/
def fp2ReckonsUptoCard : Claim7 := { stood := { row := fp2ReckonsUptoRow, standIns := [], harness := (true, "65f091cb71fe5eab692e20a2400e94e932dbb0dbacaccecc9e5f0fa7d2ec13e4"), looks := false }, kinds := [], alts := [], laidByText := true, laidKinds := [.data, .data], laidTests := true, laidLooks := .later }
def Fp2ReckonsUptoCardSaid : Prop := Claim7.holds Tryd.pinned (.plain (OpenSpec.upto fp2ReckonsSpec)) fp2ReckonsUptoCard

/-- THE SECOND FORM's CARD OF 'cressetlaw05.Fp2Roots'. -/
def fp2RootsUptoCard : Claim7 := { stood := { row := fp2RootsUptoRow, standIns := [], harness := (true, "65f091cb71fe5eab692e20a2400e94e932dbb0dbacaccecc9e5f0fa7d2ec13e4"), looks := false }, kinds := [], alts := [], laidByText := true, laidKinds := [.data, .data, .data, .data], laidTests := true, laidLooks := .later }
def Fp2RootsUptoCardSaid : Prop := Claim7.holds Tryd.pinned (.plain (OpenSpec.upto fp2RootsSpec)) fp2RootsUptoCard

/-- THE SECOND FORM's CARD OF 'cressetlaw05.Fp2Squares'. -/
def fp2SquaresUptoCard : Claim7 := { stood := { row := fp2SquaresUptoRow, standIns := [], harness := (true, "65f091cb71fe5eab692e20a2400e94e932dbb0dbacaccecc9e5f0fa7d2ec13e4"), looks := false }, kinds := [], alts := [], laidByText := true, laidKinds := [.data, .data, .data, .data, .data], laidTests := true, laidLooks := .later }
def Fp2SquaresUptoCardSaid : Prop := Claim7.holds Tryd.pinned (.plain (OpenSpec.upto fp2SquaresSpec)) fp2SquaresUptoCard

/-- THE SECOND FORM's CARD OF 'cressetlaw05.Fp2Rules'. -/
def fp2RulesUptoCard : Claim7 := { stood := { row := fp2RulesUptoRow, standIns := [], harness := (true, "65f091cb71fe5eab692e20a2400e94e932dbb0dbacaccecc9e5f0fa7d2ec13e4"), looks := false }, kinds := [], alts := [], laidByText := true, laidKinds := [.data, .data, .data], laidTests := true, laidLooks := .later }
def Fp2RulesUptoCardSaid : Prop := Claim7.holds Tryd.pinned (.plain (OpenSpec.upto fp2RulesSpec)) fp2RulesUptoCard

/-- THE SECOND FORM's CARD OF 'cressetlaw05.Fp2Turns'. -/
def fp2TurnsUptoCard : Claim7 := { stood := { row := fp2TurnsUptoRow, standIns := [], harness := (true, "65f091cb71fe5eab692e20a2400e94e932dbb0dbacaccecc9e5f0fa7d2ec13e4"), looks := false }, kinds := [], alts := [], laidByText := true, laidKinds := [.data, .data, .data], laidTests := true, laidLooks := .later }
def Fp2TurnsUptoCardSaid : Prop := Claim7.holds Tryd.pinned (.plain (OpenSpec.upto fp2TurnsSpec)) fp2TurnsUptoCard

/-- THE SECOND FORM's CARD OF 'cressetlaw06.TowerReckons'. -/
def towerReckonsUptoCard : Claim7 := { stood := { row := towerReckonsUptoRow, standIns := [], harness := (true, "65f091cb71fe5eab692e20a2400e94e932dbb0dbacaccecc9e5f0fa7d2ec13e4"), looks := false }, kinds := [], alts := [], laidByText := true, laidKinds := [.data, .data], laidTests := true, laidLooks := .later }
def TowerReckonsUptoCardSaid : Prop := Claim7.holds Tryd.pinned (.plain (OpenSpec.upto towerReckonsSpec)) towerReckonsUptoCard

/-- THE SECOND FORM's CARD OF 'cressetlaw06.TowerCubics'. -/
def towerCubicsUptoCard : Claim7 := { stood := { row := towerCubicsUptoRow, standIns := [], harness := (true, "65f091cb71fe5eab692e20a2400e94e932dbb0dbacaccecc9e5f0fa7d2ec13e4"), looks := false }, kinds := [], alts := [], laidByText := true, laidKinds := [.data, .data], laidTests := true, laidLooks := .later }
def TowerCubicsUptoCardSaid : Prop := Claim7.holds Tryd.pinned (.plain (OpenSpec.upto towerCubicsSpec)) towerCubicsUptoCard

/-- THE SECOND FORM's CARD OF 'cressetlaw06.TowerRules'. -/
def towerRulesUptoCard : Claim7 := { stood := { row := towerRulesUptoRow, standIns := [], harness := (true, "65f091cb71fe5eab692e20a2400e94e932dbb0dbacaccecc9e5f0fa7d2ec13e4"), looks := false }, kinds := [], alts := [], laidByText := true, laidKinds := [.data, .data], laidTests := true, laidLooks := .later }
def TowerRulesUptoCardSaid : Prop := Claim7.holds Tryd.pinned (.plain (OpenSpec.upto towerRulesSpec)) towerRulesUptoCard

/-- THE SECOND FORM's CARD OF 'cressetlaw06.TowerFrob'. -/
def towerFrobUptoCard : Claim7 := { stood := { row := towerFrobUptoRow, standIns := [], harness := (true, "65f091cb71fe5eab692e20a2400e94e932dbb0dbacaccecc9e5f0fa7d2ec13e4"), looks := false }, kinds := [], alts := [], laidByText := true, laidKinds := [.data, .data], laidTests := true, laidLooks := .later }
def TowerFrobUptoCardSaid : Prop := Claim7.holds Tryd.pinned (.plain (OpenSpec.upto towerFrobSpec)) towerFrobUptoCard

/-- THE SECOND FORM's CARD OF 'cressetlaw06.TowerPowers'. -/
def towerPowersUptoCard : Claim7 := { stood := { row := towerPowersUptoRow, standIns := [], harness := (true, "65f091cb71fe5eab692e20a2400e94e932dbb0dbacaccecc9e5f0fa7d2ec13e4"), looks := false }, kinds := [], alts := [], laidByText := true, laidKinds := [.data, .data], laidTests := true, laidLooks := .later }
def TowerPowersUptoCardSaid : Prop := Claim7.holds Tryd.pinned (.plain (OpenSpec.upto towerPowersSpec)) towerPowersUptoCard

/-- THE SECOND FORM's CARD OF 'cressetlaw06.TowerLines'. -/
def towerLinesUptoCard : Claim7 := { stood := { row := towerLinesUptoRow, standIns := [], harness := (true, "65f091cb71fe5eab692e20a2400e94e932dbb0dbacaccecc9e5f0fa7d2ec13e4"), looks := false }, kinds := [], alts := [], laidByText := true, laidKinds := [.data, .data], laidTests := true, laidLooks := .later }
def TowerLinesUptoCardSaid : Prop := Claim7.holds Tryd.pinned (.plain (OpenSpec.upto towerLinesSpec)) towerLinesUptoCard
end Rows
end Go.Proofs.YtclfmdaafpachaaDoor
