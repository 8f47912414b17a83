/-
  DERIVED. GIVEN WITH THE SEED: THE CARDS: each row of YtnebmgiajfbnaaaDoorRows.lean that lists a variable, with what it lists TIED to the program's text (the seventh form; the later family's looks); each row that meets fmt, with fmt's text TOLD by the authors' own Lean function (tested against real Go, not proved from fmt's source: count such statements apart). THE CARD IS WHAT COUNTS. Prove the row's statement (the work); the ties are given (YtnebmgiajfbnaaaDoorTie.lean); close each card by the builder's one call (the guide's Derived/Test/ToyasCard.lean, 'card_holds'). Laid BY PROGRAM, IN A SANDBOX (cutbox-door.mjs). By AI agents, Wed Nov 11 2026. No macro, syntax, notation, axiom, sorry.
-/
import Derived.Test.YtnebmgiajfbnaaaDoorRows
import GoSem.ClaimSeven
namespace Go.Proofs.YtnebmgiajfbnaaaDoor
namespace Rows

/-- THE TIED CARD OF 'cressetlaw04.FpSquares'. -/
def fpSquaresCard : Claim7 := { stood := { row := fpSquaresRow, standIns := [], harness := (true, "9aff27c945df3901d9f22a04bf89fc7564ca16453c693c6ef8b283e3e68a76b4"), looks := false }, kinds := [], alts := [], laidByText := true, laidKinds := [.data, .data, .data, .data], laidTests := true, laidLooks := .later }
def FpSquaresCardSaid : Prop := Claim7.holds Tryd.pinned (.plain (OpenSpec.ofChange fpSquaresSpec)) fpSquaresCard

/-- THE TIED CARD OF 'cressetlaw05.Fp2Turns'. -/
def fp2TurnsCard : Claim7 := { stood := { row := fp2TurnsRow, standIns := [], harness := (true, "9aff27c945df3901d9f22a04bf89fc7564ca16453c693c6ef8b283e3e68a76b4"), looks := false }, kinds := [], alts := [], laidByText := true, laidKinds := [.data, .data], laidTests := true, laidLooks := .later }
def Fp2TurnsCardSaid : Prop := Claim7.holds Tryd.pinned (.plain (OpenSpec.ofChange fp2TurnsSpec)) fp2TurnsCard

/-- THE TIED CARD OF 'cressetlaw05.Fp2Rules'. -/
def fp2RulesCard : Claim7 := { stood := { row := fp2RulesRow, standIns := [], harness := (true, "9aff27c945df3901d9f22a04bf89fc7564ca16453c693c6ef8b283e3e68a76b4"), looks := false }, kinds := [], alts := [], laidByText := true, laidKinds := [.data, .data], laidTests := true, laidLooks := .later }
def Fp2RulesCardSaid : Prop := Claim7.holds Tryd.pinned (.plain (OpenSpec.ofChange fp2RulesSpec)) fp2RulesCard

/-- THE TIED CARD OF 'cressetlaw06.TowerCubics'. -/
def towerCubicsCard : Claim7 := { stood := { row := towerCubicsRow, standIns := [], harness := (true, "9aff27c945df3901d9f22a04bf89fc7564ca16453c693c6ef8b283e3e68a76b4"), looks := false }, kinds := [], alts := [], laidByText := true, laidKinds := [.data, .data], laidTests := true, laidLooks := .later }
def TowerCubicsCardSaid : Prop := Claim7.holds Tryd.pinned (.plain (OpenSpec.ofChange towerCubicsSpec)) towerCubicsCard

/-- THE TIED CARD OF 'cressetlaw06.TowerRules'. -/
def towerRulesCard : Claim7 := { stood := { row := towerRulesRow, standIns := [], harness := (true, "9aff27c945df3901d9f22a04bf89fc7564ca16453c693c6ef8b283e3e68a76b4"), looks := false }, kinds := [], alts := [], laidByText := true, laidKinds := [.data, .data], laidTests := true, laidLooks := .later }
def TowerRulesCardSaid : Prop := Claim7.holds Tryd.pinned (.plain (OpenSpec.ofChange towerRulesSpec)) towerRulesCard

/-- THE TIED CARD OF 'cressetlaw06.TowerFrob'. -/
def towerFrobCard : Claim7 := { stood := { row := towerFrobRow, standIns := [], harness := (true, "9aff27c945df3901d9f22a04bf89fc7564ca16453c693c6ef8b283e3e68a76b4"), looks := false }, kinds := [], alts := [], laidByText := true, laidKinds := [.data, .data], laidTests := true, laidLooks := .later }
def TowerFrobCardSaid : Prop := Claim7.holds Tryd.pinned (.plain (OpenSpec.ofChange towerFrobSpec)) towerFrobCard

/-- THE TIED CARD OF 'cressetlaw06.TowerPowers'. -/
def towerPowersCard : Claim7 := { stood := { row := towerPowersRow, standIns := [], harness := (true, "9aff27c945df3901d9f22a04bf89fc7564ca16453c693c6ef8b283e3e68a76b4"), looks := false }, kinds := [], alts := [], laidByText := true, laidKinds := [.data, .data], laidTests := true, laidLooks := .later }
def TowerPowersCardSaid : Prop := Claim7.holds Tryd.pinned (.plain (OpenSpec.ofChange towerPowersSpec)) towerPowersCard

/-- THE TIED CARD OF 'cressetlaw06.TowerLines'. -/
def towerLinesCard : Claim7 := { stood := { row := towerLinesRow, standIns := [], harness := (true, "9aff27c945df3901d9f22a04bf89fc7564ca16453c693c6ef8b283e3e68a76b4"), looks := false }, kinds := [], alts := [], laidByText := true, laidKinds := [.data, .data], laidTests := true, laidLooks := .later }
def TowerLinesCardSaid : Prop := Claim7.holds Tryd.pinned (.plain (OpenSpec.ofChange towerLinesSpec)) towerLinesCard

/-- THE SECOND FORM's CARD OF 'cressetlaw04.FpSquares'. -/
def fpSquaresUptoCard : Claim7 := { stood := { row := fpSquaresUptoRow, standIns := [], harness := (true, "9aff27c945df3901d9f22a04bf89fc7564ca16453c693c6ef8b283e3e68a76b4"), looks := false }, kinds := [], alts := [], laidByText := true, laidKinds := [.data, .data, .data, .data], laidTests := true, laidLooks := .later }
def FpSquaresUptoCardSaid : Prop := Claim7.holds Tryd.pinned (.plain (OpenSpec.upto fpSquaresSpec)) fpSquaresUptoCard

/-- THE SECOND FORM's CARD OF 'cressetlaw05.Fp2Turns'. -/
def fp2TurnsUptoCard : Claim7 := { stood := { row := fp2TurnsUptoRow, standIns := [], harness := (true, "9aff27c945df3901d9f22a04bf89fc7564ca16453c693c6ef8b283e3e68a76b4"), looks := false }, kinds := [], alts := [], laidByText := true, laidKinds := [.data, .data], laidTests := true, laidLooks := .later }
def Fp2TurnsUptoCardSaid : Prop := Claim7.holds Tryd.pinned (.plain (OpenSpec.upto fp2TurnsSpec)) fp2TurnsUptoCard

/-- THE SECOND FORM's CARD OF 'cressetlaw05.Fp2Rules'. -/
def fp2RulesUptoCard : Claim7 := { stood := { row := fp2RulesUptoRow, standIns := [], harness := (true, "9aff27c945df3901d9f22a04bf89fc7564ca16453c693c6ef8b283e3e68a76b4"), looks := false }, kinds := [], alts := [], laidByText := true, laidKinds := [.data, .data], laidTests := true, laidLooks := .later }
def Fp2RulesUptoCardSaid : Prop := Claim7.holds Tryd.pinned (.plain (OpenSpec.upto fp2RulesSpec)) fp2RulesUptoCard

/-- THE SECOND FORM's CARD OF 'cressetlaw06.TowerCubics'. -/
def towerCubicsUptoCard : Claim7 := { stood := { row := towerCubicsUptoRow, standIns := [], harness := (true, "9aff27c945df3901d9f22a04bf89fc7564ca16453c693c6ef8b283e3e68a76b4"), looks := false }, kinds := [], alts := [], laidByText := true, laidKinds := [.data, .data], laidTests := true, laidLooks := .later }
def TowerCubicsUptoCardSaid : Prop := Claim7.holds Tryd.pinned (.plain (OpenSpec.upto towerCubicsSpec)) towerCubicsUptoCard

/-- THE SECOND FORM's CARD OF 'cressetlaw06.TowerRules'. -/
def towerRulesUptoCard : Claim7 := { stood := { row := towerRulesUptoRow, standIns := [], harness := (true, "9aff27c945df3901d9f22a04bf89fc7564ca16453c693c6ef8b283e3e68a76b4"), looks := false }, kinds := [], alts := [], laidByText := true, laidKinds := [.data, .data], laidTests := true, laidLooks := .later }
def TowerRulesUptoCardSaid : Prop := Claim7.holds Tryd.pinned (.plain (OpenSpec.upto towerRulesSpec)) towerRulesUptoCard

/-- THE SECOND FORM's CARD OF 'cressetlaw06.TowerFrob'. -/
def towerFrobUptoCard : Claim7 := { stood := { row := towerFrobUptoRow, standIns := [], harness := (true, "9aff27c945df3901d9f22a04bf89fc7564ca16453c693c6ef8b283e3e68a76b4"), looks := false }, kinds := [], alts := [], laidByText := true, laidKinds := [.data, .data], laidTests := true, laidLooks := .later }
def TowerFrobUptoCardSaid : Prop := Claim7.holds Tryd.pinned (.plain (OpenSpec.upto towerFrobSpec)) towerFrobUptoCard

/-- THE SECOND FORM's CARD OF 'cressetlaw06.TowerPowers'. -/
def towerPowersUptoCard : Claim7 := { stood := { row := towerPowersUptoRow, standIns := [], harness := (true, "9aff27c945df3901d9f22a04bf89fc7564ca16453c693c6ef8b283e3e68a76b4"), looks := false }, kinds := [], alts := [], laidByText := true, laidKinds := [.data, .data], laidTests := true, laidLooks := .later }
def TowerPowersUptoCardSaid : Prop := Claim7.holds Tryd.pinned (.plain (OpenSpec.upto towerPowersSpec)) towerPowersUptoCard

/-- THE SECOND FORM's CARD OF 'cressetlaw06.TowerLines'. -/
def towerLinesUptoCard : Claim7 := { stood := { row := towerLinesUptoRow, standIns := [], harness := (true, "9aff27c945df3901d9f22a04bf89fc7564ca16453c693c6ef8b283e3e68a76b4"), looks := false }, kinds := [], alts := [], laidByText := true, laidKinds := [.data, .data], laidTests := true, laidLooks := .later }
def TowerLinesUptoCardSaid : Prop := Claim7.holds Tryd.pinned (.plain (OpenSpec.upto towerLinesSpec)) towerLinesUptoCard
end Rows
end Go.Proofs.YtnebmgiajfbnaaaDoor
