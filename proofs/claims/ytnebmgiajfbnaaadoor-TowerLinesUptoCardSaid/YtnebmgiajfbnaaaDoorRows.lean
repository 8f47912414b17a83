/-
  NARROWER THAN 'FOR EVERY INPUT', by the rows' own cells (each row's printed sentence says how): FpSquares: laid · Fp2Turns: laid · Fp2Rules: laid · TowerCubics: laid · TowerRules: laid · TowerFrob: laid · TowerPowers: laid · TowerLines: laid.
  DERIVED. THE GIVEN ROWS OF THIS SEAT. 8 by the template 'for every input the law returns true; each argument reads behind the call as it read before'; 0 by the template 'total and deterministic' (their statements: YtnebmgiajfbnaaaDoorTotals.lean).
  GIVEN WITH THE SEED: the statements are not yours to turn. If you find one false, say at which input.
  Laid BY PROGRAM, IN A SANDBOX (cutbox-rows.mjs): the forced cells as the released guide's own fill.sh prints them over the translation 66e4606ec746a9bf… (all of the seat's roots in one cut). By AI agents, Wed Nov 11 2026. No macro, syntax, notation, axiom, sorry.
-/
import Derived.Test.YtnebmgiajfbnaaaDoorChecked
import GoSem.Claim
import GoSem.ClaimJoined
import GoSem.ClaimMapViews
import Derived.JoinedTies
import Derived.KernelRfl
namespace Go.Proofs.YtnebmgiajfbnaaaDoor
/- THE CELL 'sum', in the pinned program and in every row, IS THE sha256 OF THE DUMP (.gsa) THAT YtnebmgiajfbnaaaDoorProg.lean LOADS. Nothing in Lean hashes anything: it is a label: what it is worth is what the hold of that sum in a sandbox is worth. -/
noncomputable def Tryd.pinned : Pinned := { name := "ytnebmgiajfbnaaadoor", sum := "66e4606ec746a9bfc4160cdd52dfc5f75133cdc388f61445782c4963a3e9bb92", checked := Tryd.checked }
namespace Rows
def none {H : Type} : Left H := { results := [], args := [] }

/- WHAT THE LISTED PACKAGE-LEVEL VARIABLES READ AS WHEN THE CALL BEGINS. Each datum BY PROGRAM (the guide's laid-datum.mjs) off the statement by which the dump's own 'gosem.cut.vars' lays the variable. In a bare row this is a premise. The card (YtnebmgiajfbnaaaDoorCards.lean) ties it to the program's text. -/
def laid_cresset_fp_upper {H : Type} : DataW H := .agg [.lit (.int .u64 15924587544893707606), .lit (.int .u64 1105070755758604287), .lit (.int .u64 12941209323636816658), .lit (.int .u64 12843041017062132063), .lit (.int .u64 2706051889235351147), .lit (.int .u64 936899308823769933)]
def laid_cresset_fp_quarter {H : Type} : DataW H := .agg [.lit (.int .u64 17185665809301629611), .lit (.int .u64 552535377879302143), .lit (.int .u64 15693976698673184137), .lit (.int .u64 15644892545385841839), .lit (.int .u64 10576397981472451381), .lit (.int .u64 468449654411884966)]
def laid_cresset_fp_square {H : Type} : DataW H := .agg [.agg [.lit (.int .u64 17644856173732828998), .lit (.int .u64 754043588434789617), .lit (.int .u64 10224657059481499349), .lit (.int .u64 7488229067341005760), .lit (.int .u64 11130996698012816685), .lit (.int .u64 1267921511277847466)]]
def laid_cresset_fp_shift {H : Type} : DataW H := .agg [.agg [.lit (.int .u64 4807590280750076774), .lit (.int .u64 8612159356199394243), .lit (.int .u64 12878354973820563945), .lit (.int .u64 2337167537087690866), .lit (.int .u64 6431483094484234427), .lit (.int .u64 293241525500371865)]]
def laid_cresset_fp_modulus {H : Type} : DataW H := .agg [.lit (.int .u64 13402431016077863595), .lit (.int .u64 2210141511517208575), .lit (.int .u64 7435674573564081700), .lit (.int .u64 7239337960414712511), .lit (.int .u64 5412103778470702295), .lit (.int .u64 1873798617647539866)]

/-- 'cressetlaw04.FpSquares': WHATEVER THE INPUT: true; the input reads as it did. -/
def fpSquaresSpec : ChangeSpec := { name := "fpSquares", fn := fun _ => fun
  | [d] => { results := [.lit (.bool true)], args := [d] }
  | _ => none }
def fpSquaresRow : OpenClaim := { program := "ytnebmgiajfbnaaadoor", sum := "66e4606ec746a9bfc4160cdd52dfc5f75133cdc388f61445782c4963a3e9bb92", func := "cresset/cressetlaw04.FpSquares", spec := "fpSquares", inPlace := ["math/bits.Add64", "math/bits.Sub64"], named := ["cresset/fp.square", "cresset/fp.quarter", "cresset/fp.upper", "cresset/fp.shift"], apart := false, laid := [("cresset/fp.upper", laid_cresset_fp_upper), ("cresset/fp.quarter", laid_cresset_fp_quarter), ("cresset/fp.square", laid_cresset_fp_square), ("cresset/fp.shift", laid_cresset_fp_shift)] }
def FpSquaresSaid : Prop := fpSquaresRow.holds Tryd.pinned (OpenSpec.ofChange fpSquaresSpec)

/-- ITS FALSE NEIGHBOUR: 'it returns false'. Refute it at one input. -/
def fpSquaresWrong : ChangeSpec := { name := "fpSquares", fn := fun _ => fun
  | [d] => { results := [.lit (.bool false)], args := [d] }
  | _ => none }
def FpSquaresWrongFalsely : Prop := fpSquaresRow.holds Tryd.pinned (OpenSpec.ofChange fpSquaresWrong)

/-- 'cressetlaw05.Fp2Turns': WHATEVER THE INPUT: true; the input reads as it did. -/
def fp2TurnsSpec : ChangeSpec := { name := "fp2Turns", fn := fun _ => fun
  | [d1, d2] => { results := [.lit (.bool true)], args := [d1, d2] }
  | _ => none }
def fp2TurnsRow : OpenClaim := { program := "ytnebmgiajfbnaaadoor", sum := "66e4606ec746a9bfc4160cdd52dfc5f75133cdc388f61445782c4963a3e9bb92", func := "cresset/cressetlaw05.Fp2Turns", spec := "fp2Turns", inPlace := ["math/bits.Add64", "math/bits.Sub64"], named := ["cresset/fp.square", "cresset/fp.shift"], apart := false, laid := [("cresset/fp.square", laid_cresset_fp_square), ("cresset/fp.shift", laid_cresset_fp_shift)] }
def Fp2TurnsSaid : Prop := fp2TurnsRow.holds Tryd.pinned (OpenSpec.ofChange fp2TurnsSpec)

/-- ITS FALSE NEIGHBOUR: 'it returns false'. Refute it at one input. -/
def fp2TurnsWrong : ChangeSpec := { name := "fp2Turns", fn := fun _ => fun
  | [d1, d2] => { results := [.lit (.bool false)], args := [d1, d2] }
  | _ => none }
def Fp2TurnsWrongFalsely : Prop := fp2TurnsRow.holds Tryd.pinned (OpenSpec.ofChange fp2TurnsWrong)

/-- 'cressetlaw05.Fp2Rules': WHATEVER THE INPUT: true; the input reads as it did. -/
def fp2RulesSpec : ChangeSpec := { name := "fp2Rules", fn := fun _ => fun
  | [d1, d2, d3, d4] => { results := [.lit (.bool true)], args := [d1, d2, d3, d4] }
  | _ => none }
def fp2RulesRow : OpenClaim := { program := "ytnebmgiajfbnaaadoor", sum := "66e4606ec746a9bfc4160cdd52dfc5f75133cdc388f61445782c4963a3e9bb92", func := "cresset/cressetlaw05.Fp2Rules", spec := "fp2Rules", inPlace := ["math/bits.Add64", "math/bits.Sub64"], named := ["cresset/fp.square", "cresset/fp.shift"], apart := false, laid := [("cresset/fp.square", laid_cresset_fp_square), ("cresset/fp.shift", laid_cresset_fp_shift)] }
def Fp2RulesSaid : Prop := fp2RulesRow.holds Tryd.pinned (OpenSpec.ofChange fp2RulesSpec)

/-- ITS FALSE NEIGHBOUR: 'it returns false'. Refute it at one input. -/
def fp2RulesWrong : ChangeSpec := { name := "fp2Rules", fn := fun _ => fun
  | [d1, d2, d3, d4] => { results := [.lit (.bool false)], args := [d1, d2, d3, d4] }
  | _ => none }
def Fp2RulesWrongFalsely : Prop := fp2RulesRow.holds Tryd.pinned (OpenSpec.ofChange fp2RulesWrong)

/-- 'cressetlaw06.TowerCubics': WHATEVER THE INPUT: true; the input reads as it did. -/
def towerCubicsSpec : ChangeSpec := { name := "towerCubics", fn := fun _ => fun
  | [d1, d2] => { results := [.lit (.bool true)], args := [d1, d2] }
  | _ => none }
def towerCubicsRow : OpenClaim := { program := "ytnebmgiajfbnaaadoor", sum := "66e4606ec746a9bfc4160cdd52dfc5f75133cdc388f61445782c4963a3e9bb92", func := "cresset/cressetlaw06.TowerCubics", spec := "towerCubics", inPlace := ["math/bits.Add64", "math/bits.Sub64"], named := ["cresset/fp.square", "cresset/fp.modulus"], apart := false, laid := [("cresset/fp.modulus", laid_cresset_fp_modulus), ("cresset/fp.square", laid_cresset_fp_square)] }
def TowerCubicsSaid : Prop := towerCubicsRow.holds Tryd.pinned (OpenSpec.ofChange towerCubicsSpec)

/-- ITS FALSE NEIGHBOUR: 'it returns false'. Refute it at one input. -/
def towerCubicsWrong : ChangeSpec := { name := "towerCubics", fn := fun _ => fun
  | [d1, d2] => { results := [.lit (.bool false)], args := [d1, d2] }
  | _ => none }
def TowerCubicsWrongFalsely : Prop := towerCubicsRow.holds Tryd.pinned (OpenSpec.ofChange towerCubicsWrong)

/-- 'cressetlaw06.TowerRules': WHATEVER THE INPUT: true; the input reads as it did. -/
def towerRulesSpec : ChangeSpec := { name := "towerRules", fn := fun _ => fun
  | [d1, d2, d3] => { results := [.lit (.bool true)], args := [d1, d2, d3] }
  | _ => none }
def towerRulesRow : OpenClaim := { program := "ytnebmgiajfbnaaadoor", sum := "66e4606ec746a9bfc4160cdd52dfc5f75133cdc388f61445782c4963a3e9bb92", func := "cresset/cressetlaw06.TowerRules", spec := "towerRules", inPlace := ["math/bits.Add64", "math/bits.Sub64"], named := ["cresset/fp.square", "cresset/fp.modulus"], apart := false, laid := [("cresset/fp.modulus", laid_cresset_fp_modulus), ("cresset/fp.square", laid_cresset_fp_square)] }
def TowerRulesSaid : Prop := towerRulesRow.holds Tryd.pinned (OpenSpec.ofChange towerRulesSpec)

/-- ITS FALSE NEIGHBOUR: 'it returns false'. Refute it at one input. -/
def towerRulesWrong : ChangeSpec := { name := "towerRules", fn := fun _ => fun
  | [d1, d2, d3] => { results := [.lit (.bool false)], args := [d1, d2, d3] }
  | _ => none }
def TowerRulesWrongFalsely : Prop := towerRulesRow.holds Tryd.pinned (OpenSpec.ofChange towerRulesWrong)

/-- 'cressetlaw06.TowerFrob': WHATEVER THE INPUT: true; the input reads as it did. -/
def towerFrobSpec : ChangeSpec := { name := "towerFrob", fn := fun _ => fun
  | [d1, d2] => { results := [.lit (.bool true)], args := [d1, d2] }
  | _ => none }
def towerFrobRow : OpenClaim := { program := "ytnebmgiajfbnaaadoor", sum := "66e4606ec746a9bfc4160cdd52dfc5f75133cdc388f61445782c4963a3e9bb92", func := "cresset/cressetlaw06.TowerFrob", spec := "towerFrob", inPlace := ["math/bits.Add64", "math/bits.Sub64"], named := ["cresset/fp.square", "cresset/fp.modulus"], apart := false, laid := [("cresset/fp.modulus", laid_cresset_fp_modulus), ("cresset/fp.square", laid_cresset_fp_square)] }
def TowerFrobSaid : Prop := towerFrobRow.holds Tryd.pinned (OpenSpec.ofChange towerFrobSpec)

/-- ITS FALSE NEIGHBOUR: 'it returns false'. Refute it at one input. -/
def towerFrobWrong : ChangeSpec := { name := "towerFrob", fn := fun _ => fun
  | [d1, d2] => { results := [.lit (.bool false)], args := [d1, d2] }
  | _ => none }
def TowerFrobWrongFalsely : Prop := towerFrobRow.holds Tryd.pinned (OpenSpec.ofChange towerFrobWrong)

/-- 'cressetlaw06.TowerPowers': WHATEVER THE INPUT: true; the input reads as it did. -/
def towerPowersSpec : ChangeSpec := { name := "towerPowers", fn := fun _ => fun
  | [d1, d2, d3] => { results := [.lit (.bool true)], args := [d1, d2, d3] }
  | _ => none }
def towerPowersRow : OpenClaim := { program := "ytnebmgiajfbnaaadoor", sum := "66e4606ec746a9bfc4160cdd52dfc5f75133cdc388f61445782c4963a3e9bb92", func := "cresset/cressetlaw06.TowerPowers", spec := "towerPowers", inPlace := ["math/bits.Add64", "math/bits.Sub64"], named := ["cresset/fp.square", "cresset/fp.modulus"], apart := false, laid := [("cresset/fp.modulus", laid_cresset_fp_modulus), ("cresset/fp.square", laid_cresset_fp_square)] }
def TowerPowersSaid : Prop := towerPowersRow.holds Tryd.pinned (OpenSpec.ofChange towerPowersSpec)

/-- ITS FALSE NEIGHBOUR: 'it returns false'. Refute it at one input. -/
def towerPowersWrong : ChangeSpec := { name := "towerPowers", fn := fun _ => fun
  | [d1, d2, d3] => { results := [.lit (.bool false)], args := [d1, d2, d3] }
  | _ => none }
def TowerPowersWrongFalsely : Prop := towerPowersRow.holds Tryd.pinned (OpenSpec.ofChange towerPowersWrong)

/-- 'cressetlaw06.TowerLines': WHATEVER THE INPUT: true; the input reads as it did. -/
def towerLinesSpec : ChangeSpec := { name := "towerLines", fn := fun _ => fun
  | [d1, d2] => { results := [.lit (.bool true)], args := [d1, d2] }
  | _ => none }
def towerLinesRow : OpenClaim := { program := "ytnebmgiajfbnaaadoor", sum := "66e4606ec746a9bfc4160cdd52dfc5f75133cdc388f61445782c4963a3e9bb92", func := "cresset/cressetlaw06.TowerLines", spec := "towerLines", inPlace := ["math/bits.Add64", "math/bits.Sub64"], named := ["cresset/fp.square", "cresset/fp.modulus"], apart := false, laid := [("cresset/fp.modulus", laid_cresset_fp_modulus), ("cresset/fp.square", laid_cresset_fp_square)] }
def TowerLinesSaid : Prop := towerLinesRow.holds Tryd.pinned (OpenSpec.ofChange towerLinesSpec)

/-- ITS FALSE NEIGHBOUR: 'it returns false'. Refute it at one input. -/
def towerLinesWrong : ChangeSpec := { name := "towerLines", fn := fun _ => fun
  | [d1, d2] => { results := [.lit (.bool false)], args := [d1, d2] }
  | _ => none }
def TowerLinesWrongFalsely : Prop := towerLinesRow.holds Tryd.pinned (OpenSpec.ofChange towerLinesWrong)

/- THE SECOND FORM. 'bulk': how many values and letters a reading holds, each counted each time it is reached (what is shared counts as often as it is met; a slice's spare places count too). A statement '..UptoSaid' is the law's where the arguments, and the package variables that the reading takes, are together of bulk at most 1048576: NARROWER than '..Said'. Prove '..Said' where nothing that the law and all that it calls make is longer than what came in: it says more and counts as full. Else prove '..UptoSaid'. A law counts once. -/
mutual
def uptoBulk {H : Type} : DataW H → Nat
  | .lit (.string bytes) => bytes.length + 1
  | .lit _ => 1
  | .nil => 1
  | .ptr d => uptoBulk d + 1
  | .slice elems spare => uptoBulkAll elems + uptoBulkAll spare + 1
  | .agg parts => uptoBulkAll parts + 1
  | .iface _ d => uptoBulk d + 1
  | .map entries => uptoBulkEntries entries + 1
  | .held _ => 1
def uptoBulkAll {H : Type} : List (DataW H) → Nat
  | [] => 0
  | d :: r => uptoBulk d + uptoBulkAll r
def uptoBulkEntries {H : Type} : List (Lit × DataW H) → Nat
  | [] => 0
  | x :: r => uptoBulkEntry x + uptoBulkEntries r
def uptoBulkEntry {H : Type} : Lit × DataW H → Nat
  | (.string bytes, d) => bytes.length + uptoBulk d + 1
  | (_, d) => uptoBulk d + 1
 end
def uptoSmall : (H : Type) → List (DataW H) → Bool := fun _ ds => decide (uptoBulkAll ds ≤ 1048576)
def OpenSpec.upto (s : _root_.Go.ChangeSpec) : _root_.Go.OpenSpec := { _root_.Go.OpenSpec.ofChange s with cond := some uptoSmall }

/-- 'cressetlaw04.FpSquares', WHERE WHAT IT READS IS OF BULK AT MOST 1048576: true; the input reads as it did. -/
def fpSquaresUptoRow : OpenClaim := { program := "ytnebmgiajfbnaaadoor", sum := "66e4606ec746a9bfc4160cdd52dfc5f75133cdc388f61445782c4963a3e9bb92", func := "cresset/cressetlaw04.FpSquares", spec := "fpSquares", inPlace := ["math/bits.Add64", "math/bits.Sub64"], named := ["cresset/fp.square", "cresset/fp.quarter", "cresset/fp.upper", "cresset/fp.shift"], apart := false, laid := [("cresset/fp.upper", laid_cresset_fp_upper), ("cresset/fp.quarter", laid_cresset_fp_quarter), ("cresset/fp.square", laid_cresset_fp_square), ("cresset/fp.shift", laid_cresset_fp_shift)], narrowed := true }
def FpSquaresUptoSaid : Prop := fpSquaresUptoRow.holds Tryd.pinned (OpenSpec.upto fpSquaresSpec)

/-- 'cressetlaw05.Fp2Turns', WHERE WHAT IT READS IS OF BULK AT MOST 1048576: true; the input reads as it did. -/
def fp2TurnsUptoRow : OpenClaim := { program := "ytnebmgiajfbnaaadoor", sum := "66e4606ec746a9bfc4160cdd52dfc5f75133cdc388f61445782c4963a3e9bb92", func := "cresset/cressetlaw05.Fp2Turns", spec := "fp2Turns", inPlace := ["math/bits.Add64", "math/bits.Sub64"], named := ["cresset/fp.square", "cresset/fp.shift"], apart := false, laid := [("cresset/fp.square", laid_cresset_fp_square), ("cresset/fp.shift", laid_cresset_fp_shift)], narrowed := true }
def Fp2TurnsUptoSaid : Prop := fp2TurnsUptoRow.holds Tryd.pinned (OpenSpec.upto fp2TurnsSpec)

/-- 'cressetlaw05.Fp2Rules', WHERE WHAT IT READS IS OF BULK AT MOST 1048576: true; the input reads as it did. -/
def fp2RulesUptoRow : OpenClaim := { program := "ytnebmgiajfbnaaadoor", sum := "66e4606ec746a9bfc4160cdd52dfc5f75133cdc388f61445782c4963a3e9bb92", func := "cresset/cressetlaw05.Fp2Rules", spec := "fp2Rules", inPlace := ["math/bits.Add64", "math/bits.Sub64"], named := ["cresset/fp.square", "cresset/fp.shift"], apart := false, laid := [("cresset/fp.square", laid_cresset_fp_square), ("cresset/fp.shift", laid_cresset_fp_shift)], narrowed := true }
def Fp2RulesUptoSaid : Prop := fp2RulesUptoRow.holds Tryd.pinned (OpenSpec.upto fp2RulesSpec)

/-- 'cressetlaw06.TowerCubics', WHERE WHAT IT READS IS OF BULK AT MOST 1048576: true; the input reads as it did. -/
def towerCubicsUptoRow : OpenClaim := { program := "ytnebmgiajfbnaaadoor", sum := "66e4606ec746a9bfc4160cdd52dfc5f75133cdc388f61445782c4963a3e9bb92", func := "cresset/cressetlaw06.TowerCubics", spec := "towerCubics", inPlace := ["math/bits.Add64", "math/bits.Sub64"], named := ["cresset/fp.square", "cresset/fp.modulus"], apart := false, laid := [("cresset/fp.modulus", laid_cresset_fp_modulus), ("cresset/fp.square", laid_cresset_fp_square)], narrowed := true }
def TowerCubicsUptoSaid : Prop := towerCubicsUptoRow.holds Tryd.pinned (OpenSpec.upto towerCubicsSpec)

/-- 'cressetlaw06.TowerRules', WHERE WHAT IT READS IS OF BULK AT MOST 1048576: true; the input reads as it did. -/
def towerRulesUptoRow : OpenClaim := { program := "ytnebmgiajfbnaaadoor", sum := "66e4606ec746a9bfc4160cdd52dfc5f75133cdc388f61445782c4963a3e9bb92", func := "cresset/cressetlaw06.TowerRules", spec := "towerRules", inPlace := ["math/bits.Add64", "math/bits.Sub64"], named := ["cresset/fp.square", "cresset/fp.modulus"], apart := false, laid := [("cresset/fp.modulus", laid_cresset_fp_modulus), ("cresset/fp.square", laid_cresset_fp_square)], narrowed := true }
def TowerRulesUptoSaid : Prop := towerRulesUptoRow.holds Tryd.pinned (OpenSpec.upto towerRulesSpec)

/-- 'cressetlaw06.TowerFrob', WHERE WHAT IT READS IS OF BULK AT MOST 1048576: true; the input reads as it did. -/
def towerFrobUptoRow : OpenClaim := { program := "ytnebmgiajfbnaaadoor", sum := "66e4606ec746a9bfc4160cdd52dfc5f75133cdc388f61445782c4963a3e9bb92", func := "cresset/cressetlaw06.TowerFrob", spec := "towerFrob", inPlace := ["math/bits.Add64", "math/bits.Sub64"], named := ["cresset/fp.square", "cresset/fp.modulus"], apart := false, laid := [("cresset/fp.modulus", laid_cresset_fp_modulus), ("cresset/fp.square", laid_cresset_fp_square)], narrowed := true }
def TowerFrobUptoSaid : Prop := towerFrobUptoRow.holds Tryd.pinned (OpenSpec.upto towerFrobSpec)

/-- 'cressetlaw06.TowerPowers', WHERE WHAT IT READS IS OF BULK AT MOST 1048576: true; the input reads as it did. -/
def towerPowersUptoRow : OpenClaim := { program := "ytnebmgiajfbnaaadoor", sum := "66e4606ec746a9bfc4160cdd52dfc5f75133cdc388f61445782c4963a3e9bb92", func := "cresset/cressetlaw06.TowerPowers", spec := "towerPowers", inPlace := ["math/bits.Add64", "math/bits.Sub64"], named := ["cresset/fp.square", "cresset/fp.modulus"], apart := false, laid := [("cresset/fp.modulus", laid_cresset_fp_modulus), ("cresset/fp.square", laid_cresset_fp_square)], narrowed := true }
def TowerPowersUptoSaid : Prop := towerPowersUptoRow.holds Tryd.pinned (OpenSpec.upto towerPowersSpec)

/-- 'cressetlaw06.TowerLines', WHERE WHAT IT READS IS OF BULK AT MOST 1048576: true; the input reads as it did. -/
def towerLinesUptoRow : OpenClaim := { program := "ytnebmgiajfbnaaadoor", sum := "66e4606ec746a9bfc4160cdd52dfc5f75133cdc388f61445782c4963a3e9bb92", func := "cresset/cressetlaw06.TowerLines", spec := "towerLines", inPlace := ["math/bits.Add64", "math/bits.Sub64"], named := ["cresset/fp.square", "cresset/fp.modulus"], apart := false, laid := [("cresset/fp.modulus", laid_cresset_fp_modulus), ("cresset/fp.square", laid_cresset_fp_square)], narrowed := true }
def TowerLinesUptoSaid : Prop := towerLinesUptoRow.holds Tryd.pinned (OpenSpec.upto towerLinesSpec)

end Rows
end Go.Proofs.YtnebmgiajfbnaaaDoor
