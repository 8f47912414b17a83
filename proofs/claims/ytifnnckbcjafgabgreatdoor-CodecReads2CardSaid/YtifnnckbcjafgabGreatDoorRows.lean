/-
  NARROWER THAN 'FOR EVERY INPUT', by the rows' own cells (each row's printed sentence says how): CodecReads1: laid · CodecReads2: laid · CodecBack: laid · CodecOneForm: laid · CodecMarks: laid · PairScalars: laid · PairSums: laid · PairTells: laid · PairChecks: laid · PairMoves: laid.
  DERIVED. THE GIVEN ROWS OF THIS SEAT. 10 by the template 'for every input the law returns true; each argument reads behind the call as it read before'; 0 by the template 'total and deterministic' (their statements: YtifnnckbcjafgabGreatDoorTotals.lean).
  GIVEN WITH THE SEED: the statements are not yours to turn. If you find one false, say at which input.
  Laid BY PROGRAM, IN A SANDBOX (cutbox-rows.mjs): the forced cells as the released guide's own fill.sh prints them over the translation e596d4632d92d20e… (all of the seat's roots in one cut). By AI agents, Wed Nov 11 2026. No macro, syntax, notation, axiom, sorry.
-/
import Derived.Test.YtifnnckbcjafgabGreatDoorChecked
import GoSem.Claim
import GoSem.ClaimJoined
import GoSem.ClaimMapViews
import Derived.JoinedTies
import Derived.KernelRfl
namespace Go.Proofs.YtifnnckbcjafgabGreatDoor
/- THE CELL 'sum', in the pinned program and in every row, IS THE sha256 OF THE DUMP (.gsa) THAT YtifnnckbcjafgabGreatDoorProg.lean LOADS. Nothing in Lean hashes anything: it is a label: what it is worth is what the hold of that sum in a sandbox is worth. -/
noncomputable def Tryz.pinned : Pinned := { name := "ytifnnckbcjafgabgreatdoor", sum := "e596d4632d92d20e3212099c82e09cca9950217b604de8a857280faa89e99c76", checked := Tryz.checked }
namespace Rows
def none {H : Type} : Left H := { results := [], args := [] }

/- WHAT THE LISTED PACKAGE-LEVEL VARIABLES READ AS WHEN THE CALL BEGINS. Each datum BY PROGRAM (the guide's laid-datum.mjs) off the statement by which the dump's own 'gosem.cut.vars' lays the variable. In a bare row this is a premise. The card (YtifnnckbcjafgabGreatDoorCards.lean) ties it to the program's text. -/
def laid_cresset_fp_modulus {H : Type} : DataW H := .agg [.lit (.int .u64 13402431016077863595), .lit (.int .u64 2210141511517208575), .lit (.int .u64 7435674573564081700), .lit (.int .u64 7239337960414712511), .lit (.int .u64 5412103778470702295), .lit (.int .u64 1873798617647539866)]
def laid_cresset_fp_upper {H : Type} : DataW H := .agg [.lit (.int .u64 15924587544893707606), .lit (.int .u64 1105070755758604287), .lit (.int .u64 12941209323636816658), .lit (.int .u64 12843041017062132063), .lit (.int .u64 2706051889235351147), .lit (.int .u64 936899308823769933)]
def laid_cresset_fp_quarter {H : Type} : DataW H := .agg [.lit (.int .u64 17185665809301629611), .lit (.int .u64 552535377879302143), .lit (.int .u64 15693976698673184137), .lit (.int .u64 15644892545385841839), .lit (.int .u64 10576397981472451381), .lit (.int .u64 468449654411884966)]
def laid_cresset_fp_square {H : Type} : DataW H := .agg [.agg [.lit (.int .u64 17644856173732828998), .lit (.int .u64 754043588434789617), .lit (.int .u64 10224657059481499349), .lit (.int .u64 7488229067341005760), .lit (.int .u64 11130996698012816685), .lit (.int .u64 1267921511277847466)]]
def laid_cresset_fr_modulus {H : Type} : DataW H := .agg [.lit (.int .u64 18446744069414584321), .lit (.int .u64 6034159408538082302), .lit (.int .u64 3691218898639771653), .lit (.int .u64 8353516859464449352)]
def laid_cresset_fr_square {H : Type} : DataW H := .agg [.agg [.lit (.int .u64 14526898881837571181), .lit (.int .u64 3129137299524312099), .lit (.int .u64 419701826671360399), .lit (.int .u64 524908885293268753)]]
def laid_cresset_fr_shift {H : Type} : DataW H := .agg [.agg [.lit (.int .u64 14523443104127764612), .lit (.int .u64 16642195494414990439), .lit (.int .u64 12886746614725508593), .lit (.int .u64 1850512792699151402)]]

/-- 'cressetlaw09.CodecReads1': WHATEVER THE INPUT: true; the input reads as it did. -/
def codecReads1Spec : ChangeSpec := { name := "codecReads1", fn := fun _ => fun
  | [d] => { results := [.lit (.bool true)], args := [d] }
  | _ => none }
def codecReads1Row : OpenClaim := { program := "ytifnnckbcjafgabgreatdoor", sum := "e596d4632d92d20e3212099c82e09cca9950217b604de8a857280faa89e99c76", func := "cresset/cressetlaw09.CodecReads1", spec := "codecReads1", inPlace := ["math/bits.Add64", "math/bits.Sub64"], unfollowed := true, recurses := true, named := ["cresset/fp.upper", "cresset/fp.modulus", "cresset/fp.square", "cresset/fr.square", "cresset/fr.modulus", "cresset/fp.quarter"], apart := false, laid := [("cresset/fp.modulus", laid_cresset_fp_modulus), ("cresset/fp.upper", laid_cresset_fp_upper), ("cresset/fp.quarter", laid_cresset_fp_quarter), ("cresset/fp.square", laid_cresset_fp_square), ("cresset/fr.modulus", laid_cresset_fr_modulus), ("cresset/fr.square", laid_cresset_fr_square)] }
def CodecReads1Said : Prop := codecReads1Row.holds Tryz.pinned (OpenSpec.ofChange codecReads1Spec)

/-- ITS FALSE NEIGHBOUR: 'it returns false'. Refute it at one input. -/
def codecReads1Wrong : ChangeSpec := { name := "codecReads1", fn := fun _ => fun
  | [d] => { results := [.lit (.bool false)], args := [d] }
  | _ => none }
def CodecReads1WrongFalsely : Prop := codecReads1Row.holds Tryz.pinned (OpenSpec.ofChange codecReads1Wrong)

/-- 'cressetlaw09.CodecReads2': WHATEVER THE INPUT: true; the input reads as it did. -/
def codecReads2Spec : ChangeSpec := { name := "codecReads2", fn := fun _ => fun
  | [d] => { results := [.lit (.bool true)], args := [d] }
  | _ => none }
def codecReads2Row : OpenClaim := { program := "ytifnnckbcjafgabgreatdoor", sum := "e596d4632d92d20e3212099c82e09cca9950217b604de8a857280faa89e99c76", func := "cresset/cressetlaw09.CodecReads2", spec := "codecReads2", inPlace := ["math/bits.Add64", "math/bits.Sub64"], unfollowed := true, recurses := true, named := ["cresset/fp.upper", "cresset/fp.modulus", "cresset/fp.square", "cresset/fr.square", "cresset/fr.modulus", "cresset/fp.quarter"], apart := false, laid := [("cresset/fp.modulus", laid_cresset_fp_modulus), ("cresset/fp.upper", laid_cresset_fp_upper), ("cresset/fp.quarter", laid_cresset_fp_quarter), ("cresset/fp.square", laid_cresset_fp_square), ("cresset/fr.modulus", laid_cresset_fr_modulus), ("cresset/fr.square", laid_cresset_fr_square)] }
def CodecReads2Said : Prop := codecReads2Row.holds Tryz.pinned (OpenSpec.ofChange codecReads2Spec)

/-- ITS FALSE NEIGHBOUR: 'it returns false'. Refute it at one input. -/
def codecReads2Wrong : ChangeSpec := { name := "codecReads2", fn := fun _ => fun
  | [d] => { results := [.lit (.bool false)], args := [d] }
  | _ => none }
def CodecReads2WrongFalsely : Prop := codecReads2Row.holds Tryz.pinned (OpenSpec.ofChange codecReads2Wrong)

/-- 'cressetlaw09.CodecBack': WHATEVER THE INPUT: true; the input reads as it did. -/
def codecBackSpec : ChangeSpec := { name := "codecBack", fn := fun _ => fun
  | [d] => { results := [.lit (.bool true)], args := [d] }
  | _ => none }
def codecBackRow : OpenClaim := { program := "ytifnnckbcjafgabgreatdoor", sum := "e596d4632d92d20e3212099c82e09cca9950217b604de8a857280faa89e99c76", func := "cresset/cressetlaw09.CodecBack", spec := "codecBack", inPlace := ["math/bits.Add64", "math/bits.Sub64"], unfollowed := true, recurses := true, named := ["cresset/fp.upper", "cresset/fp.modulus", "cresset/fp.square", "cresset/fr.shift", "cresset/fr.modulus", "cresset/fr.square"], apart := false, laid := [("cresset/fp.modulus", laid_cresset_fp_modulus), ("cresset/fp.upper", laid_cresset_fp_upper), ("cresset/fp.square", laid_cresset_fp_square), ("cresset/fr.modulus", laid_cresset_fr_modulus), ("cresset/fr.square", laid_cresset_fr_square), ("cresset/fr.shift", laid_cresset_fr_shift)] }
def CodecBackSaid : Prop := codecBackRow.holds Tryz.pinned (OpenSpec.ofChange codecBackSpec)

/-- ITS FALSE NEIGHBOUR: 'it returns false'. Refute it at one input. -/
def codecBackWrong : ChangeSpec := { name := "codecBack", fn := fun _ => fun
  | [d] => { results := [.lit (.bool false)], args := [d] }
  | _ => none }
def CodecBackWrongFalsely : Prop := codecBackRow.holds Tryz.pinned (OpenSpec.ofChange codecBackWrong)

/-- 'cressetlaw09.CodecOneForm': WHATEVER THE INPUT: true; the input reads as it did. -/
def codecOneFormSpec : ChangeSpec := { name := "codecOneForm", fn := fun _ => fun
  | [d1, d2] => { results := [.lit (.bool true)], args := [d1, d2] }
  | _ => none }
def codecOneFormRow : OpenClaim := { program := "ytifnnckbcjafgabgreatdoor", sum := "e596d4632d92d20e3212099c82e09cca9950217b604de8a857280faa89e99c76", func := "cresset/cressetlaw09.CodecOneForm", spec := "codecOneForm", inPlace := ["math/bits.Add64", "math/bits.Sub64"], unfollowed := true, recurses := true, named := ["cresset/fp.upper", "cresset/fp.modulus", "cresset/fp.square", "cresset/fr.square", "cresset/fr.modulus"], apart := false, laid := [("cresset/fp.modulus", laid_cresset_fp_modulus), ("cresset/fp.upper", laid_cresset_fp_upper), ("cresset/fp.square", laid_cresset_fp_square), ("cresset/fr.modulus", laid_cresset_fr_modulus), ("cresset/fr.square", laid_cresset_fr_square)] }
def CodecOneFormSaid : Prop := codecOneFormRow.holds Tryz.pinned (OpenSpec.ofChange codecOneFormSpec)

/-- ITS FALSE NEIGHBOUR: 'it returns false'. Refute it at one input. -/
def codecOneFormWrong : ChangeSpec := { name := "codecOneForm", fn := fun _ => fun
  | [d1, d2] => { results := [.lit (.bool false)], args := [d1, d2] }
  | _ => none }
def CodecOneFormWrongFalsely : Prop := codecOneFormRow.holds Tryz.pinned (OpenSpec.ofChange codecOneFormWrong)

/-- 'cressetlaw09.CodecMarks': WHATEVER THE INPUT: true; the input reads as it did. -/
def codecMarksSpec : ChangeSpec := { name := "codecMarks", fn := fun _ => fun
  | [d1, d2] => { results := [.lit (.bool true)], args := [d1, d2] }
  | _ => none }
def codecMarksRow : OpenClaim := { program := "ytifnnckbcjafgabgreatdoor", sum := "e596d4632d92d20e3212099c82e09cca9950217b604de8a857280faa89e99c76", func := "cresset/cressetlaw09.CodecMarks", spec := "codecMarks", inPlace := ["math/bits.Add64", "math/bits.Sub64"], unfollowed := true, recurses := true, named := ["cresset/fp.upper", "cresset/fp.modulus", "cresset/fp.square", "cresset/fr.shift", "cresset/fr.modulus", "cresset/fr.square"], apart := false, laid := [("cresset/fp.modulus", laid_cresset_fp_modulus), ("cresset/fp.upper", laid_cresset_fp_upper), ("cresset/fp.square", laid_cresset_fp_square), ("cresset/fr.modulus", laid_cresset_fr_modulus), ("cresset/fr.square", laid_cresset_fr_square), ("cresset/fr.shift", laid_cresset_fr_shift)] }
def CodecMarksSaid : Prop := codecMarksRow.holds Tryz.pinned (OpenSpec.ofChange codecMarksSpec)

/-- ITS FALSE NEIGHBOUR: 'it returns false'. Refute it at one input. -/
def codecMarksWrong : ChangeSpec := { name := "codecMarks", fn := fun _ => fun
  | [d1, d2] => { results := [.lit (.bool false)], args := [d1, d2] }
  | _ => none }
def CodecMarksWrongFalsely : Prop := codecMarksRow.holds Tryz.pinned (OpenSpec.ofChange codecMarksWrong)

/-- 'cressetlaw10.PairScalars': WHATEVER THE INPUT: true; the input reads as it did. -/
def pairScalarsSpec : ChangeSpec := { name := "pairScalars", fn := fun _ => fun
  | [d1, d2] => { results := [.lit (.bool true)], args := [d1, d2] }
  | _ => none }
def pairScalarsRow : OpenClaim := { program := "ytifnnckbcjafgabgreatdoor", sum := "e596d4632d92d20e3212099c82e09cca9950217b604de8a857280faa89e99c76", func := "cresset/cressetlaw10.PairScalars", spec := "pairScalars", inPlace := ["math/bits.Sub64", "math/bits.Add64"], unfollowed := true, recurses := true, named := ["cresset/fp.modulus", "cresset/fp.square", "cresset/fr.shift", "cresset/fr.modulus", "cresset/fr.square"], apart := false, laid := [("cresset/fp.modulus", laid_cresset_fp_modulus), ("cresset/fp.square", laid_cresset_fp_square), ("cresset/fr.modulus", laid_cresset_fr_modulus), ("cresset/fr.square", laid_cresset_fr_square), ("cresset/fr.shift", laid_cresset_fr_shift)] }
def PairScalarsSaid : Prop := pairScalarsRow.holds Tryz.pinned (OpenSpec.ofChange pairScalarsSpec)

/-- ITS FALSE NEIGHBOUR: 'it returns false'. Refute it at one input. -/
def pairScalarsWrong : ChangeSpec := { name := "pairScalars", fn := fun _ => fun
  | [d1, d2] => { results := [.lit (.bool false)], args := [d1, d2] }
  | _ => none }
def PairScalarsWrongFalsely : Prop := pairScalarsRow.holds Tryz.pinned (OpenSpec.ofChange pairScalarsWrong)

/-- 'cressetlaw10.PairSums': WHATEVER THE INPUT: true; the input reads as it did. -/
def pairSumsSpec : ChangeSpec := { name := "pairSums", fn := fun _ => fun
  | [d1, d2, d3] => { results := [.lit (.bool true)], args := [d1, d2, d3] }
  | _ => none }
def pairSumsRow : OpenClaim := { program := "ytifnnckbcjafgabgreatdoor", sum := "e596d4632d92d20e3212099c82e09cca9950217b604de8a857280faa89e99c76", func := "cresset/cressetlaw10.PairSums", spec := "pairSums", inPlace := ["math/bits.Sub64", "math/bits.Add64"], unfollowed := true, recurses := true, named := ["cresset/fp.modulus", "cresset/fp.square", "cresset/fr.shift", "cresset/fr.modulus", "cresset/fr.square"], apart := false, laid := [("cresset/fp.modulus", laid_cresset_fp_modulus), ("cresset/fp.square", laid_cresset_fp_square), ("cresset/fr.modulus", laid_cresset_fr_modulus), ("cresset/fr.square", laid_cresset_fr_square), ("cresset/fr.shift", laid_cresset_fr_shift)] }
def PairSumsSaid : Prop := pairSumsRow.holds Tryz.pinned (OpenSpec.ofChange pairSumsSpec)

/-- ITS FALSE NEIGHBOUR: 'it returns false'. Refute it at one input. -/
def pairSumsWrong : ChangeSpec := { name := "pairSums", fn := fun _ => fun
  | [d1, d2, d3] => { results := [.lit (.bool false)], args := [d1, d2, d3] }
  | _ => none }
def PairSumsWrongFalsely : Prop := pairSumsRow.holds Tryz.pinned (OpenSpec.ofChange pairSumsWrong)

/-- 'cressetlaw10.PairTells': WHATEVER THE INPUT: true; the input reads as it did. -/
def pairTellsSpec : ChangeSpec := { name := "pairTells", fn := fun _ => fun
  | [d1, d2] => { results := [.lit (.bool true)], args := [d1, d2] }
  | _ => none }
def pairTellsRow : OpenClaim := { program := "ytifnnckbcjafgabgreatdoor", sum := "e596d4632d92d20e3212099c82e09cca9950217b604de8a857280faa89e99c76", func := "cresset/cressetlaw10.PairTells", spec := "pairTells", inPlace := ["math/bits.Sub64", "math/bits.Add64"], unfollowed := true, recurses := true, named := ["cresset/fp.modulus", "cresset/fp.square", "cresset/fr.shift", "cresset/fr.modulus", "cresset/fr.square"], apart := false, laid := [("cresset/fp.modulus", laid_cresset_fp_modulus), ("cresset/fp.square", laid_cresset_fp_square), ("cresset/fr.modulus", laid_cresset_fr_modulus), ("cresset/fr.square", laid_cresset_fr_square), ("cresset/fr.shift", laid_cresset_fr_shift)] }
def PairTellsSaid : Prop := pairTellsRow.holds Tryz.pinned (OpenSpec.ofChange pairTellsSpec)

/-- ITS FALSE NEIGHBOUR: 'it returns false'. Refute it at one input. -/
def pairTellsWrong : ChangeSpec := { name := "pairTells", fn := fun _ => fun
  | [d1, d2] => { results := [.lit (.bool false)], args := [d1, d2] }
  | _ => none }
def PairTellsWrongFalsely : Prop := pairTellsRow.holds Tryz.pinned (OpenSpec.ofChange pairTellsWrong)

/-- 'cressetlaw10.PairChecks': WHATEVER THE INPUT: true; the input reads as it did. -/
def pairChecksSpec : ChangeSpec := { name := "pairChecks", fn := fun _ => fun
  | [d1, d2, d3] => { results := [.lit (.bool true)], args := [d1, d2, d3] }
  | _ => none }
def pairChecksRow : OpenClaim := { program := "ytifnnckbcjafgabgreatdoor", sum := "e596d4632d92d20e3212099c82e09cca9950217b604de8a857280faa89e99c76", func := "cresset/cressetlaw10.PairChecks", spec := "pairChecks", inPlace := ["math/bits.Sub64", "math/bits.Add64"], unfollowed := true, recurses := true, named := ["cresset/fp.modulus", "cresset/fp.square", "cresset/fr.shift", "cresset/fr.modulus", "cresset/fr.square"], apart := false, laid := [("cresset/fp.modulus", laid_cresset_fp_modulus), ("cresset/fp.square", laid_cresset_fp_square), ("cresset/fr.modulus", laid_cresset_fr_modulus), ("cresset/fr.square", laid_cresset_fr_square), ("cresset/fr.shift", laid_cresset_fr_shift)] }
def PairChecksSaid : Prop := pairChecksRow.holds Tryz.pinned (OpenSpec.ofChange pairChecksSpec)

/-- ITS FALSE NEIGHBOUR: 'it returns false'. Refute it at one input. -/
def pairChecksWrong : ChangeSpec := { name := "pairChecks", fn := fun _ => fun
  | [d1, d2, d3] => { results := [.lit (.bool false)], args := [d1, d2, d3] }
  | _ => none }
def PairChecksWrongFalsely : Prop := pairChecksRow.holds Tryz.pinned (OpenSpec.ofChange pairChecksWrong)

/-- 'cressetlaw10.PairMoves': WHATEVER THE INPUT: true; the input reads as it did. -/
def pairMovesSpec : ChangeSpec := { name := "pairMoves", fn := fun _ => fun
  | [d1, d2] => { results := [.lit (.bool true)], args := [d1, d2] }
  | _ => none }
def pairMovesRow : OpenClaim := { program := "ytifnnckbcjafgabgreatdoor", sum := "e596d4632d92d20e3212099c82e09cca9950217b604de8a857280faa89e99c76", func := "cresset/cressetlaw10.PairMoves", spec := "pairMoves", inPlace := ["math/bits.Sub64", "math/bits.Add64"], unfollowed := true, recurses := true, named := ["cresset/fp.modulus", "cresset/fp.square", "cresset/fr.shift", "cresset/fr.modulus", "cresset/fr.square"], apart := false, laid := [("cresset/fp.modulus", laid_cresset_fp_modulus), ("cresset/fp.square", laid_cresset_fp_square), ("cresset/fr.modulus", laid_cresset_fr_modulus), ("cresset/fr.square", laid_cresset_fr_square), ("cresset/fr.shift", laid_cresset_fr_shift)] }
def PairMovesSaid : Prop := pairMovesRow.holds Tryz.pinned (OpenSpec.ofChange pairMovesSpec)

/-- ITS FALSE NEIGHBOUR: 'it returns false'. Refute it at one input. -/
def pairMovesWrong : ChangeSpec := { name := "pairMoves", fn := fun _ => fun
  | [d1, d2] => { results := [.lit (.bool false)], args := [d1, d2] }
  | _ => none }
def PairMovesWrongFalsely : Prop := pairMovesRow.holds Tryz.pinned (OpenSpec.ofChange pairMovesWrong)

/- THE SECOND FORM. 'bulk': how many values and letters a reading holds, each counted each time it is reached (what is shared counts as often as it is met; a slice's spare places count too). A statement '..UptoSaid' is the law's where the arguments, and the package variables that the reading takes, are together of bulk at most 1048576: NARROWER than '..Said'. Prove '..Said' where nothing that the law and all that it calls make is longer than what came in: it says more and counts as full. Else prove '..UptoSaid'. A law counts once. -/
mutual
def uptoBulk {H : Type} : DataW H → Nat
  | .lit (.string bytes) => bytes.length + 1
  | .lit _ => 1
  | .nil => 1
  | .ptr d => uptoBulk d + 1
  | .slice elems spare => uptoBulkAll elems + uptoBulkAll spare + 1
  | .agg parts => uptoBulkAll parts + 1
  | .iface _ d => uptoBulk d + 1
  | .map entries => uptoBulkEntries entries + 1
  | .held _ => 1
def uptoBulkAll {H : Type} : List (DataW H) → Nat
  | [] => 0
  | d :: r => uptoBulk d + uptoBulkAll r
def uptoBulkEntries {H : Type} : List (Lit × DataW H) → Nat
  | [] => 0
  | x :: r => uptoBulkEntry x + uptoBulkEntries r
def uptoBulkEntry {H : Type} : Lit × DataW H → Nat
  | (.string bytes, d) => bytes.length + uptoBulk d + 1
  | (_, d) => uptoBulk d + 1
 end
def uptoSmall : (H : Type) → List (DataW H) → Bool := fun _ ds => decide (uptoBulkAll ds ≤ 1048576)
def OpenSpec.upto (s : _root_.Go.ChangeSpec) : _root_.Go.OpenSpec := { _root_.Go.OpenSpec.ofChange s with cond := some uptoSmall }

/-- 'cressetlaw09.CodecReads1', WHERE WHAT IT READS IS OF BULK AT MOST 1048576: true; the input reads as it did. -/
def codecReads1UptoRow : OpenClaim := { program := "ytifnnckbcjafgabgreatdoor", sum := "e596d4632d92d20e3212099c82e09cca9950217b604de8a857280faa89e99c76", func := "cresset/cressetlaw09.CodecReads1", spec := "codecReads1", inPlace := ["math/bits.Add64", "math/bits.Sub64"], unfollowed := true, recurses := true, named := ["cresset/fp.upper", "cresset/fp.modulus", "cresset/fp.square", "cresset/fr.square", "cresset/fr.modulus", "cresset/fp.quarter"], apart := false, laid := [("cresset/fp.modulus", laid_cresset_fp_modulus), ("cresset/fp.upper", laid_cresset_fp_upper), ("cresset/fp.quarter", laid_cresset_fp_quarter), ("cresset/fp.square", laid_cresset_fp_square), ("cresset/fr.modulus", laid_cresset_fr_modulus), ("cresset/fr.square", laid_cresset_fr_square)], narrowed := true }
def CodecReads1UptoSaid : Prop := codecReads1UptoRow.holds Tryz.pinned (OpenSpec.upto codecReads1Spec)

/-- 'cressetlaw09.CodecReads2', WHERE WHAT IT READS IS OF BULK AT MOST 1048576: true; the input reads as it did. -/
def codecReads2UptoRow : OpenClaim := { program := "ytifnnckbcjafgabgreatdoor", sum := "e596d4632d92d20e3212099c82e09cca9950217b604de8a857280faa89e99c76", func := "cresset/cressetlaw09.CodecReads2", spec := "codecReads2", inPlace := ["math/bits.Add64", "math/bits.Sub64"], unfollowed := true, recurses := true, named := ["cresset/fp.upper", "cresset/fp.modulus", "cresset/fp.square", "cresset/fr.square", "cresset/fr.modulus", "cresset/fp.quarter"], apart := false, laid := [("cresset/fp.modulus", laid_cresset_fp_modulus), ("cresset/fp.upper", laid_cresset_fp_upper), ("cresset/fp.quarter", laid_cresset_fp_quarter), ("cresset/fp.square", laid_cresset_fp_square), ("cresset/fr.modulus", laid_cresset_fr_modulus), ("cresset/fr.square", laid_cresset_fr_square)], narrowed := true }
def CodecReads2UptoSaid : Prop := codecReads2UptoRow.holds Tryz.pinned (OpenSpec.upto codecReads2Spec)

/-- 'cressetlaw09.CodecBack', WHERE WHAT IT READS IS OF BULK AT MOST 1048576: true; the input reads as it did. -/
def codecBackUptoRow : OpenClaim := { program := "ytifnnckbcjafgabgreatdoor", sum := "e596d4632d92d20e3212099c82e09cca9950217b604de8a857280faa89e99c76", func := "cresset/cressetlaw09.CodecBack", spec := "codecBack", inPlace := ["math/bits.Add64", "math/bits.Sub64"], unfollowed := true, recurses := true, named := ["cresset/fp.upper", "cresset/fp.modulus", "cresset/fp.square", "cresset/fr.shift", "cresset/fr.modulus", "cresset/fr.square"], apart := false, laid := [("cresset/fp.modulus", laid_cresset_fp_modulus), ("cresset/fp.upper", laid_cresset_fp_upper), ("cresset/fp.square", laid_cresset_fp_square), ("cresset/fr.modulus", laid_cresset_fr_modulus), ("cresset/fr.square", laid_cresset_fr_square), ("cresset/fr.shift", laid_cresset_fr_shift)], narrowed := true }
def CodecBackUptoSaid : Prop := codecBackUptoRow.holds Tryz.pinned (OpenSpec.upto codecBackSpec)

/-- 'cressetlaw09.CodecOneForm', WHERE WHAT IT READS IS OF BULK AT MOST 1048576: true; the input reads as it did. -/
def codecOneFormUptoRow : OpenClaim := { program := "ytifnnckbcjafgabgreatdoor", sum := "e596d4632d92d20e3212099c82e09cca9950217b604de8a857280faa89e99c76", func := "cresset/cressetlaw09.CodecOneForm", spec := "codecOneForm", inPlace := ["math/bits.Add64", "math/bits.Sub64"], unfollowed := true, recurses := true, named := ["cresset/fp.upper", "cresset/fp.modulus", "cresset/fp.square", "cresset/fr.square", "cresset/fr.modulus"], apart := false, laid := [("cresset/fp.modulus", laid_cresset_fp_modulus), ("cresset/fp.upper", laid_cresset_fp_upper), ("cresset/fp.square", laid_cresset_fp_square), ("cresset/fr.modulus", laid_cresset_fr_modulus), ("cresset/fr.square", laid_cresset_fr_square)], narrowed := true }
def CodecOneFormUptoSaid : Prop := codecOneFormUptoRow.holds Tryz.pinned (OpenSpec.upto codecOneFormSpec)

/-- 'cressetlaw09.CodecMarks', WHERE WHAT IT READS IS OF BULK AT MOST 1048576: true; the input reads as it did. -/
def codecMarksUptoRow : OpenClaim := { program := "ytifnnckbcjafgabgreatdoor", sum := "e596d4632d92d20e3212099c82e09cca9950217b604de8a857280faa89e99c76", func := "cresset/cressetlaw09.CodecMarks", spec := "codecMarks", inPlace := ["math/bits.Add64", "math/bits.Sub64"], unfollowed := true, recurses := true, named := ["cresset/fp.upper", "cresset/fp.modulus", "cresset/fp.square", "cresset/fr.shift", "cresset/fr.modulus", "cresset/fr.square"], apart := false, laid := [("cresset/fp.modulus", laid_cresset_fp_modulus), ("cresset/fp.upper", laid_cresset_fp_upper), ("cresset/fp.square", laid_cresset_fp_square), ("cresset/fr.modulus", laid_cresset_fr_modulus), ("cresset/fr.square", laid_cresset_fr_square), ("cresset/fr.shift", laid_cresset_fr_shift)], narrowed := true }
def CodecMarksUptoSaid : Prop := codecMarksUptoRow.holds Tryz.pinned (OpenSpec.upto codecMarksSpec)

/-- 'cressetlaw10.PairScalars', WHERE WHAT IT READS IS OF BULK AT MOST 1048576: true; the input reads as it did. -/
def pairScalarsUptoRow : OpenClaim := { program := "ytifnnckbcjafgabgreatdoor", sum := "e596d4632d92d20e3212099c82e09cca9950217b604de8a857280faa89e99c76", func := "cresset/cressetlaw10.PairScalars", spec := "pairScalars", inPlace := ["math/bits.Sub64", "math/bits.Add64"], unfollowed := true, recurses := true, named := ["cresset/fp.modulus", "cresset/fp.square", "cresset/fr.shift", "cresset/fr.modulus", "cresset/fr.square"], apart := false, laid := [("cresset/fp.modulus", laid_cresset_fp_modulus), ("cresset/fp.square", laid_cresset_fp_square), ("cresset/fr.modulus", laid_cresset_fr_modulus), ("cresset/fr.square", laid_cresset_fr_square), ("cresset/fr.shift", laid_cresset_fr_shift)], narrowed := true }
def PairScalarsUptoSaid : Prop := pairScalarsUptoRow.holds Tryz.pinned (OpenSpec.upto pairScalarsSpec)

/-- 'cressetlaw10.PairSums', WHERE WHAT IT READS IS OF BULK AT MOST 1048576: true; the input reads as it did. -/
def pairSumsUptoRow : OpenClaim := { program := "ytifnnckbcjafgabgreatdoor", sum := "e596d4632d92d20e3212099c82e09cca9950217b604de8a857280faa89e99c76", func := "cresset/cressetlaw10.PairSums", spec := "pairSums", inPlace := ["math/bits.Sub64", "math/bits.Add64"], unfollowed := true, recurses := true, named := ["cresset/fp.modulus", "cresset/fp.square", "cresset/fr.shift", "cresset/fr.modulus", "cresset/fr.square"], apart := false, laid := [("cresset/fp.modulus", laid_cresset_fp_modulus), ("cresset/fp.square", laid_cresset_fp_square), ("cresset/fr.modulus", laid_cresset_fr_modulus), ("cresset/fr.square", laid_cresset_fr_square), ("cresset/fr.shift", laid_cresset_fr_shift)], narrowed := true }
def PairSumsUptoSaid : Prop := pairSumsUptoRow.holds Tryz.pinned (OpenSpec.upto pairSumsSpec)

/-- 'cressetlaw10.PairTells', WHERE WHAT IT READS IS OF BULK AT MOST 1048576: true; the input reads as it did. -/
def pairTellsUptoRow : OpenClaim := { program := "ytifnnckbcjafgabgreatdoor", sum := "e596d4632d92d20e3212099c82e09cca9950217b604de8a857280faa89e99c76", func := "cresset/cressetlaw10.PairTells", spec := "pairTells", inPlace := ["math/bits.Sub64", "math/bits.Add64"], unfollowed := true, recurses := true, named := ["cresset/fp.modulus", "cresset/fp.square", "cresset/fr.shift", "cresset/fr.modulus", "cresset/fr.square"], apart := false, laid := [("cresset/fp.modulus", laid_cresset_fp_modulus), ("cresset/fp.square", laid_cresset_fp_square), ("cresset/fr.modulus", laid_cresset_fr_modulus), ("cresset/fr.square", laid_cresset_fr_square), ("cresset/fr.shift", laid_cresset_fr_shift)], narrowed := true }
def PairTellsUptoSaid : Prop := pairTellsUptoRow.holds Tryz.pinned (OpenSpec.upto pairTellsSpec)

/-- 'cressetlaw10.PairChecks', WHERE WHAT IT READS IS OF BULK AT MOST 1048576: true; the input reads as it did. -/
def pairChecksUptoRow : OpenClaim := { program := "ytifnnckbcjafgabgreatdoor", sum := "e596d4632d92d20e3212099c82e09cca9950217b604de8a857280faa89e99c76", func := "cresset/cressetlaw10.PairChecks", spec := "pairChecks", inPlace := ["math/bits.Sub64", "math/bits.Add64"], unfollowed := true, recurses := true, named := ["cresset/fp.modulus", "cresset/fp.square", "cresset/fr.shift", "cresset/fr.modulus", "cresset/fr.square"], apart := false, laid := [("cresset/fp.modulus", laid_cresset_fp_modulus), ("cresset/fp.square", laid_cresset_fp_square), ("cresset/fr.modulus", laid_cresset_fr_modulus), ("cresset/fr.square", laid_cresset_fr_square), ("cresset/fr.shift", laid_cresset_fr_shift)], narrowed := true }
def PairChecksUptoSaid : Prop := pairChecksUptoRow.holds Tryz.pinned (OpenSpec.upto pairChecksSpec)

/-- 'cressetlaw10.PairMoves', WHERE WHAT IT READS IS OF BULK AT MOST 1048576: true; the input reads as it did. -/
def pairMovesUptoRow : OpenClaim := { program := "ytifnnckbcjafgabgreatdoor", sum := "e596d4632d92d20e3212099c82e09cca9950217b604de8a857280faa89e99c76", func := "cresset/cressetlaw10.PairMoves", spec := "pairMoves", inPlace := ["math/bits.Sub64", "math/bits.Add64"], unfollowed := true, recurses := true, named := ["cresset/fp.modulus", "cresset/fp.square", "cresset/fr.shift", "cresset/fr.modulus", "cresset/fr.square"], apart := false, laid := [("cresset/fp.modulus", laid_cresset_fp_modulus), ("cresset/fp.square", laid_cresset_fp_square), ("cresset/fr.modulus", laid_cresset_fr_modulus), ("cresset/fr.square", laid_cresset_fr_square), ("cresset/fr.shift", laid_cresset_fr_shift)], narrowed := true }
def PairMovesUptoSaid : Prop := pairMovesUptoRow.holds Tryz.pinned (OpenSpec.upto pairMovesSpec)

end Rows
end Go.Proofs.YtifnnckbcjafgabGreatDoor
