/-
  NARROWER THAN 'FOR EVERY INPUT', by the rows' own cells (each row's printed sentence says how): XmdNumbers: laid · ShaStreams: laid · G1Lists: laid · G2Lists: laid · TowerReckons: laid.
  DERIVED. THE GIVEN ROWS OF THIS SEAT. 5 by the template 'for every input the law returns true; each argument reads behind the call as it read before'; 0 by the template 'total and deterministic' (their statements: YtialfoccalobpaaDoorTotals.lean).
  GIVEN WITH THE SEED: the statements are not yours to turn. If you find one false, say at which input.
  Laid BY PROGRAM, IN A SANDBOX (cutbox-rows.mjs): the forced cells as the released guide's own fill.sh prints them over the translation 3d074ebf224e1114… (all of the seat's roots in one cut). By AI agents, Wed Nov 11 2026. No macro, syntax, notation, axiom, sorry.
-/
import Derived.Test.YtialfoccalobpaaDoorChecked
import GoSem.Claim
import GoSem.ClaimJoined
import GoSem.ClaimMapViews
import Derived.JoinedTies
import Derived.KernelRfl
namespace Go.Proofs.YtialfoccalobpaaDoor
/- THE CELL 'sum', in the pinned program and in every row, IS THE sha256 OF THE DUMP (.gsa) THAT YtialfoccalobpaaDoorProg.lean LOADS. Nothing in Lean hashes anything: it is a label: what it is worth is what the hold of that sum in a sandbox is worth. -/
noncomputable def Tryd.pinned : Pinned := { name := "ytialfoccalobpaadoor", sum := "3d074ebf224e111498b5fac84f619a5102fe4a1374b861127f2e3f830a7686c7", checked := Tryd.checked }
namespace Rows
def none {H : Type} : Left H := { results := [], args := [] }

/- WHAT THE LISTED PACKAGE-LEVEL VARIABLES READ AS WHEN THE CALL BEGINS. Each datum BY PROGRAM (the guide's laid-datum.mjs) off the statement by which the dump's own 'gosem.cut.vars' lays the variable. In a bare row this is a premise. The card (YtialfoccalobpaaDoorCards.lean) ties it to the program's text. -/
def laid_cresset_fp_square {H : Type} : DataW H := .agg [.agg [.lit (.int .u64 17644856173732828998), .lit (.int .u64 754043588434789617), .lit (.int .u64 10224657059481499349), .lit (.int .u64 7488229067341005760), .lit (.int .u64 11130996698012816685), .lit (.int .u64 1267921511277847466)]]
def laid_cresset_fp_shift {H : Type} : DataW H := .agg [.agg [.lit (.int .u64 4807590280750076774), .lit (.int .u64 8612159356199394243), .lit (.int .u64 12878354973820563945), .lit (.int .u64 2337167537087690866), .lit (.int .u64 6431483094484234427), .lit (.int .u64 293241525500371865)]]
def laid_cresset_sha_start {H : Type} : DataW H := .agg [.lit (.int .u32 1779033703), .lit (.int .u32 3144134277), .lit (.int .u32 1013904242), .lit (.int .u32 2773480762), .lit (.int .u32 1359893119), .lit (.int .u32 2600822924), .lit (.int .u32 528734635), .lit (.int .u32 1541459225)]
def laid_cresset_sha_factors {H : Type} : DataW H := .agg [.lit (.int .u32 1116352408), .lit (.int .u32 1899447441), .lit (.int .u32 3049323471), .lit (.int .u32 3921009573), .lit (.int .u32 961987163), .lit (.int .u32 1508970993), .lit (.int .u32 2453635748), .lit (.int .u32 2870763221), .lit (.int .u32 3624381080), .lit (.int .u32 310598401), .lit (.int .u32 607225278), .lit (.int .u32 1426881987), .lit (.int .u32 1925078388), .lit (.int .u32 2162078206), .lit (.int .u32 2614888103), .lit (.int .u32 3248222580), .lit (.int .u32 3835390401), .lit (.int .u32 4022224774), .lit (.int .u32 264347078), .lit (.int .u32 604807628), .lit (.int .u32 770255983), .lit (.int .u32 1249150122), .lit (.int .u32 1555081692), .lit (.int .u32 1996064986), .lit (.int .u32 2554220882), .lit (.int .u32 2821834349), .lit (.int .u32 2952996808), .lit (.int .u32 3210313671), .lit (.int .u32 3336571891), .lit (.int .u32 3584528711), .lit (.int .u32 113926993), .lit (.int .u32 338241895), .lit (.int .u32 666307205), .lit (.int .u32 773529912), .lit (.int .u32 1294757372), .lit (.int .u32 1396182291), .lit (.int .u32 1695183700), .lit (.int .u32 1986661051), .lit (.int .u32 2177026350), .lit (.int .u32 2456956037), .lit (.int .u32 2730485921), .lit (.int .u32 2820302411), .lit (.int .u32 3259730800), .lit (.int .u32 3345764771), .lit (.int .u32 3516065817), .lit (.int .u32 3600352804), .lit (.int .u32 4094571909), .lit (.int .u32 275423344), .lit (.int .u32 430227734), .lit (.int .u32 506948616), .lit (.int .u32 659060556), .lit (.int .u32 883997877), .lit (.int .u32 958139571), .lit (.int .u32 1322822218), .lit (.int .u32 1537002063), .lit (.int .u32 1747873779), .lit (.int .u32 1955562222), .lit (.int .u32 2024104815), .lit (.int .u32 2227730452), .lit (.int .u32 2361852424), .lit (.int .u32 2428436474), .lit (.int .u32 2756734187), .lit (.int .u32 3204031479), .lit (.int .u32 3329325298)]
def laid_cresset_fp_modulus {H : Type} : DataW H := .agg [.lit (.int .u64 13402431016077863595), .lit (.int .u64 2210141511517208575), .lit (.int .u64 7435674573564081700), .lit (.int .u64 7239337960414712511), .lit (.int .u64 5412103778470702295), .lit (.int .u64 1873798617647539866)]
def laid_cresset_fr_modulus {H : Type} : DataW H := .agg [.lit (.int .u64 18446744069414584321), .lit (.int .u64 6034159408538082302), .lit (.int .u64 3691218898639771653), .lit (.int .u64 8353516859464449352)]
def laid_cresset_fr_square {H : Type} : DataW H := .agg [.agg [.lit (.int .u64 14526898881837571181), .lit (.int .u64 3129137299524312099), .lit (.int .u64 419701826671360399), .lit (.int .u64 524908885293268753)]]
def laid_cresset_fr_shift {H : Type} : DataW H := .agg [.agg [.lit (.int .u64 14523443104127764612), .lit (.int .u64 16642195494414990439), .lit (.int .u64 12886746614725508593), .lit (.int .u64 1850512792699151402)]]

/-- 'cressetlaw11.XmdNumbers': WHATEVER THE INPUT: true; the input reads as it did. -/
def xmdNumbersSpec : ChangeSpec := { name := "xmdNumbers", fn := fun _ => fun
  | [d1, d2, d3] => { results := [.lit (.bool true)], args := [d1, d2, d3] }
  | _ => none }
def xmdNumbersRow : OpenClaim := { program := "ytialfoccalobpaadoor", sum := "3d074ebf224e111498b5fac84f619a5102fe4a1374b861127f2e3f830a7686c7", func := "cresset/cressetlaw11.XmdNumbers", spec := "xmdNumbers", inPlace := ["math/bits.Add64", "math/bits.Sub64"], unfollowed := true, recurses := true, named := ["cresset/sha.start", "cresset/sha.factors", "cresset/fp.shift", "cresset/fp.square"], apart := false, laid := [("cresset/fp.square", laid_cresset_fp_square), ("cresset/fp.shift", laid_cresset_fp_shift), ("cresset/sha.start", laid_cresset_sha_start), ("cresset/sha.factors", laid_cresset_sha_factors)] }
def XmdNumbersSaid : Prop := xmdNumbersRow.holds Tryd.pinned (OpenSpec.ofChange xmdNumbersSpec)

/-- ITS FALSE NEIGHBOUR: 'it returns false'. Refute it at one input. -/
def xmdNumbersWrong : ChangeSpec := { name := "xmdNumbers", fn := fun _ => fun
  | [d1, d2, d3] => { results := [.lit (.bool false)], args := [d1, d2, d3] }
  | _ => none }
def XmdNumbersWrongFalsely : Prop := xmdNumbersRow.holds Tryd.pinned (OpenSpec.ofChange xmdNumbersWrong)

/-- 'cressetlaw01.ShaStreams': WHATEVER THE INPUT: true; the input reads as it did. -/
def shaStreamsSpec : ChangeSpec := { name := "shaStreams", fn := fun _ => fun
  | [d1, d2] => { results := [.lit (.bool true)], args := [d1, d2] }
  | _ => none }
def shaStreamsRow : OpenClaim := { program := "ytialfoccalobpaadoor", sum := "3d074ebf224e111498b5fac84f619a5102fe4a1374b861127f2e3f830a7686c7", func := "cresset/cressetlaw01.ShaStreams", spec := "shaStreams", named := ["cresset/sha.start", "cresset/sha.factors"], apart := false, laid := [("cresset/sha.start", laid_cresset_sha_start), ("cresset/sha.factors", laid_cresset_sha_factors)] }
def ShaStreamsSaid : Prop := shaStreamsRow.holds Tryd.pinned (OpenSpec.ofChange shaStreamsSpec)

/-- ITS FALSE NEIGHBOUR: 'it returns false'. Refute it at one input. -/
def shaStreamsWrong : ChangeSpec := { name := "shaStreams", fn := fun _ => fun
  | [d1, d2] => { results := [.lit (.bool false)], args := [d1, d2] }
  | _ => none }
def ShaStreamsWrongFalsely : Prop := shaStreamsRow.holds Tryd.pinned (OpenSpec.ofChange shaStreamsWrong)

/-- 'cressetlaw07.G1Lists': WHATEVER THE INPUT: true; the input reads as it did. -/
def g1ListsSpec : ChangeSpec := { name := "g1Lists", fn := fun _ => fun
  | [d1, d2] => { results := [.lit (.bool true)], args := [d1, d2] }
  | _ => none }
def g1ListsRow : OpenClaim := { program := "ytialfoccalobpaadoor", sum := "3d074ebf224e111498b5fac84f619a5102fe4a1374b861127f2e3f830a7686c7", func := "cresset/cressetlaw07.G1Lists", spec := "g1Lists", inPlace := ["math/bits.Sub64", "math/bits.Add64"], unfollowed := true, recurses := true, named := ["cresset/fp.modulus", "cresset/fp.square", "cresset/fr.shift", "cresset/fr.modulus", "cresset/fr.square"], apart := false, laid := [("cresset/fp.modulus", laid_cresset_fp_modulus), ("cresset/fp.square", laid_cresset_fp_square), ("cresset/fr.modulus", laid_cresset_fr_modulus), ("cresset/fr.square", laid_cresset_fr_square), ("cresset/fr.shift", laid_cresset_fr_shift)] }
def G1ListsSaid : Prop := g1ListsRow.holds Tryd.pinned (OpenSpec.ofChange g1ListsSpec)

/-- ITS FALSE NEIGHBOUR: 'it returns false'. Refute it at one input. -/
def g1ListsWrong : ChangeSpec := { name := "g1Lists", fn := fun _ => fun
  | [d1, d2] => { results := [.lit (.bool false)], args := [d1, d2] }
  | _ => none }
def G1ListsWrongFalsely : Prop := g1ListsRow.holds Tryd.pinned (OpenSpec.ofChange g1ListsWrong)

/-- 'cressetlaw08.G2Lists': WHATEVER THE INPUT: true; the input reads as it did. -/
def g2ListsSpec : ChangeSpec := { name := "g2Lists", fn := fun _ => fun
  | [d1, d2] => { results := [.lit (.bool true)], args := [d1, d2] }
  | _ => none }
def g2ListsRow : OpenClaim := { program := "ytialfoccalobpaadoor", sum := "3d074ebf224e111498b5fac84f619a5102fe4a1374b861127f2e3f830a7686c7", func := "cresset/cressetlaw08.G2Lists", spec := "g2Lists", inPlace := ["math/bits.Sub64", "math/bits.Add64"], unfollowed := true, recurses := true, named := ["cresset/fp.modulus", "cresset/fp.square", "cresset/fr.shift", "cresset/fr.modulus", "cresset/fr.square"], apart := false, laid := [("cresset/fp.modulus", laid_cresset_fp_modulus), ("cresset/fp.square", laid_cresset_fp_square), ("cresset/fr.modulus", laid_cresset_fr_modulus), ("cresset/fr.square", laid_cresset_fr_square), ("cresset/fr.shift", laid_cresset_fr_shift)] }
def G2ListsSaid : Prop := g2ListsRow.holds Tryd.pinned (OpenSpec.ofChange g2ListsSpec)

/-- ITS FALSE NEIGHBOUR: 'it returns false'. Refute it at one input. -/
def g2ListsWrong : ChangeSpec := { name := "g2Lists", fn := fun _ => fun
  | [d1, d2] => { results := [.lit (.bool false)], args := [d1, d2] }
  | _ => none }
def G2ListsWrongFalsely : Prop := g2ListsRow.holds Tryd.pinned (OpenSpec.ofChange g2ListsWrong)

/-- 'cressetlaw06.TowerReckons': WHATEVER THE INPUT: true; the input reads as it did. -/
def towerReckonsSpec : ChangeSpec := { name := "towerReckons", fn := fun _ => fun
  | [d1, d2] => { results := [.lit (.bool true)], args := [d1, d2] }
  | _ => none }
def towerReckonsRow : OpenClaim := { program := "ytialfoccalobpaadoor", sum := "3d074ebf224e111498b5fac84f619a5102fe4a1374b861127f2e3f830a7686c7", func := "cresset/cressetlaw06.TowerReckons", spec := "towerReckons", inPlace := ["math/bits.Add64", "math/bits.Sub64"], named := ["cresset/fp.square", "cresset/fp.modulus"], apart := false, laid := [("cresset/fp.modulus", laid_cresset_fp_modulus), ("cresset/fp.square", laid_cresset_fp_square)] }
def TowerReckonsSaid : Prop := towerReckonsRow.holds Tryd.pinned (OpenSpec.ofChange towerReckonsSpec)

/-- ITS FALSE NEIGHBOUR: 'it returns false'. Refute it at one input. -/
def towerReckonsWrong : ChangeSpec := { name := "towerReckons", fn := fun _ => fun
  | [d1, d2] => { results := [.lit (.bool false)], args := [d1, d2] }
  | _ => none }
def TowerReckonsWrongFalsely : Prop := towerReckonsRow.holds Tryd.pinned (OpenSpec.ofChange towerReckonsWrong)

/- THE SECOND FORM. 'bulk': how many values and letters a reading holds, each counted each time it is reached (what is shared counts as often as it is met; a slice's spare places count too). A statement '..UptoSaid' is the law's where the arguments, and the package variables that the reading takes, are together of bulk at most 1048576: NARROWER than '..Said'. Prove '..Said' where nothing that the law and all that it calls make is longer than what came in: it says more and counts as full. Else prove '..UptoSaid'. A law counts once. -/
mutual
def uptoBulk {H : Type} : DataW H → Nat
  | .lit (.string bytes) => bytes.length + 1
  | .lit _ => 1
  | .nil => 1
  | .ptr d => uptoBulk d + 1
  | .slice elems spare => uptoBulkAll elems + uptoBulkAll spare + 1
  | .agg parts => uptoBulkAll parts + 1
  | .iface _ d => uptoBulk d + 1
  | .map entries => uptoBulkEntries entries + 1
  | .held _ => 1
def uptoBulkAll {H : Type} : List (DataW H) → Nat
  | [] => 0
  | d :: r => uptoBulk d + uptoBulkAll r
def uptoBulkEntries {H : Type} : List (Lit × DataW H) → Nat
  | [] => 0
  | x :: r => uptoBulkEntry x + uptoBulkEntries r
def uptoBulkEntry {H : Type} : Lit × DataW H → Nat
  | (.string bytes, d) => bytes.length + uptoBulk d + 1
  | (_, d) => uptoBulk d + 1
 end
def uptoSmall : (H : Type) → List (DataW H) → Bool := fun _ ds => decide (uptoBulkAll ds ≤ 1048576)
def OpenSpec.upto (s : _root_.Go.ChangeSpec) : _root_.Go.OpenSpec := { _root_.Go.OpenSpec.ofChange s with cond := some uptoSmall }

/-- 'cressetlaw11.XmdNumbers', WHERE WHAT IT READS IS OF BULK AT MOST 1048576: true; the input reads as it did. -/
def xmdNumbersUptoRow : OpenClaim := { program := "ytialfoccalobpaadoor", sum := "3d074ebf224e111498b5fac84f619a5102fe4a1374b861127f2e3f830a7686c7", func := "cresset/cressetlaw11.XmdNumbers", spec := "xmdNumbers", inPlace := ["math/bits.Add64", "math/bits.Sub64"], unfollowed := true, recurses := true, named := ["cresset/sha.start", "cresset/sha.factors", "cresset/fp.shift", "cresset/fp.square"], apart := false, laid := [("cresset/fp.square", laid_cresset_fp_square), ("cresset/fp.shift", laid_cresset_fp_shift), ("cresset/sha.start", laid_cresset_sha_start), ("cresset/sha.factors", laid_cresset_sha_factors)], narrowed := true }
def XmdNumbersUptoSaid : Prop := xmdNumbersUptoRow.holds Tryd.pinned (OpenSpec.upto xmdNumbersSpec)

/-- 'cressetlaw01.ShaStreams', WHERE WHAT IT READS IS OF BULK AT MOST 1048576: true; the input reads as it did. -/
def shaStreamsUptoRow : OpenClaim := { program := "ytialfoccalobpaadoor", sum := "3d074ebf224e111498b5fac84f619a5102fe4a1374b861127f2e3f830a7686c7", func := "cresset/cressetlaw01.ShaStreams", spec := "shaStreams", named := ["cresset/sha.start", "cresset/sha.factors"], apart := false, laid := [("cresset/sha.start", laid_cresset_sha_start), ("cresset/sha.factors", laid_cresset_sha_factors)], narrowed := true }
def ShaStreamsUptoSaid : Prop := shaStreamsUptoRow.holds Tryd.pinned (OpenSpec.upto shaStreamsSpec)

/-- 'cressetlaw07.G1Lists', WHERE WHAT IT READS IS OF BULK AT MOST 1048576: true; the input reads as it did. -/
def g1ListsUptoRow : OpenClaim := { program := "ytialfoccalobpaadoor", sum := "3d074ebf224e111498b5fac84f619a5102fe4a1374b861127f2e3f830a7686c7", func := "cresset/cressetlaw07.G1Lists", spec := "g1Lists", inPlace := ["math/bits.Sub64", "math/bits.Add64"], unfollowed := true, recurses := true, named := ["cresset/fp.modulus", "cresset/fp.square", "cresset/fr.shift", "cresset/fr.modulus", "cresset/fr.square"], apart := false, laid := [("cresset/fp.modulus", laid_cresset_fp_modulus), ("cresset/fp.square", laid_cresset_fp_square), ("cresset/fr.modulus", laid_cresset_fr_modulus), ("cresset/fr.square", laid_cresset_fr_square), ("cresset/fr.shift", laid_cresset_fr_shift)], narrowed := true }
def G1ListsUptoSaid : Prop := g1ListsUptoRow.holds Tryd.pinned (OpenSpec.upto g1ListsSpec)

/-- 'cressetlaw08.G2Lists', WHERE WHAT IT READS IS OF BULK AT MOST 1048576: true; the input reads as it did. -/
def g2ListsUptoRow : OpenClaim := { program := "ytialfoccalobpaadoor", sum := "3d074ebf224e111498b5fac84f619a5102fe4a1374b861127f2e3f830a7686c7", func := "cresset/cressetlaw08.G2Lists", spec := "g2Lists", inPlace := ["math/bits.Sub64", "math/bits.Add64"], unfollowed := true, recurses := true, named := ["cresset/fp.modulus", "cresset/fp.square", "cresset/fr.shift", "cresset/fr.modulus", "cresset/fr.square"], apart := false, laid := [("cresset/fp.modulus", laid_cresset_fp_modulus), ("cresset/fp.square", laid_cresset_fp_square), ("cresset/fr.modulus", laid_cresset_fr_modulus), ("cresset/fr.square", laid_cresset_fr_square), ("cresset/fr.shift", laid_cresset_fr_shift)], narrowed := true }
def G2ListsUptoSaid : Prop := g2ListsUptoRow.holds Tryd.pinned (OpenSpec.upto g2ListsSpec)

/-- 'cressetlaw06.TowerReckons', WHERE WHAT IT READS IS OF BULK AT MOST 1048576: true; the input reads as it did. -/
def towerReckonsUptoRow : OpenClaim := { program := "ytialfoccalobpaadoor", sum := "3d074ebf224e111498b5fac84f619a5102fe4a1374b861127f2e3f830a7686c7", func := "cresset/cressetlaw06.TowerReckons", spec := "towerReckons", inPlace := ["math/bits.Add64", "math/bits.Sub64"], named := ["cresset/fp.square", "cresset/fp.modulus"], apart := false, laid := [("cresset/fp.modulus", laid_cresset_fp_modulus), ("cresset/fp.square", laid_cresset_fp_square)], narrowed := true }
def TowerReckonsUptoSaid : Prop := towerReckonsUptoRow.holds Tryd.pinned (OpenSpec.upto towerReckonsSpec)

end Rows
end Go.Proofs.YtialfoccalobpaaDoor
