/-
  NARROWER THAN 'FOR EVERY INPUT', by the rows' own cells (each row's printed sentence says how): ShaSums: laid · ShaStreams: laid · HkdfMacs: laid · HkdfKeys: laid · XmdExpands: laid · XmdNumbers: laid · XmdApart: laid.
  DERIVED. THE GIVEN ROWS OF THIS SEAT. 7 by the template 'for every input the law returns true; each argument reads behind the call as it read before'; 0 by the template 'total and deterministic' (their statements: YtgkfkfodeooogaaDoorTotals.lean).
  GIVEN WITH THE SEED: the statements are not yours to turn. If you find one false, say at which input.
  Laid BY PROGRAM, IN A SANDBOX (cutbox-rows.mjs): the forced cells as the released guide's own fill.sh prints them over the translation 03430b10b160fb42… (all of the seat's roots in one cut). By AI agents, Wed Nov 11 2026. No macro, syntax, notation, axiom, sorry.
-/
import Derived.Test.YtgkfkfodeooogaaDoorChecked
import GoSem.Claim
import GoSem.ClaimJoined
import GoSem.ClaimMapViews
import Derived.JoinedTies
import Derived.KernelRfl
namespace Go.Proofs.YtgkfkfodeooogaaDoor
/- THE CELL 'sum', in the pinned program and in every row, IS THE sha256 OF THE DUMP (.gsa) THAT YtgkfkfodeooogaaDoorProg.lean LOADS. Nothing in Lean hashes anything: it is a label: what it is worth is what the hold of that sum in a sandbox is worth. -/
noncomputable def Tryd.pinned : Pinned := { name := "ytgkfkfodeooogaadoor", sum := "03430b10b160fb42697754f0206965e29f442389d41d641c4fc6f8e65b2202d2", checked := Tryd.checked }
namespace Rows
def none {H : Type} : Left H := { results := [], args := [] }

/- WHAT THE LISTED PACKAGE-LEVEL VARIABLES READ AS WHEN THE CALL BEGINS. Each datum BY PROGRAM (the guide's laid-datum.mjs) off the statement by which the dump's own 'gosem.cut.vars' lays the variable. In a bare row this is a premise. The card (YtgkfkfodeooogaaDoorCards.lean) ties it to the program's text. -/
def laid_cresset_sha_start {H : Type} : DataW H := .agg [.lit (.int .u32 1779033703), .lit (.int .u32 3144134277), .lit (.int .u32 1013904242), .lit (.int .u32 2773480762), .lit (.int .u32 1359893119), .lit (.int .u32 2600822924), .lit (.int .u32 528734635), .lit (.int .u32 1541459225)]
def laid_cresset_sha_factors {H : Type} : DataW H := .agg [.lit (.int .u32 1116352408), .lit (.int .u32 1899447441), .lit (.int .u32 3049323471), .lit (.int .u32 3921009573), .lit (.int .u32 961987163), .lit (.int .u32 1508970993), .lit (.int .u32 2453635748), .lit (.int .u32 2870763221), .lit (.int .u32 3624381080), .lit (.int .u32 310598401), .lit (.int .u32 607225278), .lit (.int .u32 1426881987), .lit (.int .u32 1925078388), .lit (.int .u32 2162078206), .lit (.int .u32 2614888103), .lit (.int .u32 3248222580), .lit (.int .u32 3835390401), .lit (.int .u32 4022224774), .lit (.int .u32 264347078), .lit (.int .u32 604807628), .lit (.int .u32 770255983), .lit (.int .u32 1249150122), .lit (.int .u32 1555081692), .lit (.int .u32 1996064986), .lit (.int .u32 2554220882), .lit (.int .u32 2821834349), .lit (.int .u32 2952996808), .lit (.int .u32 3210313671), .lit (.int .u32 3336571891), .lit (.int .u32 3584528711), .lit (.int .u32 113926993), .lit (.int .u32 338241895), .lit (.int .u32 666307205), .lit (.int .u32 773529912), .lit (.int .u32 1294757372), .lit (.int .u32 1396182291), .lit (.int .u32 1695183700), .lit (.int .u32 1986661051), .lit (.int .u32 2177026350), .lit (.int .u32 2456956037), .lit (.int .u32 2730485921), .lit (.int .u32 2820302411), .lit (.int .u32 3259730800), .lit (.int .u32 3345764771), .lit (.int .u32 3516065817), .lit (.int .u32 3600352804), .lit (.int .u32 4094571909), .lit (.int .u32 275423344), .lit (.int .u32 430227734), .lit (.int .u32 506948616), .lit (.int .u32 659060556), .lit (.int .u32 883997877), .lit (.int .u32 958139571), .lit (.int .u32 1322822218), .lit (.int .u32 1537002063), .lit (.int .u32 1747873779), .lit (.int .u32 1955562222), .lit (.int .u32 2024104815), .lit (.int .u32 2227730452), .lit (.int .u32 2361852424), .lit (.int .u32 2428436474), .lit (.int .u32 2756734187), .lit (.int .u32 3204031479), .lit (.int .u32 3329325298)]
def laid_cresset_fp_square {H : Type} : DataW H := .agg [.agg [.lit (.int .u64 17644856173732828998), .lit (.int .u64 754043588434789617), .lit (.int .u64 10224657059481499349), .lit (.int .u64 7488229067341005760), .lit (.int .u64 11130996698012816685), .lit (.int .u64 1267921511277847466)]]
def laid_cresset_fp_shift {H : Type} : DataW H := .agg [.agg [.lit (.int .u64 4807590280750076774), .lit (.int .u64 8612159356199394243), .lit (.int .u64 12878354973820563945), .lit (.int .u64 2337167537087690866), .lit (.int .u64 6431483094484234427), .lit (.int .u64 293241525500371865)]]

/-- 'cressetlaw01.ShaSums': WHATEVER THE INPUT: true; the input reads as it did. -/
def shaSumsSpec : ChangeSpec := { name := "shaSums", fn := fun _ => fun
  | [d] => { results := [.lit (.bool true)], args := [d] }
  | _ => none }
def shaSumsRow : OpenClaim := { program := "ytgkfkfodeooogaadoor", sum := "03430b10b160fb42697754f0206965e29f442389d41d641c4fc6f8e65b2202d2", func := "cresset/cressetlaw01.ShaSums", spec := "shaSums", named := ["cresset/sha.start", "cresset/sha.factors"], apart := false, laid := [("cresset/sha.start", laid_cresset_sha_start), ("cresset/sha.factors", laid_cresset_sha_factors)] }
def ShaSumsSaid : Prop := shaSumsRow.holds Tryd.pinned (OpenSpec.ofChange shaSumsSpec)

/-- ITS FALSE NEIGHBOUR: 'it returns false'. Refute it at one input. -/
def shaSumsWrong : ChangeSpec := { name := "shaSums", fn := fun _ => fun
  | [d] => { results := [.lit (.bool false)], args := [d] }
  | _ => none }
def ShaSumsWrongFalsely : Prop := shaSumsRow.holds Tryd.pinned (OpenSpec.ofChange shaSumsWrong)

/-- 'cressetlaw01.ShaStreams': WHATEVER THE INPUT: true; the input reads as it did. -/
def shaStreamsSpec : ChangeSpec := { name := "shaStreams", fn := fun _ => fun
  | [d1, d2] => { results := [.lit (.bool true)], args := [d1, d2] }
  | _ => none }
def shaStreamsRow : OpenClaim := { program := "ytgkfkfodeooogaadoor", sum := "03430b10b160fb42697754f0206965e29f442389d41d641c4fc6f8e65b2202d2", func := "cresset/cressetlaw01.ShaStreams", spec := "shaStreams", named := ["cresset/sha.start", "cresset/sha.factors"], apart := false, laid := [("cresset/sha.start", laid_cresset_sha_start), ("cresset/sha.factors", laid_cresset_sha_factors)] }
def ShaStreamsSaid : Prop := shaStreamsRow.holds Tryd.pinned (OpenSpec.ofChange shaStreamsSpec)

/-- ITS FALSE NEIGHBOUR: 'it returns false'. Refute it at one input. -/
def shaStreamsWrong : ChangeSpec := { name := "shaStreams", fn := fun _ => fun
  | [d1, d2] => { results := [.lit (.bool false)], args := [d1, d2] }
  | _ => none }
def ShaStreamsWrongFalsely : Prop := shaStreamsRow.holds Tryd.pinned (OpenSpec.ofChange shaStreamsWrong)

/-- 'cressetlaw02.HkdfMacs': WHATEVER THE INPUT: true; the input reads as it did. -/
def hkdfMacsSpec : ChangeSpec := { name := "hkdfMacs", fn := fun _ => fun
  | [d1, d2] => { results := [.lit (.bool true)], args := [d1, d2] }
  | _ => none }
def hkdfMacsRow : OpenClaim := { program := "ytgkfkfodeooogaadoor", sum := "03430b10b160fb42697754f0206965e29f442389d41d641c4fc6f8e65b2202d2", func := "cresset/cressetlaw02.HkdfMacs", spec := "hkdfMacs", named := ["cresset/sha.start", "cresset/sha.factors"], apart := false, laid := [("cresset/sha.start", laid_cresset_sha_start), ("cresset/sha.factors", laid_cresset_sha_factors)] }
def HkdfMacsSaid : Prop := hkdfMacsRow.holds Tryd.pinned (OpenSpec.ofChange hkdfMacsSpec)

/-- ITS FALSE NEIGHBOUR: 'it returns false'. Refute it at one input. -/
def hkdfMacsWrong : ChangeSpec := { name := "hkdfMacs", fn := fun _ => fun
  | [d1, d2] => { results := [.lit (.bool false)], args := [d1, d2] }
  | _ => none }
def HkdfMacsWrongFalsely : Prop := hkdfMacsRow.holds Tryd.pinned (OpenSpec.ofChange hkdfMacsWrong)

/-- 'cressetlaw02.HkdfKeys': WHATEVER THE INPUT: true; the input reads as it did. -/
def hkdfKeysSpec : ChangeSpec := { name := "hkdfKeys", fn := fun _ => fun
  | [d1, d2, d3, d4] => { results := [.lit (.bool true)], args := [d1, d2, d3, d4] }
  | _ => none }
def hkdfKeysRow : OpenClaim := { program := "ytgkfkfodeooogaadoor", sum := "03430b10b160fb42697754f0206965e29f442389d41d641c4fc6f8e65b2202d2", func := "cresset/cressetlaw02.HkdfKeys", spec := "hkdfKeys", named := ["cresset/sha.start", "cresset/sha.factors"], apart := false, laid := [("cresset/sha.start", laid_cresset_sha_start), ("cresset/sha.factors", laid_cresset_sha_factors)] }
def HkdfKeysSaid : Prop := hkdfKeysRow.holds Tryd.pinned (OpenSpec.ofChange hkdfKeysSpec)

/-- ITS FALSE NEIGHBOUR: 'it returns false'. Refute it at one input. -/
def hkdfKeysWrong : ChangeSpec := { name := "hkdfKeys", fn := fun _ => fun
  | [d1, d2, d3, d4] => { results := [.lit (.bool false)], args := [d1, d2, d3, d4] }
  | _ => none }
def HkdfKeysWrongFalsely : Prop := hkdfKeysRow.holds Tryd.pinned (OpenSpec.ofChange hkdfKeysWrong)

/-- 'cressetlaw11.XmdExpands': WHATEVER THE INPUT: true; the input reads as it did. -/
def xmdExpandsSpec : ChangeSpec := { name := "xmdExpands", fn := fun _ => fun
  | [d1, d2, d3] => { results := [.lit (.bool true)], args := [d1, d2, d3] }
  | _ => none }
def xmdExpandsRow : OpenClaim := { program := "ytgkfkfodeooogaadoor", sum := "03430b10b160fb42697754f0206965e29f442389d41d641c4fc6f8e65b2202d2", func := "cresset/cressetlaw11.XmdExpands", spec := "xmdExpands", named := ["cresset/sha.start", "cresset/sha.factors"], apart := false, laid := [("cresset/sha.start", laid_cresset_sha_start), ("cresset/sha.factors", laid_cresset_sha_factors)] }
def XmdExpandsSaid : Prop := xmdExpandsRow.holds Tryd.pinned (OpenSpec.ofChange xmdExpandsSpec)

/-- ITS FALSE NEIGHBOUR: 'it returns false'. Refute it at one input. -/
def xmdExpandsWrong : ChangeSpec := { name := "xmdExpands", fn := fun _ => fun
  | [d1, d2, d3] => { results := [.lit (.bool false)], args := [d1, d2, d3] }
  | _ => none }
def XmdExpandsWrongFalsely : Prop := xmdExpandsRow.holds Tryd.pinned (OpenSpec.ofChange xmdExpandsWrong)

/-- 'cressetlaw11.XmdNumbers': WHATEVER THE INPUT: true; the input reads as it did. -/
def xmdNumbersSpec : ChangeSpec := { name := "xmdNumbers", fn := fun _ => fun
  | [d1, d2, d3] => { results := [.lit (.bool true)], args := [d1, d2, d3] }
  | _ => none }
def xmdNumbersRow : OpenClaim := { program := "ytgkfkfodeooogaadoor", sum := "03430b10b160fb42697754f0206965e29f442389d41d641c4fc6f8e65b2202d2", func := "cresset/cressetlaw11.XmdNumbers", spec := "xmdNumbers", inPlace := ["math/bits.Add64", "math/bits.Sub64"], unfollowed := true, recurses := true, named := ["cresset/sha.start", "cresset/sha.factors", "cresset/fp.shift", "cresset/fp.square"], apart := false, laid := [("cresset/fp.square", laid_cresset_fp_square), ("cresset/fp.shift", laid_cresset_fp_shift), ("cresset/sha.start", laid_cresset_sha_start), ("cresset/sha.factors", laid_cresset_sha_factors)] }
def XmdNumbersSaid : Prop := xmdNumbersRow.holds Tryd.pinned (OpenSpec.ofChange xmdNumbersSpec)

/-- ITS FALSE NEIGHBOUR: 'it returns false'. Refute it at one input. -/
def xmdNumbersWrong : ChangeSpec := { name := "xmdNumbers", fn := fun _ => fun
  | [d1, d2, d3] => { results := [.lit (.bool false)], args := [d1, d2, d3] }
  | _ => none }
def XmdNumbersWrongFalsely : Prop := xmdNumbersRow.holds Tryd.pinned (OpenSpec.ofChange xmdNumbersWrong)

/-- 'cressetlaw11.XmdApart': WHATEVER THE INPUT: true; the input reads as it did. -/
def xmdApartSpec : ChangeSpec := { name := "xmdApart", fn := fun _ => fun
  | [d1, d2, d3, d4, d5, d6] => { results := [.lit (.bool true)], args := [d1, d2, d3, d4, d5, d6] }
  | _ => none }
def xmdApartRow : OpenClaim := { program := "ytgkfkfodeooogaadoor", sum := "03430b10b160fb42697754f0206965e29f442389d41d641c4fc6f8e65b2202d2", func := "cresset/cressetlaw11.XmdApart", spec := "xmdApart", named := ["cresset/sha.start", "cresset/sha.factors"], apart := false, laid := [("cresset/sha.start", laid_cresset_sha_start), ("cresset/sha.factors", laid_cresset_sha_factors)] }
def XmdApartSaid : Prop := xmdApartRow.holds Tryd.pinned (OpenSpec.ofChange xmdApartSpec)

/-- ITS FALSE NEIGHBOUR: 'it returns false'. Refute it at one input. -/
def xmdApartWrong : ChangeSpec := { name := "xmdApart", fn := fun _ => fun
  | [d1, d2, d3, d4, d5, d6] => { results := [.lit (.bool false)], args := [d1, d2, d3, d4, d5, d6] }
  | _ => none }
def XmdApartWrongFalsely : Prop := xmdApartRow.holds Tryd.pinned (OpenSpec.ofChange xmdApartWrong)

/- THE SECOND FORM. 'bulk': how many values and letters a reading holds, each counted each time it is reached (what is shared counts as often as it is met; a slice's spare places count too). A statement '..UptoSaid' is the law's where the arguments, and the package variables that the reading takes, are together of bulk at most 1048576: NARROWER than '..Said'. Prove '..Said' where nothing that the law and all that it calls make is longer than what came in: it says more and counts as full. Else prove '..UptoSaid'. A law counts once. -/
mutual
def uptoBulk {H : Type} : DataW H → Nat
  | .lit (.string bytes) => bytes.length + 1
  | .lit _ => 1
  | .nil => 1
  | .ptr d => uptoBulk d + 1
  | .slice elems spare => uptoBulkAll elems + uptoBulkAll spare + 1
  | .agg parts => uptoBulkAll parts + 1
  | .iface _ d => uptoBulk d + 1
  | .map entries => uptoBulkEntries entries + 1
  | .held _ => 1
def uptoBulkAll {H : Type} : List (DataW H) → Nat
  | [] => 0
  | d :: r => uptoBulk d + uptoBulkAll r
def uptoBulkEntries {H : Type} : List (Lit × DataW H) → Nat
  | [] => 0
  | x :: r => uptoBulkEntry x + uptoBulkEntries r
def uptoBulkEntry {H : Type} : Lit × DataW H → Nat
  | (.string bytes, d) => bytes.length + uptoBulk d + 1
  | (_, d) => uptoBulk d + 1
 end
def uptoSmall : (H : Type) → List (DataW H) → Bool := fun _ ds => decide (uptoBulkAll ds ≤ 1048576)
def OpenSpec.upto (s : _root_.Go.ChangeSpec) : _root_.Go.OpenSpec := { _root_.Go.OpenSpec.ofChange s with cond := some uptoSmall }

/-- 'cressetlaw01.ShaSums', WHERE WHAT IT READS IS OF BULK AT MOST 1048576: true; the input reads as it did. -/
def shaSumsUptoRow : OpenClaim := { program := "ytgkfkfodeooogaadoor", sum := "03430b10b160fb42697754f0206965e29f442389d41d641c4fc6f8e65b2202d2", func := "cresset/cressetlaw01.ShaSums", spec := "shaSums", named := ["cresset/sha.start", "cresset/sha.factors"], apart := false, laid := [("cresset/sha.start", laid_cresset_sha_start), ("cresset/sha.factors", laid_cresset_sha_factors)], narrowed := true }
def ShaSumsUptoSaid : Prop := shaSumsUptoRow.holds Tryd.pinned (OpenSpec.upto shaSumsSpec)

/-- 'cressetlaw01.ShaStreams', WHERE WHAT IT READS IS OF BULK AT MOST 1048576: true; the input reads as it did. -/
def shaStreamsUptoRow : OpenClaim := { program := "ytgkfkfodeooogaadoor", sum := "03430b10b160fb42697754f0206965e29f442389d41d641c4fc6f8e65b2202d2", func := "cresset/cressetlaw01.ShaStreams", spec := "shaStreams", named := ["cresset/sha.start", "cresset/sha.factors"], apart := false, laid := [("cresset/sha.start", laid_cresset_sha_start), ("cresset/sha.factors", laid_cresset_sha_factors)], narrowed := true }
def ShaStreamsUptoSaid : Prop := shaStreamsUptoRow.holds Tryd.pinned (OpenSpec.upto shaStreamsSpec)

/-- 'cressetlaw02.HkdfMacs', WHERE WHAT IT READS IS OF BULK AT MOST 1048576: true; the input reads as it did. -/
def hkdfMacsUptoRow : OpenClaim := { program := "ytgkfkfodeooogaadoor", sum := "03430b10b160fb42697754f0206965e29f442389d41d641c4fc6f8e65b2202d2", func := "cresset/cressetlaw02.HkdfMacs", spec := "hkdfMacs", named := ["cresset/sha.start", "cresset/sha.factors"], apart := false, laid := [("cresset/sha.start", laid_cresset_sha_start), ("cresset/sha.factors", laid_cresset_sha_factors)], narrowed := true }
def HkdfMacsUptoSaid : Prop := hkdfMacsUptoRow.holds Tryd.pinned (OpenSpec.upto hkdfMacsSpec)

/-- 'cressetlaw02.HkdfKeys', WHERE WHAT IT READS IS OF BULK AT MOST 1048576: true; the input reads as it did. -/
def hkdfKeysUptoRow : OpenClaim := { program := "ytgkfkfodeooogaadoor", sum := "03430b10b160fb42697754f0206965e29f442389d41d641c4fc6f8e65b2202d2", func := "cresset/cressetlaw02.HkdfKeys", spec := "hkdfKeys", named := ["cresset/sha.start", "cresset/sha.factors"], apart := false, laid := [("cresset/sha.start", laid_cresset_sha_start), ("cresset/sha.factors", laid_cresset_sha_factors)], narrowed := true }
def HkdfKeysUptoSaid : Prop := hkdfKeysUptoRow.holds Tryd.pinned (OpenSpec.upto hkdfKeysSpec)

/-- 'cressetlaw11.XmdExpands', WHERE WHAT IT READS IS OF BULK AT MOST 1048576: true; the input reads as it did. -/
def xmdExpandsUptoRow : OpenClaim := { program := "ytgkfkfodeooogaadoor", sum := "03430b10b160fb42697754f0206965e29f442389d41d641c4fc6f8e65b2202d2", func := "cresset/cressetlaw11.XmdExpands", spec := "xmdExpands", named := ["cresset/sha.start", "cresset/sha.factors"], apart := false, laid := [("cresset/sha.start", laid_cresset_sha_start), ("cresset/sha.factors", laid_cresset_sha_factors)], narrowed := true }
def XmdExpandsUptoSaid : Prop := xmdExpandsUptoRow.holds Tryd.pinned (OpenSpec.upto xmdExpandsSpec)

/-- 'cressetlaw11.XmdNumbers', WHERE WHAT IT READS IS OF BULK AT MOST 1048576: true; the input reads as it did. -/
def xmdNumbersUptoRow : OpenClaim := { program := "ytgkfkfodeooogaadoor", sum := "03430b10b160fb42697754f0206965e29f442389d41d641c4fc6f8e65b2202d2", func := "cresset/cressetlaw11.XmdNumbers", spec := "xmdNumbers", inPlace := ["math/bits.Add64", "math/bits.Sub64"], unfollowed := true, recurses := true, named := ["cresset/sha.start", "cresset/sha.factors", "cresset/fp.shift", "cresset/fp.square"], apart := false, laid := [("cresset/fp.square", laid_cresset_fp_square), ("cresset/fp.shift", laid_cresset_fp_shift), ("cresset/sha.start", laid_cresset_sha_start), ("cresset/sha.factors", laid_cresset_sha_factors)], narrowed := true }
def XmdNumbersUptoSaid : Prop := xmdNumbersUptoRow.holds Tryd.pinned (OpenSpec.upto xmdNumbersSpec)

/-- 'cressetlaw11.XmdApart', WHERE WHAT IT READS IS OF BULK AT MOST 1048576: true; the input reads as it did. -/
def xmdApartUptoRow : OpenClaim := { program := "ytgkfkfodeooogaadoor", sum := "03430b10b160fb42697754f0206965e29f442389d41d641c4fc6f8e65b2202d2", func := "cresset/cressetlaw11.XmdApart", spec := "xmdApart", named := ["cresset/sha.start", "cresset/sha.factors"], apart := false, laid := [("cresset/sha.start", laid_cresset_sha_start), ("cresset/sha.factors", laid_cresset_sha_factors)], narrowed := true }
def XmdApartUptoSaid : Prop := xmdApartUptoRow.holds Tryd.pinned (OpenSpec.upto xmdApartSpec)

end Rows
end Go.Proofs.YtgkfkfodeooogaaDoor
