/-
  DERIVED. GIVEN WITH THE SEED: THE PROGRAM's TIES (one call each: nine closed facts by the kernel) AND EACH ROW's TIE, after the 31st guide's Derived/Test/Toyas{Tie, Card}.lean. No idea stands in it: it is a product of the set-up. Laid BY PROGRAM, IN A SANDBOX (cutbox-door.mjs). By AI agents, Wed Nov 11 2026. No macro, syntax, notation, axiom, sorry.
-/
import Derived.Test.YtlbmohofdgooaaaDoorRows
import Derived.LaidByTextLater
import Derived.SevenTiedAt
import Derived.LaidSub
import Derived.LaidOnce
namespace Go.Proofs.YtlbmohofdgooaaaDoor
open Go
set_option maxRecDepth 100000
theorem seatTie1 : Tryd.prog.laidByTextLater [("cresset/fp.modulus", Rows.laid_cresset_fp_modulus), ("cresset/fp.upper", Rows.laid_cresset_fp_upper), ("cresset/fp.quarter", Rows.laid_cresset_fp_quarter), ("cresset/fp.square", Rows.laid_cresset_fp_square), ("cresset/fp.shift", Rows.laid_cresset_fp_shift)] [.data, .data, .data, .data, .data] true :=
  Program.laidByTextLater_by_one 36 8 7 (by kernel_rfl) (by kernel_rfl) (by kernel_rfl) (by kernel_rfl) (by kernel_rfl) (by kernel_rfl) (fun _ _ => by kernel_rfl)
theorem noOwnUnsafe : Tryd.pinned.checked.prog.headLifts.contains "ownunsafe" = false := by kernel_rfl
theorem tie : Tryd.prog.laidByTextLater [("cresset/fp.modulus", Rows.laid_cresset_fp_modulus), ("cresset/fp.upper", Rows.laid_cresset_fp_upper), ("cresset/fp.quarter", Rows.laid_cresset_fp_quarter), ("cresset/fp.square", Rows.laid_cresset_fp_square)] [.data, .data, .data, .data] true :=
  Program.laidByTextLater.sub seatTie1 ["cresset/fp.modulus", "cresset/fp.upper", "cresset/fp.quarter", "cresset/fp.square"] (by kernel_rfl) (by kernel_rfl)
theorem fpReads_row_tie : Rows.fpReadsRow.laidByTextAt .later Tryd.pinned [.data, .data, .data, .data] true :=
  OpenClaim.laidByTextAt_later rfl rfl tie noOwnUnsafe
theorem fpReckons_row_tie : Rows.fpReckonsRow.laidByTextAt .later Tryd.pinned [.data, .data, .data, .data] true :=
  OpenClaim.laidByTextAt_later rfl rfl tie noOwnUnsafe
theorem fpRoots_row_tie : Rows.fpRootsRow.laidByTextAt .later Tryd.pinned [.data, .data, .data, .data] true :=
  OpenClaim.laidByTextAt_later rfl rfl tie noOwnUnsafe
theorem tie2 : Tryd.prog.laidByTextLater [("cresset/fp.upper", Rows.laid_cresset_fp_upper), ("cresset/fp.quarter", Rows.laid_cresset_fp_quarter), ("cresset/fp.square", Rows.laid_cresset_fp_square), ("cresset/fp.shift", Rows.laid_cresset_fp_shift)] [.data, .data, .data, .data] true :=
  Program.laidByTextLater.sub seatTie1 ["cresset/fp.upper", "cresset/fp.quarter", "cresset/fp.square", "cresset/fp.shift"] (by kernel_rfl) (by kernel_rfl)
theorem fpWide_row_tie : Rows.fpWideRow.laidByTextAt .later Tryd.pinned [.data, .data, .data, .data] true :=
  OpenClaim.laidByTextAt_later rfl rfl tie2 noOwnUnsafe
theorem fpRules_row_tie : Rows.fpRulesRow.laidByTextAt .later Tryd.pinned [.data, .data, .data, .data] true :=
  OpenClaim.laidByTextAt_later rfl rfl tie2 noOwnUnsafe
theorem fpSquares_row_tie : Rows.fpSquaresRow.laidByTextAt .later Tryd.pinned [.data, .data, .data, .data] true :=
  OpenClaim.laidByTextAt_later rfl rfl tie2 noOwnUnsafe
theorem tie3 : Tryd.prog.laidByTextLater [("cresset/fp.modulus", Rows.laid_cresset_fp_modulus), ("cresset/fp.upper", Rows.laid_cresset_fp_upper), ("cresset/fp.quarter", Rows.laid_cresset_fp_quarter), ("cresset/fp.square", Rows.laid_cresset_fp_square), ("cresset/fp.shift", Rows.laid_cresset_fp_shift)] [.data, .data, .data, .data, .data] true :=
  Program.laidByTextLater.sub seatTie1 ["cresset/fp.modulus", "cresset/fp.upper", "cresset/fp.quarter", "cresset/fp.square", "cresset/fp.shift"] (by kernel_rfl) (by kernel_rfl)
theorem fpInverts_row_tie : Rows.fpInvertsRow.laidByTextAt .later Tryd.pinned [.data, .data, .data, .data, .data] true :=
  OpenClaim.laidByTextAt_later rfl rfl tie3 noOwnUnsafe
theorem fpForms_row_tie : Rows.fpFormsRow.laidByTextAt .later Tryd.pinned [.data, .data, .data, .data, .data] true :=
  OpenClaim.laidByTextAt_later rfl rfl tie3 noOwnUnsafe
theorem fpReadsUpto_row_tie : Rows.fpReadsUptoRow.laidByTextAt .later Tryd.pinned [.data, .data, .data, .data] true :=
  OpenClaim.laidByTextAt_later rfl rfl tie noOwnUnsafe
theorem fpWideUpto_row_tie : Rows.fpWideUptoRow.laidByTextAt .later Tryd.pinned [.data, .data, .data, .data] true :=
  OpenClaim.laidByTextAt_later rfl rfl tie2 noOwnUnsafe
theorem fpReckonsUpto_row_tie : Rows.fpReckonsUptoRow.laidByTextAt .later Tryd.pinned [.data, .data, .data, .data] true :=
  OpenClaim.laidByTextAt_later rfl rfl tie noOwnUnsafe
theorem fpInvertsUpto_row_tie : Rows.fpInvertsUptoRow.laidByTextAt .later Tryd.pinned [.data, .data, .data, .data, .data] true :=
  OpenClaim.laidByTextAt_later rfl rfl tie3 noOwnUnsafe
theorem fpRulesUpto_row_tie : Rows.fpRulesUptoRow.laidByTextAt .later Tryd.pinned [.data, .data, .data, .data] true :=
  OpenClaim.laidByTextAt_later rfl rfl tie2 noOwnUnsafe
theorem fpRootsUpto_row_tie : Rows.fpRootsUptoRow.laidByTextAt .later Tryd.pinned [.data, .data, .data, .data] true :=
  OpenClaim.laidByTextAt_later rfl rfl tie noOwnUnsafe
theorem fpSquaresUpto_row_tie : Rows.fpSquaresUptoRow.laidByTextAt .later Tryd.pinned [.data, .data, .data, .data] true :=
  OpenClaim.laidByTextAt_later rfl rfl tie2 noOwnUnsafe
theorem fpFormsUpto_row_tie : Rows.fpFormsUptoRow.laidByTextAt .later Tryd.pinned [.data, .data, .data, .data, .data] true :=
  OpenClaim.laidByTextAt_later rfl rfl tie3 noOwnUnsafe
end Go.Proofs.YtlbmohofdgooaaaDoor
