/-
  DERIVED. GIVEN WITH THE SEED: THE PROGRAM's TIES (one call each: nine closed facts by the kernel) AND EACH ROW's TIE, after the 31st guide's Derived/Test/Toyas{Tie, Card}.lean. No idea stands in it: it is a product of the set-up. Laid BY PROGRAM, IN A SANDBOX (cutbox-door.mjs). By AI agents, Wed Nov 11 2026. No macro, syntax, notation, axiom, sorry.
-/
import Derived.Test.YthfdohhglnhonaaDoorRows
import Derived.LaidByTextLater
import Derived.SevenTiedAt
import Derived.LaidSub
import Derived.LaidOnce
namespace Go.Proofs.YthfdohhglnhonaaDoor
open Go
set_option maxRecDepth 100000
theorem seatTie1 : Tryd.prog.laidByTextLater [("cresset/fp.modulus", Rows.laid_cresset_fp_modulus), ("cresset/fp.upper", Rows.laid_cresset_fp_upper), ("cresset/fp.quarter", Rows.laid_cresset_fp_quarter), ("cresset/fp.square", Rows.laid_cresset_fp_square), ("cresset/fp.shift", Rows.laid_cresset_fp_shift)] [.data, .data, .data, .data, .data] true :=
  Program.laidByTextLater_by_one 36 8 7 (by kernel_rfl) (by kernel_rfl) (by kernel_rfl) (by kernel_rfl) (by kernel_rfl) (by kernel_rfl) (fun _ _ => by kernel_rfl)
theorem noOwnUnsafe : Tryd.pinned.checked.prog.headLifts.contains "ownunsafe" = false := by kernel_rfl
theorem tie : Tryd.prog.laidByTextLater [("cresset/fp.modulus", Rows.laid_cresset_fp_modulus), ("cresset/fp.square", Rows.laid_cresset_fp_square)] [.data, .data] true :=
  Program.laidByTextLater.sub seatTie1 ["cresset/fp.modulus", "cresset/fp.square"] (by kernel_rfl) (by kernel_rfl)
theorem fp2Reads_row_tie : Rows.fp2ReadsRow.laidByTextAt .later Tryd.pinned [.data, .data] true :=
  OpenClaim.laidByTextAt_later rfl rfl tie noOwnUnsafe
theorem fp2Reckons_row_tie : Rows.fp2ReckonsRow.laidByTextAt .later Tryd.pinned [.data, .data] true :=
  OpenClaim.laidByTextAt_later rfl rfl tie noOwnUnsafe
theorem tie2 : Tryd.prog.laidByTextLater [("cresset/fp.modulus", Rows.laid_cresset_fp_modulus), ("cresset/fp.upper", Rows.laid_cresset_fp_upper), ("cresset/fp.quarter", Rows.laid_cresset_fp_quarter), ("cresset/fp.square", Rows.laid_cresset_fp_square)] [.data, .data, .data, .data] true :=
  Program.laidByTextLater.sub seatTie1 ["cresset/fp.modulus", "cresset/fp.upper", "cresset/fp.quarter", "cresset/fp.square"] (by kernel_rfl) (by kernel_rfl)
theorem fp2Roots_row_tie : Rows.fp2RootsRow.laidByTextAt .later Tryd.pinned [.data, .data, .data, .data] true :=
  OpenClaim.laidByTextAt_later rfl rfl tie2 noOwnUnsafe
theorem tie3 : Tryd.prog.laidByTextLater [("cresset/fp.modulus", Rows.laid_cresset_fp_modulus), ("cresset/fp.upper", Rows.laid_cresset_fp_upper), ("cresset/fp.quarter", Rows.laid_cresset_fp_quarter), ("cresset/fp.square", Rows.laid_cresset_fp_square), ("cresset/fp.shift", Rows.laid_cresset_fp_shift)] [.data, .data, .data, .data, .data] true :=
  Program.laidByTextLater.sub seatTie1 ["cresset/fp.modulus", "cresset/fp.upper", "cresset/fp.quarter", "cresset/fp.square", "cresset/fp.shift"] (by kernel_rfl) (by kernel_rfl)
theorem fp2Squares_row_tie : Rows.fp2SquaresRow.laidByTextAt .later Tryd.pinned [.data, .data, .data, .data, .data] true :=
  OpenClaim.laidByTextAt_later rfl rfl tie3 noOwnUnsafe
theorem tie4 : Tryd.prog.laidByTextLater [("cresset/fp.square", Rows.laid_cresset_fp_square), ("cresset/fp.shift", Rows.laid_cresset_fp_shift)] [.data, .data] true :=
  Program.laidByTextLater.sub seatTie1 ["cresset/fp.square", "cresset/fp.shift"] (by kernel_rfl) (by kernel_rfl)
theorem fp2Rules_row_tie : Rows.fp2RulesRow.laidByTextAt .later Tryd.pinned [.data, .data] true :=
  OpenClaim.laidByTextAt_later rfl rfl tie4 noOwnUnsafe
theorem fp2Turns_row_tie : Rows.fp2TurnsRow.laidByTextAt .later Tryd.pinned [.data, .data] true :=
  OpenClaim.laidByTextAt_later rfl rfl tie4 noOwnUnsafe
theorem fp2ReadsUpto_row_tie : Rows.fp2ReadsUptoRow.laidByTextAt .later Tryd.pinned [.data, .data] true :=
  OpenClaim.laidByTextAt_later rfl rfl tie noOwnUnsafe
theorem fp2ReckonsUpto_row_tie : Rows.fp2ReckonsUptoRow.laidByTextAt .later Tryd.pinned [.data, .data] true :=
  OpenClaim.laidByTextAt_later rfl rfl tie noOwnUnsafe
theorem fp2RootsUpto_row_tie : Rows.fp2RootsUptoRow.laidByTextAt .later Tryd.pinned [.data, .data, .data, .data] true :=
  OpenClaim.laidByTextAt_later rfl rfl tie2 noOwnUnsafe
theorem fp2SquaresUpto_row_tie : Rows.fp2SquaresUptoRow.laidByTextAt .later Tryd.pinned [.data, .data, .data, .data, .data] true :=
  OpenClaim.laidByTextAt_later rfl rfl tie3 noOwnUnsafe
theorem fp2RulesUpto_row_tie : Rows.fp2RulesUptoRow.laidByTextAt .later Tryd.pinned [.data, .data] true :=
  OpenClaim.laidByTextAt_later rfl rfl tie4 noOwnUnsafe
theorem fp2TurnsUpto_row_tie : Rows.fp2TurnsUptoRow.laidByTextAt .later Tryd.pinned [.data, .data] true :=
  OpenClaim.laidByTextAt_later rfl rfl tie4 noOwnUnsafe
end Go.Proofs.YthfdohhglnhonaaDoor
