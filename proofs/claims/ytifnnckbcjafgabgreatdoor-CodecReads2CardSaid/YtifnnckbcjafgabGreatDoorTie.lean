/-
  DERIVED. GIVEN WITH THE SEED: THE PROGRAM's TIES (one call each: nine closed facts by the kernel) AND EACH ROW's TIE, after the 31st guide's Derived/Test/Toyas{Tie, Card}.lean. No idea stands in it: it is a product of the set-up. Laid BY PROGRAM, IN A SANDBOX (cutbox-door.mjs). By AI agents, Wed Nov 11 2026. No macro, syntax, notation, axiom, sorry.
-/
import Derived.Test.YtifnnckbcjafgabGreatDoorRows
import Derived.LaidByTextLater
import Derived.SevenTiedAt
import Derived.LaidSub
import Derived.LaidOnce
namespace Go.Proofs.YtifnnckbcjafgabGreatDoor
open Go
set_option maxRecDepth 100000
theorem seatTie1 : Tryz.prog.laidByTextLater [("cresset/fp.modulus", Rows.laid_cresset_fp_modulus), ("cresset/fp.upper", Rows.laid_cresset_fp_upper), ("cresset/fp.quarter", Rows.laid_cresset_fp_quarter), ("cresset/fp.square", Rows.laid_cresset_fp_square), ("cresset/fr.modulus", Rows.laid_cresset_fr_modulus), ("cresset/fr.square", Rows.laid_cresset_fr_square), ("cresset/fr.shift", Rows.laid_cresset_fr_shift)] [.data, .data, .data, .data, .data, .data, .data] true :=
  Program.laidByTextLater_by_one 47 8 7 (by kernel_rfl) (by kernel_rfl) (by kernel_rfl) (by kernel_rfl) (by kernel_rfl) (by kernel_rfl) (fun _ _ => by kernel_rfl)
theorem noOwnUnsafe : Tryz.pinned.checked.prog.headLifts.contains "ownunsafe" = false := by kernel_rfl
theorem tie : Tryz.prog.laidByTextLater [("cresset/fp.modulus", Rows.laid_cresset_fp_modulus), ("cresset/fp.upper", Rows.laid_cresset_fp_upper), ("cresset/fp.quarter", Rows.laid_cresset_fp_quarter), ("cresset/fp.square", Rows.laid_cresset_fp_square), ("cresset/fr.modulus", Rows.laid_cresset_fr_modulus), ("cresset/fr.square", Rows.laid_cresset_fr_square)] [.data, .data, .data, .data, .data, .data] true :=
  Program.laidByTextLater.sub seatTie1 ["cresset/fp.modulus", "cresset/fp.upper", "cresset/fp.quarter", "cresset/fp.square", "cresset/fr.modulus", "cresset/fr.square"] (by kernel_rfl) (by kernel_rfl)
theorem codecReads1_row_tie : Rows.codecReads1Row.laidByTextAt .later Tryz.pinned [.data, .data, .data, .data, .data, .data] true :=
  OpenClaim.laidByTextAt_later rfl rfl tie noOwnUnsafe
theorem codecReads2_row_tie : Rows.codecReads2Row.laidByTextAt .later Tryz.pinned [.data, .data, .data, .data, .data, .data] true :=
  OpenClaim.laidByTextAt_later rfl rfl tie noOwnUnsafe
theorem tie2 : Tryz.prog.laidByTextLater [("cresset/fp.modulus", Rows.laid_cresset_fp_modulus), ("cresset/fp.upper", Rows.laid_cresset_fp_upper), ("cresset/fp.square", Rows.laid_cresset_fp_square), ("cresset/fr.modulus", Rows.laid_cresset_fr_modulus), ("cresset/fr.square", Rows.laid_cresset_fr_square), ("cresset/fr.shift", Rows.laid_cresset_fr_shift)] [.data, .data, .data, .data, .data, .data] true :=
  Program.laidByTextLater.sub seatTie1 ["cresset/fp.modulus", "cresset/fp.upper", "cresset/fp.square", "cresset/fr.modulus", "cresset/fr.square", "cresset/fr.shift"] (by kernel_rfl) (by kernel_rfl)
theorem codecBack_row_tie : Rows.codecBackRow.laidByTextAt .later Tryz.pinned [.data, .data, .data, .data, .data, .data] true :=
  OpenClaim.laidByTextAt_later rfl rfl tie2 noOwnUnsafe
theorem codecMarks_row_tie : Rows.codecMarksRow.laidByTextAt .later Tryz.pinned [.data, .data, .data, .data, .data, .data] true :=
  OpenClaim.laidByTextAt_later rfl rfl tie2 noOwnUnsafe
theorem tie3 : Tryz.prog.laidByTextLater [("cresset/fp.modulus", Rows.laid_cresset_fp_modulus), ("cresset/fp.upper", Rows.laid_cresset_fp_upper), ("cresset/fp.square", Rows.laid_cresset_fp_square), ("cresset/fr.modulus", Rows.laid_cresset_fr_modulus), ("cresset/fr.square", Rows.laid_cresset_fr_square)] [.data, .data, .data, .data, .data] true :=
  Program.laidByTextLater.sub seatTie1 ["cresset/fp.modulus", "cresset/fp.upper", "cresset/fp.square", "cresset/fr.modulus", "cresset/fr.square"] (by kernel_rfl) (by kernel_rfl)
theorem codecOneForm_row_tie : Rows.codecOneFormRow.laidByTextAt .later Tryz.pinned [.data, .data, .data, .data, .data] true :=
  OpenClaim.laidByTextAt_later rfl rfl tie3 noOwnUnsafe
theorem tie4 : Tryz.prog.laidByTextLater [("cresset/fp.modulus", Rows.laid_cresset_fp_modulus), ("cresset/fp.square", Rows.laid_cresset_fp_square), ("cresset/fr.modulus", Rows.laid_cresset_fr_modulus), ("cresset/fr.square", Rows.laid_cresset_fr_square), ("cresset/fr.shift", Rows.laid_cresset_fr_shift)] [.data, .data, .data, .data, .data] true :=
  Program.laidByTextLater.sub seatTie1 ["cresset/fp.modulus", "cresset/fp.square", "cresset/fr.modulus", "cresset/fr.square", "cresset/fr.shift"] (by kernel_rfl) (by kernel_rfl)
theorem pairScalars_row_tie : Rows.pairScalarsRow.laidByTextAt .later Tryz.pinned [.data, .data, .data, .data, .data] true :=
  OpenClaim.laidByTextAt_later rfl rfl tie4 noOwnUnsafe
theorem pairSums_row_tie : Rows.pairSumsRow.laidByTextAt .later Tryz.pinned [.data, .data, .data, .data, .data] true :=
  OpenClaim.laidByTextAt_later rfl rfl tie4 noOwnUnsafe
theorem pairTells_row_tie : Rows.pairTellsRow.laidByTextAt .later Tryz.pinned [.data, .data, .data, .data, .data] true :=
  OpenClaim.laidByTextAt_later rfl rfl tie4 noOwnUnsafe
theorem pairChecks_row_tie : Rows.pairChecksRow.laidByTextAt .later Tryz.pinned [.data, .data, .data, .data, .data] true :=
  OpenClaim.laidByTextAt_later rfl rfl tie4 noOwnUnsafe
theorem pairMoves_row_tie : Rows.pairMovesRow.laidByTextAt .later Tryz.pinned [.data, .data, .data, .data, .data] true :=
  OpenClaim.laidByTextAt_later rfl rfl tie4 noOwnUnsafe
theorem codecReads1Upto_row_tie : Rows.codecReads1UptoRow.laidByTextAt .later Tryz.pinned [.data, .data, .data, .data, .data, .data] true :=
  OpenClaim.laidByTextAt_later rfl rfl tie noOwnUnsafe
theorem codecReads2Upto_row_tie : Rows.codecReads2UptoRow.laidByTextAt .later Tryz.pinned [.data, .data, .data, .data, .data, .data] true :=
  OpenClaim.laidByTextAt_later rfl rfl tie noOwnUnsafe
theorem codecBackUpto_row_tie : Rows.codecBackUptoRow.laidByTextAt .later Tryz.pinned [.data, .data, .data, .data, .data, .data] true :=
  OpenClaim.laidByTextAt_later rfl rfl tie2 noOwnUnsafe
theorem codecOneFormUpto_row_tie : Rows.codecOneFormUptoRow.laidByTextAt .later Tryz.pinned [.data, .data, .data, .data, .data] true :=
  OpenClaim.laidByTextAt_later rfl rfl tie3 noOwnUnsafe
theorem codecMarksUpto_row_tie : Rows.codecMarksUptoRow.laidByTextAt .later Tryz.pinned [.data, .data, .data, .data, .data, .data] true :=
  OpenClaim.laidByTextAt_later rfl rfl tie2 noOwnUnsafe
theorem pairScalarsUpto_row_tie : Rows.pairScalarsUptoRow.laidByTextAt .later Tryz.pinned [.data, .data, .data, .data, .data] true :=
  OpenClaim.laidByTextAt_later rfl rfl tie4 noOwnUnsafe
theorem pairSumsUpto_row_tie : Rows.pairSumsUptoRow.laidByTextAt .later Tryz.pinned [.data, .data, .data, .data, .data] true :=
  OpenClaim.laidByTextAt_later rfl rfl tie4 noOwnUnsafe
theorem pairTellsUpto_row_tie : Rows.pairTellsUptoRow.laidByTextAt .later Tryz.pinned [.data, .data, .data, .data, .data] true :=
  OpenClaim.laidByTextAt_later rfl rfl tie4 noOwnUnsafe
theorem pairChecksUpto_row_tie : Rows.pairChecksUptoRow.laidByTextAt .later Tryz.pinned [.data, .data, .data, .data, .data] true :=
  OpenClaim.laidByTextAt_later rfl rfl tie4 noOwnUnsafe
theorem pairMovesUpto_row_tie : Rows.pairMovesUptoRow.laidByTextAt .later Tryz.pinned [.data, .data, .data, .data, .data] true :=
  OpenClaim.laidByTextAt_later rfl rfl tie4 noOwnUnsafe
end Go.Proofs.YtifnnckbcjafgabGreatDoor
