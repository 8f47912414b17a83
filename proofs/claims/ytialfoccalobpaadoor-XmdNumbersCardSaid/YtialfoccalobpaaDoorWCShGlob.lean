/-
  From the row's list of variables to the contracts' fact on them; a world for the witness.
-/
import Derived.Test.YtialfoccalobpaaDoorWCA4
import Derived.Test.YtialfoccalobpaaDoorWCShMix
namespace Go.Proofs.YtialfoccalobpaaDoor
open Go.ChangeShapes Go.WideShapes Go.ChangeAt Go.RowKit

theorem gStart : Tryd.prog.globalNamed "cresset/sha.start" = some 0 := by kernel_rfl
theorem gFactors : Tryd.prog.globalNamed "cresset/sha.factors" = some 2 := by kernel_rfl
theorem gStartType : (Tryd.prog.globals[0]?).map (·.type) = some 103 := by kernel_rfl
theorem gFactorsType : (Tryd.prog.globals[2]?).map (·.type) = some 157 := by kernel_rfl
theorem cells46 : Tryd.prog.cellsOf 100 = 1 := by kernel_rfl
theorem cells47 : Tryd.prog.cellsOf 103 = 8 := by kernel_rfl
theorem cells64 : Tryd.prog.cellsOf 157 = 64 := by kernel_rfl

theorem glob_of {W : World} (h : laidMetH Tryd.prog [("cresset/sha.start", Rows.laid_cresset_sha_start), ("cresset/sha.factors", Rows.laid_cresset_sha_factors)] W) : Glob W := by
  have h' : laidMet Tryd.prog (("cresset/sha.start", Lib.tabData .u32 [1779033703, 3144134277, 1013904242, 2773480762, 1359893119, 2600822924, 528734635, 1541459225]) :: ("cresset/sha.factors", Lib.tabData .u32 factorsL) :: []) W := h
  have t1 := Lib.tabIs_of_head gStart gStartType Tryd.underlying103 Tryd.underlying100 cells46 cells47 h'
  have t2 := Lib.tabIs_of_head (rest := []) gFactors gFactorsType Tryd.underlying157 Tryd.underlying100 cells46 cells64 (laidMet_tail h')
  refine ⟨fun j v hv => ?_, fun j hj => ?_⟩
  · have hj : j < 8 := by
      rcases Nat.lt_or_ge j 8 with h8 | h8
      · exact h8
      · rw [Array.getElem?_eq_none (by simpa [S8.cells] using h8)] at hv; cases hv
    have hc := t1.cell gStart j hj
    rw [Nat.zero_add, hc, ← hv]
    match j, hj with
    | 0, _ | 1, _ | 2, _ | 3, _ | 4, _ | 5, _ | 6, _ | 7, _ => rfl
  · exact t2.cell gFactors j hj
def layStart : Obj → Obj
  | .cells _ t frozen => .cells startS.cells.toArray t frozen
  | o => o
def layFactors : Obj → Obj
  | .cells _ t frozen => .cells (factorsL.map (Value.int .u32)).toArray t frozen
  | o => o
end Go.Proofs.YtialfoccalobpaaDoor
