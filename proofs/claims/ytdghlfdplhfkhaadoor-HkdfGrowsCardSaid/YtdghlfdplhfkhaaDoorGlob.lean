/-
  From the row's list of variables to the contracts' fact on them; a world for the witness.
-/
import Derived.Test.YtdghlfdplhfkhaaDoorCards
import Derived.Test.YtdghlfdplhfkhaaDoorTie
import Derived.Test.YtdghlfdplhfkhaaDoorMix
import Derived.ProofKit
import Derived.OpenShut
import Derived.Deep.DeepHandedRow
import Derived.Lib.LaidTab
namespace Go.Proofs.YtdghlfdplhfkhaaDoor
open Go.ChangeShapes Go.WideShapes Go.ChangeAt Go.RowKit

theorem own : ownKnob Tryd.prog.godebug = none := by kernel_rfl
theorem laidOut : laidOutB Tryd.prog = true := by kernel_rfl
theorem gStart : Tryd.prog.globalNamed "cresset/sha.start" = some 0 := by kernel_rfl
theorem gFactors : Tryd.prog.globalNamed "cresset/sha.factors" = some 1 := by kernel_rfl
theorem gStartType : (Tryd.prog.globals[0]?).map (·.type) = some 47 := by kernel_rfl
theorem gFactorsType : (Tryd.prog.globals[1]?).map (·.type) = some 64 := by kernel_rfl
theorem cells46 : Tryd.prog.cellsOf 46 = 1 := by kernel_rfl
theorem cells47 : Tryd.prog.cellsOf 47 = 8 := by kernel_rfl
theorem cells64 : Tryd.prog.cellsOf 64 = 64 := by kernel_rfl

theorem laidMet_tail {P : Program} {x : String × DataW Unit} {rest : List (String × DataW Unit)} {w : World} (h : laidMet P (x :: rest) w) : laidMet P rest w := by
  obtain ⟨ps, ⟨g, t, cs, fuel, p, q, _, _, _, _, hq, rfl⟩, hn, hc⟩ := h
  exact ⟨q, hq, (List.nodup_append.1 hn).2.1, fun b off hp => hc b off (List.mem_append_right _ hp)⟩

theorem glob_of {W : World} (h : laidMetH Tryd.prog [("cresset/sha.start", Rows.laid_cresset_sha_start), ("cresset/sha.factors", Rows.laid_cresset_sha_factors)] W) : Glob W := by
  have h' : laidMet Tryd.prog (("cresset/sha.start", Lib.tabData .u32 [1779033703, 3144134277, 1013904242, 2773480762, 1359893119, 2600822924, 528734635, 1541459225]) :: ("cresset/sha.factors", Lib.tabData .u32 factorsL) :: []) W := h
  have t1 := Lib.tabIs_of_head gStart gStartType Tryd.underlying47 Tryd.underlying46 cells46 cells47 h'
  have t2 := Lib.tabIs_of_head (rest := []) gFactors gFactorsType Tryd.underlying64 Tryd.underlying46 cells46 cells64 (laidMet_tail h')
  refine ⟨fun j v hv => ?_, fun j hj => ?_⟩
  · have hj : j < 8 := by
      rcases Nat.lt_or_ge j 8 with h8 | h8
      · exact h8
      · rw [Array.getElem?_eq_none (by simpa [S8.cells] using h8)] at hv; cases hv
    have hc := t1.cell gStart j hj
    rw [Nat.zero_add, hc, ← hv]
    match j, hj with
    | 0, _ | 1, _ | 2, _ | 3, _ | 4, _ | 5, _ | 6, _ | 7, _ => rfl
  · exact t2.cell gFactors j hj
end Go.Proofs.YtdghlfdplhfkhaaDoor
