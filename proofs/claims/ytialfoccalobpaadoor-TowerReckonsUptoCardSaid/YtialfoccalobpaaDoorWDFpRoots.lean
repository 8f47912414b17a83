/-
  The reference's powers, roots and signs; FpRoots: the walk.
-/
import Derived.Test.YtialfoccalobpaaDoorWDR3Z
namespace Go.Proofs.YtialfoccalobpaaDoor
set_option linter.unusedSimpArgs false
set_option linter.unusedVariables false
open Go.RowKit
/-! ### Half -/
/-! ### Power -/
theorem pow_three (r : Nat) (q : Int) : (0 < r ∧ q % 2 = 1) ∨ (0 < r ∧ q % 2 = 0) ∨ r = 0 := by omega
theorem one_num {w : World} {g : Nat} (hB : Blk w g 100 #[.int .u32 1]) : NumAt w (some ⟨g, 0, none⟩) 1 1 :=
  (show WB #[.int .u32 1] 1 1 1 from ⟨rfl, by omega, by omega, rfl⟩).num hB ⟨by omega, by simp⟩ (by omega)
section
variable {P : Program} {fn : Func} {E : Ending → World → Prop} {n : Nat} {sl : List (Nat × Value)} {w : World}
end
section
variable {P : Program} {S : World → Prop}
end
/-! ### Roots as numbers -/
attribute [local irreducible] wpL wpF fr Code.wp bodyPost
end Go.Proofs.YtialfoccalobpaaDoor
