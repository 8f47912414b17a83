/-
  The fields: inverses, squares and roots, norms.
-/
import Derived.Test.YtialfoccalobpaaDoorWDFa
namespace Go.Proofs.YtialfoccalobpaaDoor
set_option linter.unusedSimpArgs false
set_option linter.unusedVariables false
open Go.RowKit
theorem Fp.mul_cancel {x y z : Fp} (hx : x ≠ 0) (h : x * y = x * z) : y = z := by
  have h1 : x * (y - z) = 0 := by grind
  rcases Fp.prime h1 with h2 | h2
  · exact absurd h2 hx
  · grind
end Go.Proofs.YtialfoccalobpaaDoor
