/-
  Layer 5's reference by elements of the field: Add, Sub, Mul, Norm, Of, Bytes; the law's number and is.
-/
import Derived.Test.YtialfoccalobpaaDoorWAFn2
namespace Go.Proofs.YtialfoccalobpaaDoor
set_option linter.unusedSimpArgs false
set_option linter.unusedVariables false
open Go.RowKit
theorem Fp.val_lt (x : Fp) : (x.val : Int) < Mp := by
  have := x.isLt
  unfold Mp
  unfold Pn at this
  omega
attribute [local irreducible] wpL wpF fr Code.wp bodyPost
theorem F2.zero_sub (x : F2) : (0 : F2) - x = -x := by apply F2.same <;> simp only [F2.sub_a, F2.sub_b, F2.neg_a, F2.neg_b, F2.zero_a, F2.zero_b] <;> grind
end Go.Proofs.YtialfoccalobpaaDoor
