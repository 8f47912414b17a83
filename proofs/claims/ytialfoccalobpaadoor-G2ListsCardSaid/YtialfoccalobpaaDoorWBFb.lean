/-
  The statements of fp2: equality decided, long, the head.
-/
import Derived.Test.YtialfoccalobpaaDoorWBFm
namespace Go.Proofs.YtialfoccalobpaaDoor
set_option linter.unusedSimpArgs false
set_option linter.unusedVariables false
open Go.RowKit
theorem eq_2_t {x y : F2} {d : Nat} (w : World) (h : x = y) : (Op.equalIn (d + 1 + 1 + 1 + 1) 37 (.agg (c2 x)) (.agg (c2 y))).run Tryd.prog w = .ok true w := by rw [eq_2, decide_eq_true h]
theorem eq_2_f {x y : F2} {d : Nat} (w : World) (h : x ≠ y) : (Op.equalIn (d + 1 + 1 + 1 + 1) 37 (.agg (c2 x)) (.agg (c2 y))).run Tryd.prog w = .ok false w := by rw [eq_2, decide_eq_false h]
section
variable {P : Program} {S : World → Prop}
end
attribute [local irreducible] wpL wpF fr Code.wp bodyPost
-- HEAD
end Go.Proofs.YtialfoccalobpaaDoor
