/-
  fp2: the contracts.
-/
import Derived.Test.YtialfoccalobpaaDoorWAFlowE
namespace Go.Proofs.YtialfoccalobpaaDoor
set_option linter.unusedSimpArgs false
set_option linter.unusedVariables false
open Go.RowKit
attribute [local irreducible] wpL wpF fr Code.wp bodyPost
/-- x times a number of the field beneath. -/
def F2.scale (x : F2) (k : Fp) : F2 := ⟨x.a * k, x.b * k⟩
/-- 1/x; of 0 it is 0. -/
def F2.inv (x : F2) : F2 := x.conj.scale x.norm.inv
/-- Small numbers. -/
def F2.sm (a b : Int) : F2 := ⟨Fp.n a, Fp.n b⟩
end Go.Proofs.YtialfoccalobpaaDoor
