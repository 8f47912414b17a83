/-
  Sums of points, as the program reckons them: over the field of p.
-/
import Derived.Test.YtialfoccalobpaaDoorWBCt
namespace Go.Proofs.YtialfoccalobpaaDoor
set_option linter.unusedSimpArgs false
set_option linter.unusedVariables false
open Go.RowKit

attribute [local irreducible] wpL wpF fr Code.wp bodyPost
end Go.Proofs.YtialfoccalobpaaDoor
