/-
  The reference's keyed digest and keys: the walks.
-/
import Derived.Test.YtialfoccalobpaaDoorWCShSumR
namespace Go.Proofs.YtialfoccalobpaaDoor
set_option linter.unusedSimpArgs false
set_option linter.unusedVariables false
open Go.RowKit
attribute [local irreducible] wpL wpF fr Code.wp bodyPost
end Go.Proofs.YtialfoccalobpaaDoor
