/-
  The statements of fp2: equality decided, long, the head.
-/
import Derived.Test.YtialfoccalobpaaDoorWDFm
namespace Go.Proofs.YtialfoccalobpaaDoor
set_option linter.unusedSimpArgs false
set_option linter.unusedVariables false
open Go.RowKit
section
variable {P : Program} {S : World → Prop}
end
attribute [local irreducible] wpL wpF fr Code.wp bodyPost
-- HEAD
end Go.Proofs.YtialfoccalobpaaDoor
