/-
  Contracts of masked and keyBlock.
-/
import Derived.Test.YtialfoccalobpaaDoorWCShHead
import Derived.Test.YtialfoccalobpaaDoorWCA0
namespace Go.Proofs.YtialfoccalobpaaDoor
open Go.RowKit
section
variable {P : Program}
end
end Go.Proofs.YtialfoccalobpaaDoor
