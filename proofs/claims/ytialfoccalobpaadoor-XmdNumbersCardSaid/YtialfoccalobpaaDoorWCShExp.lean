/-
  The contract of Expand.
-/
import Derived.Test.YtialfoccalobpaaDoorWCShMac
import Derived.Deep.Cut
namespace Go.Proofs.YtialfoccalobpaaDoor
open Go.RowKit
end Go.Proofs.YtialfoccalobpaaDoor
