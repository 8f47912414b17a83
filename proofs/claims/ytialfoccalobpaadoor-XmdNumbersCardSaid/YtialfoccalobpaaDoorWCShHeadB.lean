/-
  The contract of the second head: one keyed digest that the document fixes.
-/
import Derived.Test.YtialfoccalobpaaDoorWCShMac
namespace Go.Proofs.YtialfoccalobpaaDoor
open Go.RowKit
end Go.Proofs.YtialfoccalobpaaDoor
