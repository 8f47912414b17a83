/-
  The contract of the first head: one digest that the document fixes.
-/
import Derived.Test.YtialfoccalobpaaDoorWCShOf
namespace Go.Proofs.YtialfoccalobpaaDoor
open Go.RowKit
end Go.Proofs.YtialfoccalobpaaDoor
