/-
  The ways of a nil Hash; Reset.
-/
import Derived.Test.YtialfoccalobpaaDoorWCShOf
namespace Go.Proofs.YtialfoccalobpaaDoor
open Go.RowKit
end Go.Proofs.YtialfoccalobpaaDoor
