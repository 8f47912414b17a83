/-
  Reading a point of the second group.
-/
import Derived.Test.YtifnnckbcjafgabGreatDoorRCdg2
namespace Go.Proofs.YtifnnckbcjafgabGreatDoor
set_option linter.unusedSimpArgs false
set_option linter.unusedVariables false
open Go.RowKit
attribute [local irreducible] wpL wpF fr Code.wp bodyPost

end Go.Proofs.YtifnnckbcjafgabGreatDoor
