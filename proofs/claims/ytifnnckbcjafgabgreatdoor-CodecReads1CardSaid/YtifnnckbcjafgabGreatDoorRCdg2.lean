/-
  What reading a point of the second group goes by.
-/
import Derived.Test.YtifnnckbcjafgabGreatDoorRCdc
import Derived.Test.YtifnnckbcjafgabGreatDoorRCdp1
namespace Go.Proofs.YtifnnckbcjafgabGreatDoor
set_option linter.unusedSimpArgs false
set_option linter.unusedVariables false
open Go.RowKit
def ok2 (l : List Int) : Prop := num (l.take 48) < Mp ∧ num (l.drop 48) < Mp
instance (l : List Int) : Decidable (ok2 l) := by unfold ok2; infer_instance
def sq2 (x : F2) : Prop := x.sq
noncomputable instance (x : F2) : Decidable (sq2 x) := Classical.propDecidable _
def lg2 (x : F2) : Bool := x.large
theorem lar2 (x : F2) (w : World) (hG : Glo w) (hU : GUp w) : Rets 36 #[.agg (c2 x)] w (.bool (lg2 x)) := q_large x w hG hU
attribute [local irreducible] wpL wpF fr Code.wp bodyPost
theorem lr2_t (x : F2) (w : World) (hG : Glo w) (hU : GUp w) (h : lg2 x = true) : Rets 36 #[.agg (c2 x)] w (.bool true) := by
  have := lar2 x w hG hU
  rwa [h] at this
theorem lr2_f (x : F2) (w : World) (hG : Glo w) (hU : GUp w) (h : lg2 x = false) : Rets 36 #[.agg (c2 x)] w (.bool false) := by
  have := lar2 x w hG hU
  rwa [h] at this
end Go.Proofs.YtifnnckbcjafgabGreatDoor
