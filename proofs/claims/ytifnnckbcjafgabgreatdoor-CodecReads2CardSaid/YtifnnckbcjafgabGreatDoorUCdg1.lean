/-
  What reading a point of the first group goes by.
-/
import Derived.Test.YtifnnckbcjafgabGreatDoorUCdc
import Derived.Test.YtifnnckbcjafgabGreatDoorUGq
namespace Go.Proofs.YtifnnckbcjafgabGreatDoor
set_option linter.unusedSimpArgs false
set_option linter.unusedVariables false
open Go.RowKit
def ok1 (l : List Int) : Prop := num l < Mp
instance (l : List Int) : Decidable (ok1 l) := by unfold ok1; infer_instance
def sq1 (x : Fp) : Prop := x.rt * x.rt = x
noncomputable instance (x : Fp) : Decidable (sq1 x) := Classical.propDecidable _
def lg1 (x : Fp) : Bool := decide (Up ≤ (x.val : Int))
theorem lar1 (x : Fp) (w : World) (hG : Glo w) (hU : GUp w) : Rets 26 #[.agg (pc x)] w (.bool (lg1 x)) := v_large x w hG hU
attribute [local irreducible] wpL wpF fr Code.wp bodyPost
theorem lr1_t (x : Fp) (w : World) (hG : Glo w) (hU : GUp w) (h : lg1 x = true) : Rets 26 #[.agg (pc x)] w (.bool true) := by
  have := lar1 x w hG hU
  rwa [h] at this
theorem lr1_f (x : Fp) (w : World) (hG : Glo w) (hU : GUp w) (h : lg1 x = false) : Rets 26 #[.agg (pc x)] w (.bool false) := by
  have := lar1 x w hG hU
  rwa [h] at this
end Go.Proofs.YtifnnckbcjafgabGreatDoor
