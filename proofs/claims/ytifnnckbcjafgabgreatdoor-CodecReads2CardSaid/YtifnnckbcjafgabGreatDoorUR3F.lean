/-
  Layer 3's numbers; FrWide, FrReckons: the walks.
-/
import Derived.Test.YtifnnckbcjafgabGreatDoorUR3Z
namespace Go.Proofs.YtifnnckbcjafgabGreatDoor
set_option linter.unusedSimpArgs false
set_option linter.unusedVariables false
open Go.RowKit
/-- The cells of an element of the field of the scalars. -/
def frc (x : Int) : Array Value := (fv x).cells
theorem frc_size (x : Int) : (frc x).size = 4 := rfl
theorem hi_fr (x : Int) : (Tryz.prog.info? 60).map (·.size) = some (frc x).size := by rw [frc_size]; kernel_rfl
def b32c (a : Int) : Array Value := ag8 (lo a 32)
theorem b32c_size (a : Int) : (b32c a).size = 32 := by rw [b32c, ag8_size, lo_len]
theorem b32c_one (a : Int) : (b32c a).all (·.oneCell') = true := ag8_one _
theorem hi_b32 (a : Int) : (Tryz.prog.info? 77).map (·.size) = some (b32c a).size := by rw [b32c_size]; kernel_rfl
theorem z_b32 : (Tryz.prog.info? 77).map (·.zero) = some (some (.agg (b32c 0))) := by kernel_rfl
theorem und_b32 : Tryz.prog.underlying 77 = some (.array 32 5) := by kernel_rfl
structure GloR (w : World) : Prop where
  m : GMr w
  s : GSq w
theorem GloR.keep {w w' : World} (h : GloR w) (hb : Below w.heap.size w w') : GloR w' := ⟨h.m.keep hb, h.s.keep hb⟩
theorem u_neg (x : Int) (w : World) (hG : GloR w) : Rets 64 #[.agg (frc x)] w (.agg (frc (-x))) := fr_neg x w hG.m
theorem u_bytes (x : Int) (w : World) (hG : GloR w) : Rets 57 #[.agg (frc x)] w (.agg (b32c (x % Mr))) := fr_bytes x w hG.m
attribute [local irreducible] wpL wpF fr Code.wp bodyPost
end Go.Proofs.YtifnnckbcjafgabGreatDoor
