/-
  R3A, R3B, R3C, R3D, R3E, in one text.
-/
import Derived.Test.YtifnnckbcjafgaaDoorQA0
/-! ## R3A -/
namespace Go.Proofs.YtifnnckbcjafgaaDoor
open Go.RowKit
/-- The number of the first n words. -/
def vg (f : Nat → Int) : Nat → Int
  | 0 => 0
  | n + 1 => vg f n + 65536 ^ n * f n
end Go.Proofs.YtifnnckbcjafgaaDoor

/-! ## R3B -/
namespace Go.Proofs.YtifnnckbcjafgaaDoor
open Go.RowKit
end Go.Proofs.YtifnnckbcjafgaaDoor

/-! ## R3C -/
namespace Go.Proofs.YtifnnckbcjafgaaDoor
open Go.RowKit
end Go.Proofs.YtifnnckbcjafgaaDoor

/-! ## R3D -/
namespace Go.Proofs.YtifnnckbcjafgaaDoor
open Go.RowKit
end Go.Proofs.YtifnnckbcjafgaaDoor

/-! ## R3E -/
namespace Go.Proofs.YtifnnckbcjafgaaDoor
open Go.RowKit
/-- The first m words of a number. -/
def wl (v : Int) : Nat → List Int
  | 0 => []
  | m + 1 => (v % 65536) :: wl (v / 65536) m
theorem wl_len (v : Int) (m : Nat) : (wl v m).length = m := by
  induction m generalizing v with
  | zero => rfl
  | succ m ih => simp [wl, ih]
end Go.Proofs.YtifnnckbcjafgaaDoor
