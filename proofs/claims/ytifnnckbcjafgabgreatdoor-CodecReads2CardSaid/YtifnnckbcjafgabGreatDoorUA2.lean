/-
  R3A, R3B, R3C, R3D, R3E, in one text.
-/
import Derived.Test.YtifnnckbcjafgabGreatDoorUA0
/-! ## R3A -/
namespace Go.Proofs.YtifnnckbcjafgabGreatDoor
open Go.RowKit
/-- The number of the first n words. -/
def vg (f : Nat → Int) : Nat → Int
  | 0 => 0
  | n + 1 => vg f n + 65536 ^ n * f n
end Go.Proofs.YtifnnckbcjafgabGreatDoor

/-! ## R3B -/
namespace Go.Proofs.YtifnnckbcjafgabGreatDoor
open Go.RowKit
end Go.Proofs.YtifnnckbcjafgabGreatDoor

/-! ## R3C -/
namespace Go.Proofs.YtifnnckbcjafgabGreatDoor
open Go.RowKit
end Go.Proofs.YtifnnckbcjafgabGreatDoor

/-! ## R3D -/
namespace Go.Proofs.YtifnnckbcjafgabGreatDoor
open Go.RowKit
end Go.Proofs.YtifnnckbcjafgabGreatDoor

/-! ## R3E -/
namespace Go.Proofs.YtifnnckbcjafgabGreatDoor
open Go.RowKit
end Go.Proofs.YtifnnckbcjafgabGreatDoor
