/-
  fp: the contracts of Neg, Zero, below.
-/
import Derived.Test.YtclfmdaafpachaaDoorFpD
import Derived.Test.YtclfmdaafpachaaDoorEqn
namespace Go.Proofs.YtclfmdaafpachaaDoor
open Go.RowKit
set_option maxRecDepth 100000 in
set_option maxHeartbeats 2000000 in
theorem fp_neg0 (x : Int) (w : World) (hx0 : 0 ≤ x) (hx : x < Mp) :
    Calls Tryd.prog 56 #[arr6 x] w fun e w' => e = .returned (arr6 ((0 - x) % Mp)) ∧ Below w.heap.size w w' := by
  have HM := Mp_lo
  obtain ⟨y, hy⟩ : ∃ y, y = (0 - x) % Mp := ⟨_, rfl⟩
  rw [← hy]
  have HY := Lib.hid hy
  clear hy
  conv => arg 3; unfold arr6
  go_enter Tryd.func56, Tryd.ntmps56
  go_wp2_with fail
  rw [← arr6_zero]
  refine (fp_sub0 0 x _ (by omega) (by omega) hx0 hx).mono ?_
  rintro e w1 ⟨rfl, hB⟩
  obtain ⟨f0, f1, f2, f3, f4, f5, z0, z1, z2, z3, z4, z5, hg⟩ := res6 (t := 52) (c0 := .int .u64 0) (c1 := .int .u64 0) (c2 := .int .u64 0) (c3 := .int .u64 0) (c4 := .int .u64 0) (c5 := .int .u64 0) (bump1 w _ _ _) hB
  have hW : Below w.heap.size w w1 := Below.trans (by repeat (first | (with_reducible exact Below.refl _ _) | (with_reducible refine Below.drew ?_) | (with_reducible refine Below.alloc ?_ (by simp; try omega) _))) (hB.mono (by simp; try omega))
  have HW := Lib.hid hW
  clear hB hW HM hx0 hx
  rw [← HY.out]
  unfold arr6
  go_wp2_with fail
  refine bodyPost_ret (v := arr6 y) (by simp [arr6, results, Tryd.results56, go_sem, f0, f1, f2, f3, f4, f5]) rfl ⟨rfl, ?_⟩
  repeat (first | (with_reducible exact HW.out) | (with_reducible refine Below.drew ?_) | (with_reducible refine Below.alloc ?_ (by first | assumption | (simp; done) | (simp; omega)) _) | (with_reducible refine Below.setCell ?_ (by simp; try omega) _))
set_option maxRecDepth 100000 in
set_option maxHeartbeats 2000000 in
theorem fp_zero0 (x : Int) (w : World) (hx0 : 0 ≤ x) (hx : x < Wd ^ 6) :
    Calls Tryd.prog 48 #[arr6 x] w fun e w' => e = .returned (.bool (decide (x = 0))) ∧ Below w.heap.size w w' := by
  have hq := fun w => arr6_eq x 0 hx0 hx (by omega) (by simp [Wd]) w
  rw [arr6_zero] at hq
  unfold arr6 at hq ⊢
  obtain ⟨b, hb⟩ : ∃ b, b = decide (x = 0) := ⟨_, rfl⟩
  rw [← hb] at hq ⊢
  clear hb
  cases b
  all_goals
    go_enter Tryd.func48, Tryd.ntmps48
    go_wp2_with fail
    go_ret
    refine ⟨rfl, ?_⟩
    repeat (first | (with_reducible exact Below.refl _ _) | (with_reducible refine Below.drew ?_) | (with_reducible refine Below.alloc ?_ (by simp; try omega) _))
set_option maxRecDepth 100000 in
set_option maxHeartbeats 2000000 in
theorem fp_below_lt (x y : Int) (w : World) (hx0 : 0 ≤ x) (hy0 : 0 ≤ y) (hy : y < Wd ^ 6) (h : x < y) :
    Calls Tryd.prog 125 #[arr6 x, arr6 y] w fun e w' => e = .returned (.bool true) ∧ Below w.heap.size w w' := by
  have HY := Lib.hid hy
  clear hy
  conv => arg 3; unfold arr6
  go_enter Tryd.func125, Tryd.ntmps125
  go_wp2_with fail
  refine (fp_minus_lt x y _ hx0 hy0 HY.out h).mono ?_
  rintro e w1 ⟨rfl, hB⟩
  have hW : Below w.heap.size w w1 := Below.trans (by repeat (first | (with_reducible exact Below.refl _ _) | (with_reducible refine Below.drew ?_) | (with_reducible refine Below.alloc ?_ (by simp; try omega) _))) (hB.mono (by simp; try omega))
  have hsz := hW.size
  have HW := Lib.hid hW
  clear hB hW
  unfold arr6
  go_wp2_with fail
  go_ret
  refine ⟨rfl, ?_⟩
  repeat (first | (with_reducible exact HW.out) | (with_reducible refine Below.drew ?_) | (with_reducible refine Below.alloc ?_ (by first | assumption | (simp; done) | (simp; omega)) _) | (with_reducible refine Below.setCell ?_ (by simp; try omega) _))
set_option maxRecDepth 100000 in
set_option maxHeartbeats 2000000 in
theorem fp_below_ge (x y : Int) (w : World) (hx0 : 0 ≤ x) (hx : x < Wd ^ 6) (hy0 : 0 ≤ y) (h : y ≤ x) :
    Calls Tryd.prog 125 #[arr6 x, arr6 y] w fun e w' => e = .returned (.bool false) ∧ Below w.heap.size w w' := by
  have HX := Lib.hid hx
  clear hx
  conv => arg 3; unfold arr6
  go_enter Tryd.func125, Tryd.ntmps125
  go_wp2_with fail
  refine (fp_minus_ge x y _ hx0 HX.out hy0 h).mono ?_
  rintro e w1 ⟨rfl, hB⟩
  have hW : Below w.heap.size w w1 := Below.trans (by repeat (first | (with_reducible exact Below.refl _ _) | (with_reducible refine Below.drew ?_) | (with_reducible refine Below.alloc ?_ (by simp; try omega) _))) (hB.mono (by simp; try omega))
  have hsz := hW.size
  have HW := Lib.hid hW
  clear hB hW
  unfold arr6
  go_wp2_with fail
  go_ret
  refine ⟨rfl, ?_⟩
  repeat (first | (with_reducible exact HW.out) | (with_reducible refine Below.drew ?_) | (with_reducible refine Below.alloc ?_ (by first | assumption | (simp; done) | (simp; omega)) _) | (with_reducible refine Below.setCell ?_ (by simp; try omega) _))
end Go.Proofs.YtclfmdaafpachaaDoor
