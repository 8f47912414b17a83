/-
  fr: the contracts of Neg, Zero, below; == of two numbers.
-/
import Derived.Test.YtclfmdaafpachaaDoorFrD
import Derived.Test.YtclfmdaafpachaaDoorEqn
namespace Go.Proofs.YtclfmdaafpachaaDoor
open Go.RowKit
theorem und26 : Tryd.prog.underlying 26 = some (.array 4 23) := by kernel_rfl
theorem und23 : Tryd.prog.underlying 23 = some (.int .u64) := by kernel_rfl
theorem size23 (w : World) : (sizeOf 23).run Tryd.prog w = .ok 1 w := by kernel_rfl
theorem arr4_eq (x y : Int) (hx0 : 0 ≤ x) (hx : x < Wd ^ 4) (hy0 : 0 ≤ y) (hy : y < Wd ^ 4) (w : World) :
    (Op.equalIn 9999 26 (arr4 x) (arr4 y)).run Tryd.prog w = .ok (decide (x = y)) w := by
  refine run_equalIn_arr 9997 w _ _ 4 .u64 _ _ und26 und23 size23 (fun i hi => ?_) _ ?_
  · match i, hi with
    | 0, _ | 1, _ | 2, _ | 3, _ => exact ⟨_, _, rfl, rfl⟩
  · rw [decide_eq_true_iff]
    constructor
    · rintro rfl i _; rfl
    · intro h
      have h0 := h 0 (by omega)
      have h1 := h 1 (by omega)
      have h2 := h 2 (by omega)
      have h3 := h 3 (by omega)
      simp at h0 h1 h2 h3
      rw [nu4 x hx0 hx, nu4 y hy0 hy, h0, h1, h2, h3]
theorem arr4_zero : arr4 0 = .agg #[.int .u64 0, .int .u64 0, .int .u64 0, .int .u64 0] := rfl
set_option maxRecDepth 100000 in
set_option maxHeartbeats 2000000 in
theorem fr_neg0 (x : Int) (w : World) (hG : GMr w) (hx0 : 0 ≤ x) (hx : x < Mr) :
    Calls Tryd.prog 43 #[arr4 x] w fun e w' => e = .returned (arr4 ((0 - x) % Mr)) ∧ Below w.heap.size w w' := by
  have HG := Lib.hid hG
  clear hG
  have HM := Mr_lo
  obtain ⟨y, hy⟩ : ∃ y, y = (0 - x) % Mr := ⟨_, rfl⟩
  rw [← hy]
  have HY := Lib.hid hy
  clear hy
  conv => arg 3; unfold arr4
  go_enter Tryd.func43, Tryd.ntmps43
  go_wp2_with fail
  rw [← arr4_zero]
  refine (fr_sub0 0 x _ (HG.out.keep (by repeat (first | exact Below.refl _ _ | refine Below.drew ?_ | refine Below.alloc ?_ (by simp; try omega) _))) (by omega) (by omega) hx0 hx).mono ?_
  rintro e w1 ⟨rfl, hB⟩
  obtain ⟨f0, f1, f2, f3, z0, z1, z2, z3, hg⟩ := res4 (t := 28) (c0 := .int .u64 0) (c1 := .int .u64 0) (c2 := .int .u64 0) (c3 := .int .u64 0) (bump1 w _ _ _) hB
  have hW : Below w.heap.size w w1 := Below.trans (by repeat (first | exact Below.refl _ _ | refine Below.drew ?_ | refine Below.alloc ?_ (by simp; try omega) _)) (hB.mono (by simp; try omega))
  have HW := Lib.hid hW
  clear hB hW
  rw [← HY.out]
  unfold arr4
  go_wp2_with fail
  refine bodyPost_ret (v := arr4 y) (by simp [arr4, results, Tryd.results43, go_sem, f0, f1, f2, f3]) rfl ⟨rfl, ?_⟩
  repeat (first | exact HW.out | refine Below.drew ?_ | refine Below.alloc ?_ (by first | assumption | (simp; done) | (simp; omega)) _ | refine Below.setCell ?_ (by simp; try omega) _)
set_option maxRecDepth 100000 in
set_option maxHeartbeats 2000000 in
theorem fr_zero0 (x : Int) (w : World) (hx0 : 0 ≤ x) (hx : x < Wd ^ 4) :
    Calls Tryd.prog 29 #[arr4 x] w fun e w' => e = .returned (.bool (decide (x = 0))) ∧ Below w.heap.size w w' := by
  have hq := fun w => arr4_eq x 0 hx0 hx (by omega) (by simp [Wd]) w
  rw [arr4_zero] at hq
  unfold arr4 at hq ⊢
  obtain ⟨b, hb⟩ : ∃ b, b = decide (x = 0) := ⟨_, rfl⟩
  rw [← hb] at hq ⊢
  clear hb
  cases b
  all_goals
    go_enter Tryd.func29, Tryd.ntmps29
    go_wp2_with fail
    go_ret
    refine ⟨rfl, ?_⟩
    repeat (first | exact Below.refl _ _ | refine Below.drew ?_ | refine Below.alloc ?_ (by simp; try omega) _)
set_option maxRecDepth 100000 in
set_option maxHeartbeats 2000000 in
theorem fr_below_lt (x y : Int) (w : World) (hx0 : 0 ≤ x) (hy0 : 0 ≤ y) (hy : y < Wd ^ 4) (h : x < y) :
    Calls Tryd.prog 113 #[arr4 x, arr4 y] w fun e w' => e = .returned (.bool true) ∧ Below w.heap.size w w' := by
  have HY := Lib.hid hy
  clear hy
  conv => arg 3; unfold arr4
  go_enter Tryd.func113, Tryd.ntmps113
  go_wp2_with fail
  refine (fr_minus_lt x y _ hx0 hy0 HY.out h).mono ?_
  rintro e w1 ⟨rfl, hB⟩
  have hW : Below w.heap.size w w1 := Below.trans (by repeat (first | exact Below.refl _ _ | refine Below.drew ?_ | refine Below.alloc ?_ (by simp; try omega) _)) (hB.mono (by simp; try omega))
  have hsz := hW.size
  have HW := Lib.hid hW
  clear hB hW
  unfold arr4
  go_wp2_with fail
  go_ret
  refine ⟨rfl, ?_⟩
  repeat (first | exact HW.out | refine Below.drew ?_ | refine Below.alloc ?_ (by first | assumption | (simp; done) | (simp; omega)) _ | refine Below.setCell ?_ (by simp; try omega) _)
set_option maxRecDepth 100000 in
set_option maxHeartbeats 2000000 in
theorem fr_below_ge (x y : Int) (w : World) (hx0 : 0 ≤ x) (hx : x < Wd ^ 4) (hy0 : 0 ≤ y) (h : y ≤ x) :
    Calls Tryd.prog 113 #[arr4 x, arr4 y] w fun e w' => e = .returned (.bool false) ∧ Below w.heap.size w w' := by
  have HX := Lib.hid hx
  clear hx
  conv => arg 3; unfold arr4
  go_enter Tryd.func113, Tryd.ntmps113
  go_wp2_with fail
  refine (fr_minus_ge x y _ hx0 HX.out hy0 h).mono ?_
  rintro e w1 ⟨rfl, hB⟩
  have hW : Below w.heap.size w w1 := Below.trans (by repeat (first | exact Below.refl _ _ | refine Below.drew ?_ | refine Below.alloc ?_ (by simp; try omega) _)) (hB.mono (by simp; try omega))
  have hsz := hW.size
  have HW := Lib.hid hW
  clear hB hW
  unfold arr4
  go_wp2_with fail
  go_ret
  refine ⟨rfl, ?_⟩
  repeat (first | exact HW.out | refine Below.drew ?_ | refine Below.alloc ?_ (by first | assumption | (simp; done) | (simp; omega)) _ | refine Below.setCell ?_ (by simp; try omega) _)
end Go.Proofs.YtclfmdaafpachaaDoor
