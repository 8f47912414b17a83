/-
  fr: the contracts of formed, plain, Square, Of; all by the number of an element.
-/
import Derived.Test.YtclfmdaafpachaaDoorFrM
namespace Go.Proofs.YtclfmdaafpachaaDoor
open Go.RowKit
/-- The element of a number. -/
def fv (x : Int) : Value := arr4 (fe Mr (Wd ^ 4) x)
theorem fe_in (x : Int) : 0 ≤ fe Mr (Wd ^ 4) x ∧ fe Mr (Wd ^ 4) x < Mr := fe_lo Mr_lo.1 x
theorem fv_cast {x y : Int} (h : x % Mr = y % Mr) : fv x = fv y := by unfold fv; rw [(fe_inj Rir_ok).2 h]
structure GSq (w : World) : Prop where
  c0 : w.cell? ⟨6, 0, none⟩ = some (.int .u64 (wd (fe Mr (Wd ^ 4) (Wd ^ 4)) 0))
  c1 : w.cell? ⟨6, 1, none⟩ = some (.int .u64 (wd (fe Mr (Wd ^ 4) (Wd ^ 4)) 1))
  c2 : w.cell? ⟨6, 2, none⟩ = some (.int .u64 (wd (fe Mr (Wd ^ 4) (Wd ^ 4)) 2))
  c3 : w.cell? ⟨6, 3, none⟩ = some (.int .u64 (wd (fe Mr (Wd ^ 4) (Wd ^ 4)) 3))
theorem GSq.keep {w w' : World} (h : GSq w) (hb : Below w.heap.size w w') : GSq w' := by
  have hl := World.block_lt_of_cell? w _ h.c0
  exact ⟨(hb.cell (p := ⟨_, _, none⟩) hl).trans h.c0, (hb.cell (p := ⟨_, 1, none⟩) hl).trans h.c1, (hb.cell (p := ⟨_, 2, none⟩) hl).trans h.c2, (hb.cell (p := ⟨_, 3, none⟩) hl).trans h.c3⟩
theorem fr_add (x y : Int) (w : World) (hG : GMr w) : Calls Tryd.prog 36 #[fv x, fv y] w fun e w' => e = .returned (fv (x + y)) ∧ Below w.heap.size w w' := by
  have h := fr_add0 _ _ w hG (fe_in x).1 (fe_in x).2 (fe_in y).1 (fe_in y).2
  rwa [fe_add] at h
theorem fr_sub (x y : Int) (w : World) (hG : GMr w) : Calls Tryd.prog 38 #[fv x, fv y] w fun e w' => e = .returned (fv (x - y)) ∧ Below w.heap.size w w' := by
  have h := fr_sub0 _ _ w hG (fe_in x).1 (fe_in x).2 (fe_in y).1 (fe_in y).2
  rwa [fe_sub] at h
theorem fe_zero : fe Mr (Wd ^ 4) 0 = 0 := by simp [fe]
theorem fr_neg (x : Int) (w : World) (hG : GMr w) : Calls Tryd.prog 43 #[fv x] w fun e w' => e = .returned (fv (-x)) ∧ Below w.heap.size w w' := by
  have h := fr_neg0 _ w hG (fe_in x).1 (fe_in x).2
  rw [← fe_zero, fe_sub, Int.zero_sub] at h
  exact h
theorem fr_mul (x y : Int) (w : World) (hG : GMr w) : Calls Tryd.prog 40 #[fv x, fv y] w fun e w' => e = .returned (fv (x * y)) ∧ Below w.heap.size w w' := by
  have hM := Mr_lo
  have h := fr_mul0 _ _ w hG (fe_in x).1 (by have := (fe_in x).2; omega) (fe_in y).1 (fe_in y).2
  rwa [fe_mul Rir_ok] at h
theorem fe_eq_zero (x : Int) : fe Mr (Wd ^ 4) x = 0 ↔ x % Mr = 0 := by
  have h := fe_inj (M := Mr) Rir_ok (x := x) (y := 0)
  rw [fe_zero] at h
  simpa using h
theorem fr_zero (x : Int) (w : World) : Calls Tryd.prog 29 #[fv x] w fun e w' => e = .returned (.bool (decide (x % Mr = 0))) ∧ Below w.heap.size w w' := by
  have hM := Mr_lo
  have h := fr_zero0 _ w (fe_in x).1 (by have := (fe_in x).2; omega)
  rwa [decide_eq_decide.2 (fe_eq_zero x)] at h
theorem fv_eq (x y : Int) (w : World) : (Op.equalIn 9999 26 (fv x) (fv y)).run Tryd.prog w = .ok (decide (x % Mr = y % Mr)) w := by
  have hM := Mr_lo
  unfold fv
  rw [arr4_eq _ _ (fe_in x).1 (by have := (fe_in x).2; omega) (fe_in y).1 (by have := (fe_in y).2; omega)]
  rw [decide_eq_decide.2 (fe_inj Rir_ok)]
theorem arr4_small (n : Int) (h0 : 0 ≤ n) (h : n < Wd) : (.agg #[.int .u64 n, .int .u64 0, .int .u64 0, .int .u64 0] : Value) = arr4 n :=
  arr4_of n 0 0 0 n ⟨h0, h⟩ ⟨by omega, wd_pos⟩ ⟨by omega, wd_pos⟩ ⟨by omega, wd_pos⟩ (by omega)
set_option maxRecDepth 100000 in
set_option maxHeartbeats 2000000 in
theorem fr_formed (a : Int) (w : World) (hG : GMr w) (hS : GSq w) (ha0 : 0 ≤ a) (ha : a < Wd ^ 4) :
    Calls Tryd.prog 111 #[arr4 a] w fun e w' => e = .returned (fv a) ∧ Below w.heap.size w w' := by
  have HG := Lib.hid hG
  have HA := Lib.hid ha
  have hfin := fe_of (M := Mr) Rir_ok a
  obtain ⟨q, hq⟩ : ∃ q, q = fe Mr (Wd ^ 4) (Wd ^ 4) := ⟨_, rfl⟩
  have q1 : 0 ≤ q ∧ q < Mr := by rw [hq]; exact fe_in _
  rw [← hq] at hfin
  have FN := Lib.hid hfin
  obtain ⟨g0, g1, g2, g3⟩ := hS
  have g9 := World.block_lt_of_cell? w _ g0
  rw [← hq] at g0 g1 g2 g3
  clear hq hfin hG ha
  unfold fv
  obtain ⟨z, hz⟩ : ∃ z, z = fe Mr (Wd ^ 4) a := ⟨_, rfl⟩
  rw [← hz]
  have HZ := Lib.hid hz
  clear hz
  conv => arg 3; unfold arr4
  go_enter Tryd.func111, Tryd.ntmps111
  go_wp2_with fail
  refine (fr_mul0 a q _ (HG.out.keep (by repeat (first | exact Below.refl _ _ | refine Below.drew ?_ | refine Below.alloc ?_ (by simp; try omega) _))) ha0 HA.out q1.1 q1.2).mono ?_
  rintro e w1 ⟨rfl, hB⟩
  rw [FN.out, ← HZ.out]
  obtain ⟨f0, f1, f2, f3, z0, z1, z2, z3, hg⟩ := res4 (t := 28) (c0 := .int .u64 0) (c1 := .int .u64 0) (c2 := .int .u64 0) (c3 := .int .u64 0) (bump1 w _ _ _) hB
  have hW : Below w.heap.size w w1 := Below.trans (by repeat (first | exact Below.refl _ _ | refine Below.drew ?_ | refine Below.alloc ?_ (by simp; try omega) _)) (hB.mono (by simp; try omega))
  have HW := Lib.hid hW
  clear hB hW
  unfold arr4
  go_wp2_with fail
  refine bodyPost_ret (v := arr4 z) (by simp [arr4, results, Tryd.results111, go_sem, f0, f1, f2, f3]) rfl ⟨rfl, ?_⟩
  repeat (first | exact HW.out | refine Below.drew ?_ | refine Below.alloc ?_ (by simp; omega) _ | refine Below.setCell ?_ (by simp; try omega) _)
set_option maxRecDepth 100000 in
set_option maxHeartbeats 2000000 in
theorem fr_plain (x : Int) (w : World) (hG : GMr w) :
    Calls Tryd.prog 142 #[fv x] w fun e w' => e = .returned (arr4 (x % Mr)) ∧ Below w.heap.size w w' := by
  have hM := Mr_lo
  have HG := Lib.hid hG
  have hfin := fe_plain (M := Mr) Rir_ok x
  obtain ⟨z, hz⟩ : ∃ z, z = x % Mr := ⟨_, rfl⟩
  rw [← hz] at hfin ⊢
  unfold fv
  have hin := fe_in x
  obtain ⟨q, hq⟩ : ∃ q, q = fe Mr (Wd ^ 4) x := ⟨_, rfl⟩
  rw [← hq] at hfin hin ⊢
  have HA := Lib.hid (show q < Wd ^ 4 by omega)
  have FN := Lib.hid hfin
  have H1 := Lib.hid (show (1 : Int) < Mr by simp [Mr])
  clear hG hz hq hfin hM
  have hfd : ∀ (a b c d : Int) (u : World), (Instr.field 28 (.agg #[.int .u64 a, .int .u64 b, .int .u64 c, .int .u64 d]) 0).run Tryd.prog u = .ok (.agg #[.int .u64 a, .int .u64 b, .int .u64 c, .int .u64 d]) u := fun _ _ _ _ _ => by kernel_rfl
  conv => arg 3; unfold arr4
  go_enter Tryd.func142, Tryd.ntmps142
  go_wp2_with fail
  rw [arr4_small 1 (by omega) (by simp [Wd])]
  refine (fr_mul0 q 1 _ (HG.out.keep (by repeat (first | exact Below.refl _ _ | refine Below.drew ?_ | refine Below.alloc ?_ (by simp; try omega) _))) hin.1 HA.out (by omega) H1.out).mono ?_
  rintro e w1 ⟨rfl, hB⟩
  rw [Int.mul_one, FN.out]
  obtain ⟨f0, f1, f2, f3, z0, z1, z2, z3, hg⟩ := res4 (t := 26) (c0 := .int .u64 0) (c1 := .int .u64 0) (c2 := .int .u64 0) (c3 := .int .u64 0) (bump1 w _ _ _) hB
  have hW : Below w.heap.size w w1 := Below.trans (by repeat (first | exact Below.refl _ _ | refine Below.drew ?_ | refine Below.alloc ?_ (by simp; try omega) _)) (hB.mono (by simp; try omega))
  have HW := Lib.hid hW
  clear hB hW
  unfold arr4
  go_wp2_with fail
  refine bodyPost_ret (v := arr4 z) (by simp [arr4, results, Tryd.results142, go_sem, f0, f1, f2, f3]) rfl ⟨rfl, ?_⟩
  repeat (first | exact HW.out | refine Below.drew ?_ | refine Below.alloc ?_ (by simp; omega) _ | refine Below.setCell ?_ (by simp; try omega) _)
set_option maxRecDepth 100000 in
set_option maxHeartbeats 2000000 in
theorem fr_square (x : Int) (w : World) (hG : GMr w) :
    Calls Tryd.prog 42 #[fv x] w fun e w' => e = .returned (fv (x * x)) ∧ Below w.heap.size w w' := by
  have HG := Lib.hid hG
  clear hG
  have hc := fr_mul x x
  have HC := Lib.hid hc
  obtain ⟨z, hz⟩ : ∃ z, z = fv (x * x) := ⟨_, rfl⟩
  rw [← hz]
  have HZ := Lib.hid hz
  clear hz hc
  conv => arg 3; unfold fv arr4
  go_enter Tryd.func42, Tryd.ntmps42
  go_wp2_with fail
  refine (HC.out _ (HG.out.keep (by repeat (first | exact Below.refl _ _ | refine Below.drew ?_ | refine Below.alloc ?_ (by simp; try omega) _)))).mono ?_
  rintro e w1 ⟨rfl, hB⟩
  obtain ⟨f0, f1, f2, f3, z0, z1, z2, z3, hg⟩ := res4 (t := 28) (c0 := .int .u64 0) (c1 := .int .u64 0) (c2 := .int .u64 0) (c3 := .int .u64 0) (bump1 w _ _ _) hB
  have hW : Below w.heap.size w w1 := Below.trans (by repeat (first | exact Below.refl _ _ | refine Below.drew ?_ | refine Below.alloc ?_ (by simp; try omega) _)) (hB.mono (by simp; try omega))
  have HW := Lib.hid hW
  clear hB hW
  unfold fv arr4
  go_wp2_with fail
  refine bodyPost_ret (v := fv (x * x)) (by simp [fv, arr4, results, Tryd.results42, go_sem, f0, f1, f2, f3]) rfl ⟨by rw [HZ.out], ?_⟩
  repeat (first | exact HW.out | refine Below.drew ?_ | refine Below.alloc ?_ (by simp; omega) _ | refine Below.setCell ?_ (by simp; try omega) _)
set_option maxRecDepth 100000 in
set_option maxHeartbeats 2000000 in
theorem fr_of (n : Int) (w : World) (hG : GMr w) (hS : GSq w) (h0 : 0 ≤ n) (hn : n < Wd) :
    Calls Tryd.prog 24 #[.int .u64 n] w fun e w' => e = .returned (fv n) ∧ Below w.heap.size w w' := by
  have HG := Lib.hid hG
  have HS := Lib.hid hS
  have HN := Lib.hid hn
  have HN4 := Lib.hid (show n < Wd ^ 4 by unfold Wd at *; omega)
  obtain ⟨z, hz⟩ : ∃ z, z = fv n := ⟨_, rfl⟩
  rw [← hz]
  have HZ := Lib.hid hz
  clear hG hS hn hz
  go_enter Tryd.func24, Tryd.ntmps24
  go_wp2_with fail
  rw [arr4_small n h0 HN.out]
  refine (fr_formed n _ (HG.out.keep (by repeat (first | exact Below.refl _ _ | refine Below.drew ?_ | refine Below.alloc ?_ (by simp; try omega) _))) (HS.out.keep (by repeat (first | exact Below.refl _ _ | refine Below.drew ?_ | refine Below.alloc ?_ (by simp; try omega) _))) h0 HN4.out).mono ?_
  rintro e w1 ⟨rfl, hB⟩
  obtain ⟨f0, f1, f2, f3, z0, z1, z2, z3, hg⟩ := res4 (t := 28) (c0 := .int .u64 0) (c1 := .int .u64 0) (c2 := .int .u64 0) (c3 := .int .u64 0) (Blk.new w _ _) hB
  have hW : Below w.heap.size w w1 := Below.trans (by repeat (first | exact Below.refl _ _ | refine Below.drew ?_ | refine Below.alloc ?_ (by simp; try omega) _)) (hB.mono (by simp; try omega))
  have HW := Lib.hid hW
  clear hB hW
  unfold fv arr4
  go_wp2_with fail
  refine bodyPost_ret (v := fv n) (by simp [fv, arr4, results, Tryd.results24, go_sem, f0, f1, f2, f3]) rfl ⟨by rw [HZ.out], ?_⟩
  repeat (first | exact HW.out | refine Below.drew ?_ | refine Below.alloc ?_ (by simp; omega) _ | refine Below.setCell ?_ (by simp; try omega) _)
end Go.Proofs.YtclfmdaafpachaaDoor
