/-
  fp: the contracts of formed, plain, Square, Of; all by the number of an element.
-/
import Derived.Test.YtclfmdaafpachaaDoorFpM
import Derived.Test.YtclfmdaafpachaaDoorFpE
namespace Go.Proofs.YtclfmdaafpachaaDoor
open Go.RowKit
/-- The element of a number. -/
def pv (x : Int) : Value := arr6 (fe Mp (Wd ^ 6) x)
theorem pe_in (x : Int) : 0 ≤ fe Mp (Wd ^ 6) x ∧ fe Mp (Wd ^ 6) x < Mp := fe_lo Mp_lo.1 x
theorem pv_cast {x y : Int} (h : x % Mp = y % Mp) : pv x = pv y := by unfold pv; rw [(fe_inj Rip_ok).2 h]
structure GSqp (w : World) : Prop where
  c0 : w.cell? ⟨7, 0, none⟩ = some (.int .u64 (wd (fe Mp (Wd ^ 6) (Wd ^ 6)) 0))
  c1 : w.cell? ⟨7, 1, none⟩ = some (.int .u64 (wd (fe Mp (Wd ^ 6) (Wd ^ 6)) 1))
  c2 : w.cell? ⟨7, 2, none⟩ = some (.int .u64 (wd (fe Mp (Wd ^ 6) (Wd ^ 6)) 2))
  c3 : w.cell? ⟨7, 3, none⟩ = some (.int .u64 (wd (fe Mp (Wd ^ 6) (Wd ^ 6)) 3))
  c4 : w.cell? ⟨7, 4, none⟩ = some (.int .u64 (wd (fe Mp (Wd ^ 6) (Wd ^ 6)) 4))
  c5 : w.cell? ⟨7, 5, none⟩ = some (.int .u64 (wd (fe Mp (Wd ^ 6) (Wd ^ 6)) 5))
theorem GSqp.keep {w w' : World} (h : GSqp w) (hb : Below w.heap.size w w') : GSqp w' := by
  have hl := World.block_lt_of_cell? w _ h.c0
  exact ⟨(hb.cell (p := ⟨_, 0, none⟩) hl).trans h.c0, (hb.cell (p := ⟨_, 1, none⟩) hl).trans h.c1, (hb.cell (p := ⟨_, 2, none⟩) hl).trans h.c2, (hb.cell (p := ⟨_, 3, none⟩) hl).trans h.c3, (hb.cell (p := ⟨_, 4, none⟩) hl).trans h.c4, (hb.cell (p := ⟨_, 5, none⟩) hl).trans h.c5⟩
theorem fp_add (x y : Int) (w : World) (_hG : GMp w) : Calls Tryd.prog 52 #[pv x, pv y] w fun e w' => e = .returned (pv (x + y)) ∧ Below w.heap.size w w' := by
  have h := fp_add0 _ _ w (pe_in x).1 (pe_in x).2 (pe_in y).1 (pe_in y).2
  rwa [fe_add] at h
theorem fp_sub (x y : Int) (w : World) (_hG : GMp w) : Calls Tryd.prog 53 #[pv x, pv y] w fun e w' => e = .returned (pv (x - y)) ∧ Below w.heap.size w w' := by
  have h := fp_sub0 _ _ w (pe_in x).1 (pe_in x).2 (pe_in y).1 (pe_in y).2
  rwa [fe_sub] at h
theorem pe_zero : fe Mp (Wd ^ 6) 0 = 0 := by simp [fe]
theorem fp_neg (x : Int) (w : World) (_hG : GMp w) : Calls Tryd.prog 56 #[pv x] w fun e w' => e = .returned (pv (-x)) ∧ Below w.heap.size w w' := by
  have h := fp_neg0 _ w (pe_in x).1 (pe_in x).2
  rw [← pe_zero, fe_sub, Int.zero_sub] at h
  exact h
theorem fp_mul (x y : Int) (w : World) (hG : GMp w) : Calls Tryd.prog 54 #[pv x, pv y] w fun e w' => e = .returned (pv (x * y)) ∧ Below w.heap.size w w' := by
  have hM := Mp_lo
  have h := fp_mul0 _ _ w hG (pe_in x).1 (by have := (pe_in x).2; omega) (pe_in y).1 (pe_in y).2
  rwa [fe_mul Rip_ok] at h
theorem pe_eq_zero (x : Int) : fe Mp (Wd ^ 6) x = 0 ↔ x % Mp = 0 := by
  have h := fe_inj (M := Mp) Rip_ok (x := x) (y := 0)
  rw [pe_zero] at h
  simpa using h
theorem fp_zero (x : Int) (w : World) : Calls Tryd.prog 48 #[pv x] w fun e w' => e = .returned (.bool (decide (x % Mp = 0))) ∧ Below w.heap.size w w' := by
  have hM := Mp_lo
  have h := fp_zero0 _ w (pe_in x).1 (by have := (pe_in x).2; omega)
  rwa [decide_eq_decide.2 (pe_eq_zero x)] at h
theorem pv_eq (x y : Int) (w : World) : (Op.equalIn 9999 50 (pv x) (pv y)).run Tryd.prog w = .ok (decide (x % Mp = y % Mp)) w := by
  have hM := Mp_lo
  unfold pv
  rw [arr6_eq _ _ (pe_in x).1 (by have := (pe_in x).2; omega) (pe_in y).1 (by have := (pe_in y).2; omega)]
  rw [decide_eq_decide.2 (fe_inj Rip_ok)]
theorem arr6_small (n : Int) (h0 : 0 ≤ n) (h : n < Wd) : (.agg #[.int .u64 n, .int .u64 0, .int .u64 0, .int .u64 0, .int .u64 0, .int .u64 0] : Value) = arr6 n :=
  arr6_of n 0 0 0 0 0 n ⟨h0, h⟩ ⟨by omega, wd_pos⟩ ⟨by omega, wd_pos⟩ ⟨by omega, wd_pos⟩ ⟨by omega, wd_pos⟩ ⟨by omega, wd_pos⟩ (by omega)
set_option maxRecDepth 100000 in
set_option maxHeartbeats 2000000 in
theorem fp_formed (a : Int) (w : World) (hG : GMp w) (hS : GSqp w) (ha0 : 0 ≤ a) (ha : a < Wd ^ 6) :
    Calls Tryd.prog 123 #[arr6 a] w fun e w' => e = .returned (pv a) ∧ Below w.heap.size w w' := by
  have HG := Lib.hid hG
  have HA := Lib.hid ha
  have hfin := fe_of (M := Mp) Rip_ok a
  obtain ⟨q, hq⟩ : ∃ q, q = fe Mp (Wd ^ 6) (Wd ^ 6) := ⟨_, rfl⟩
  have q1 : 0 ≤ q ∧ q < Mp := by rw [hq]; exact pe_in _
  rw [← hq] at hfin
  have FN := Lib.hid hfin
  obtain ⟨g0, g1, g2, g3, g4, g5⟩ := hS
  have g9 := World.block_lt_of_cell? w _ g0
  rw [← hq] at g0 g1 g2 g3 g4 g5
  clear hq hfin hG ha
  unfold pv
  obtain ⟨z, hz⟩ : ∃ z, z = fe Mp (Wd ^ 6) a := ⟨_, rfl⟩
  rw [← hz]
  have HZ := Lib.hid hz
  clear hz
  conv => arg 3; unfold arr6
  go_enter Tryd.func123, Tryd.ntmps123
  go_wp2_with fail
  refine (fp_mul0 a q _ (HG.out.keep (by repeat (first | (with_reducible exact Below.refl _ _) | (with_reducible refine Below.drew ?_) | (with_reducible refine Below.alloc ?_ (by simp; try omega) _)))) ha0 HA.out q1.1 q1.2).mono ?_
  rintro e w1 ⟨rfl, hB⟩
  rw [FN.out, ← HZ.out]
  obtain ⟨f0, f1, f2, f3, f4, f5, z0, z1, z2, z3, z4, z5, hg⟩ := res6 (t := 52) (c0 := .int .u64 0) (c1 := .int .u64 0) (c2 := .int .u64 0) (c3 := .int .u64 0) (c4 := .int .u64 0) (c5 := .int .u64 0) (bump1 w _ _ _) hB
  have hW : Below w.heap.size w w1 := Below.trans (by repeat (first | (with_reducible exact Below.refl _ _) | (with_reducible refine Below.drew ?_) | (with_reducible refine Below.alloc ?_ (by simp; try omega) _))) (hB.mono (by simp; try omega))
  have HW := Lib.hid hW
  clear hB hW
  unfold arr6
  go_wp2_with fail
  refine bodyPost_ret (v := arr6 z) (by simp [arr6, results, Tryd.results123, go_sem, f0, f1, f2, f3, f4, f5]) rfl ⟨rfl, ?_⟩
  repeat (first | (with_reducible exact HW.out) | (with_reducible refine Below.drew ?_) | (with_reducible refine Below.alloc ?_ (by first | assumption | (simp; done) | (simp; omega)) _) | (with_reducible refine Below.setCell ?_ (by simp; try omega) _))
set_option maxRecDepth 100000 in
set_option maxHeartbeats 2000000 in
theorem fp_plain (x : Int) (w : World) (hG : GMp w) :
    Calls Tryd.prog 132 #[pv x] w fun e w' => e = .returned (arr6 (x % Mp)) ∧ Below w.heap.size w w' := by
  have hM := Mp_lo
  have HG := Lib.hid hG
  have hfin := fe_plain (M := Mp) Rip_ok x
  obtain ⟨z, hz⟩ : ∃ z, z = x % Mp := ⟨_, rfl⟩
  rw [← hz] at hfin ⊢
  unfold pv
  have hin := pe_in x
  obtain ⟨q, hq⟩ : ∃ q, q = fe Mp (Wd ^ 6) x := ⟨_, rfl⟩
  rw [← hq] at hfin hin ⊢
  have HA := Lib.hid (show q < Wd ^ 6 by omega)
  have FN := Lib.hid hfin
  have H1 := Lib.hid (show (1 : Int) < Mp by simp [Mp])
  clear hG hz hq hfin hM
  have hfd : ∀ (a b c d m l : Int) (u : World), (Instr.field 52 (.agg #[.int .u64 a, .int .u64 b, .int .u64 c, .int .u64 d, .int .u64 m, .int .u64 l]) 0).run Tryd.prog u = .ok (.agg #[.int .u64 a, .int .u64 b, .int .u64 c, .int .u64 d, .int .u64 m, .int .u64 l]) u := fun _ _ _ _ _ _ _ => by kernel_rfl
  conv => arg 3; unfold arr6
  go_enter Tryd.func132, Tryd.ntmps132
  go_wp2_with fail
  rw [arr6_small 1 (by omega) (by simp [Wd])]
  refine (fp_mul0 q 1 _ (HG.out.keep (by repeat (first | (with_reducible exact Below.refl _ _) | (with_reducible refine Below.drew ?_) | (with_reducible refine Below.alloc ?_ (by simp; try omega) _)))) hin.1 HA.out (by omega) H1.out).mono ?_
  rintro e w1 ⟨rfl, hB⟩
  rw [Int.mul_one, FN.out]
  obtain ⟨f0, f1, f2, f3, f4, f5, z0, z1, z2, z3, z4, z5, hg⟩ := res6 (t := 50) (c0 := .int .u64 0) (c1 := .int .u64 0) (c2 := .int .u64 0) (c3 := .int .u64 0) (c4 := .int .u64 0) (c5 := .int .u64 0) (bump1 w _ _ _) hB
  have hW : Below w.heap.size w w1 := Below.trans (by repeat (first | (with_reducible exact Below.refl _ _) | (with_reducible refine Below.drew ?_) | (with_reducible refine Below.alloc ?_ (by simp; try omega) _))) (hB.mono (by simp; try omega))
  have HW := Lib.hid hW
  clear hB hW
  unfold arr6
  go_wp2_with fail
  refine bodyPost_ret (v := arr6 z) (by simp [arr6, results, Tryd.results132, go_sem, f0, f1, f2, f3, f4, f5]) rfl ⟨rfl, ?_⟩
  repeat (first | (with_reducible exact HW.out) | (with_reducible refine Below.drew ?_) | (with_reducible refine Below.alloc ?_ (by first | assumption | (simp; done) | (simp; omega)) _) | (with_reducible refine Below.setCell ?_ (by simp; try omega) _))
set_option maxRecDepth 100000 in
set_option maxHeartbeats 2000000 in
theorem fp_square (x : Int) (w : World) (hG : GMp w) :
    Calls Tryd.prog 55 #[pv x] w fun e w' => e = .returned (pv (x * x)) ∧ Below w.heap.size w w' := by
  have HG := Lib.hid hG
  clear hG
  have hc := fp_mul x x
  have HC := Lib.hid hc
  obtain ⟨z, hz⟩ : ∃ z, z = pv (x * x) := ⟨_, rfl⟩
  rw [← hz]
  have HZ := Lib.hid hz
  clear hz hc
  conv => arg 3; unfold pv arr6
  go_enter Tryd.func55, Tryd.ntmps55
  go_wp2_with fail
  refine (HC.out _ (HG.out.keep (by repeat (first | (with_reducible exact Below.refl _ _) | (with_reducible refine Below.drew ?_) | (with_reducible refine Below.alloc ?_ (by simp; try omega) _))))).mono ?_
  rintro e w1 ⟨rfl, hB⟩
  obtain ⟨f0, f1, f2, f3, f4, f5, z0, z1, z2, z3, z4, z5, hg⟩ := res6 (t := 52) (c0 := .int .u64 0) (c1 := .int .u64 0) (c2 := .int .u64 0) (c3 := .int .u64 0) (c4 := .int .u64 0) (c5 := .int .u64 0) (bump1 w _ _ _) hB
  have hW : Below w.heap.size w w1 := Below.trans (by repeat (first | (with_reducible exact Below.refl _ _) | (with_reducible refine Below.drew ?_) | (with_reducible refine Below.alloc ?_ (by simp; try omega) _))) (hB.mono (by simp; try omega))
  have HW := Lib.hid hW
  clear hB hW
  unfold pv arr6
  go_wp2_with fail
  refine bodyPost_ret (v := pv (x * x)) (by simp [pv, arr6, results, Tryd.results55, go_sem, f0, f1, f2, f3, f4, f5]) rfl ⟨by rw [HZ.out], ?_⟩
  repeat (first | (with_reducible exact HW.out) | (with_reducible refine Below.drew ?_) | (with_reducible refine Below.alloc ?_ (by first | assumption | (simp; done) | (simp; omega)) _) | (with_reducible refine Below.setCell ?_ (by simp; try omega) _))
set_option maxRecDepth 100000 in
set_option maxHeartbeats 2000000 in
theorem fp_of (n : Int) (w : World) (hG : GMp w) (hS : GSqp w) (h0 : 0 ≤ n) (hn : n < Wd) :
    Calls Tryd.prog 46 #[.int .u64 n] w fun e w' => e = .returned (pv n) ∧ Below w.heap.size w w' := by
  have HG := Lib.hid hG
  have HS := Lib.hid hS
  have HN := Lib.hid hn
  have HN6 := Lib.hid (show n < Wd ^ 6 by unfold Wd at *; omega)
  obtain ⟨z, hz⟩ : ∃ z, z = pv n := ⟨_, rfl⟩
  rw [← hz]
  have HZ := Lib.hid hz
  clear hG hS hn hz
  go_enter Tryd.func46, Tryd.ntmps46
  go_wp2_with fail
  rw [arr6_small n h0 HN.out]
  refine (fp_formed n _ (HG.out.keep (by repeat (first | (with_reducible exact Below.refl _ _) | (with_reducible refine Below.drew ?_) | (with_reducible refine Below.alloc ?_ (by simp; try omega) _)))) (HS.out.keep (by repeat (first | (with_reducible exact Below.refl _ _) | (with_reducible refine Below.drew ?_) | (with_reducible refine Below.alloc ?_ (by simp; try omega) _)))) h0 HN6.out).mono ?_
  rintro e w1 ⟨rfl, hB⟩
  obtain ⟨f0, f1, f2, f3, f4, f5, z0, z1, z2, z3, z4, z5, hg⟩ := res6 (t := 52) (c0 := .int .u64 0) (c1 := .int .u64 0) (c2 := .int .u64 0) (c3 := .int .u64 0) (c4 := .int .u64 0) (c5 := .int .u64 0) (Blk.new w _ _) hB
  have hW : Below w.heap.size w w1 := Below.trans (by repeat (first | (with_reducible exact Below.refl _ _) | (with_reducible refine Below.drew ?_) | (with_reducible refine Below.alloc ?_ (by simp; try omega) _))) (hB.mono (by simp; try omega))
  have HW := Lib.hid hW
  clear hB hW
  unfold pv arr6
  go_wp2_with fail
  refine bodyPost_ret (v := pv n) (by simp [pv, arr6, results, Tryd.results46, go_sem, f0, f1, f2, f3, f4, f5]) rfl ⟨by rw [HZ.out], ?_⟩
  repeat (first | (with_reducible exact HW.out) | (with_reducible refine Below.drew ?_) | (with_reducible refine Below.alloc ?_ (by first | assumption | (simp; done) | (simp; omega)) _) | (with_reducible refine Below.setCell ?_ (by simp; try omega) _))
end Go.Proofs.YtclfmdaafpachaaDoor
