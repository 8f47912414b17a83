/-
  fp: the contracts of Add, Sub, Neg, Zero, below.
-/
import Derived.Test.YtclfmdaafpachaaDoorFpB
namespace Go.Proofs.YtclfmdaafpachaaDoor
open Go.RowKit
theorem Mp_words : Mp = 13402431016077863595 + Wd * (2210141511517208575 + Wd * (7435674573564081700 + Wd * (7239337960414712511 + Wd * (5412103778470702295 + Wd * (1873798617647539866))))) := by decide +kernel
set_option maxRecDepth 100000 in
set_option maxHeartbeats 4000000 in
theorem fp_add1 (x y : Int) (w : World) (hx0 : 0 ≤ x) (hx : x < Mp) (hy0 : 0 ≤ y) (hy : y < Mp) (hge : Mp ≤ x + y) :
    Calls Tryd.prog 52 #[arr6 x, arr6 y] w fun e w' => e = .returned (arr6 ((x + y) % Mp)) ∧ Below w.heap.size w w' := by
  have hM := Mp_lo
  have hMw := Mp_words
  have ex := nu6 x hx0 (by omega)
  have ey := nu6 y hy0 (by omega)
  obtain ⟨s0, k0, C0, E0, p0a, p0b, p0c, p0d⟩ := addc_ex (wd x 0) (wd y 0) 0 (wd_lo x 0).1 (wd_lo x 0).2 (wd_lo y 0).1 (wd_lo y 0).2 (by omega) (by omega)
  obtain ⟨s1, k1, C1, E1, p1a, p1b, p1c, p1d⟩ := addc_ex (wd x 1) (wd y 1) k0 (wd_lo x 1).1 (wd_lo x 1).2 (wd_lo y 1).1 (wd_lo y 1).2 p0c p0d
  obtain ⟨s2, k2, C2, E2, p2a, p2b, p2c, p2d⟩ := addc_ex (wd x 2) (wd y 2) k1 (wd_lo x 2).1 (wd_lo x 2).2 (wd_lo y 2).1 (wd_lo y 2).2 p1c p1d
  obtain ⟨s3, k3, C3, E3, p3a, p3b, p3c, p3d⟩ := addc_ex (wd x 3) (wd y 3) k2 (wd_lo x 3).1 (wd_lo x 3).2 (wd_lo y 3).1 (wd_lo y 3).2 p2c p2d
  obtain ⟨s4, k4, C4, E4, p4a, p4b, p4c, p4d⟩ := addc_ex (wd x 4) (wd y 4) k3 (wd_lo x 4).1 (wd_lo x 4).2 (wd_lo y 4).1 (wd_lo y 4).2 p3c p3d
  obtain ⟨s5, k5, C5, E5, p5a, p5b, p5c, p5d⟩ := addc_ex (wd x 5) (wd y 5) k4 (wd_lo x 5).1 (wd_lo x 5).2 (wd_lo y 5).1 (wd_lo y 5).2 p4c p4d
  obtain ⟨d0, b0, D0, F0, q0a, q0b, q0c, q0d⟩ := subc_ex s0 13402431016077863595 0 p0a p0b (by omega) (by simp [Wd]) (by omega) (by omega)
  obtain ⟨d1, b1, D1, F1, q1a, q1b, q1c, q1d⟩ := subc_ex s1 2210141511517208575 b0 p1a p1b (by omega) (by simp [Wd]) q0c q0d
  obtain ⟨d2, b2, D2, F2, q2a, q2b, q2c, q2d⟩ := subc_ex s2 7435674573564081700 b1 p2a p2b (by omega) (by simp [Wd]) q1c q1d
  obtain ⟨d3, b3, D3, F3, q3a, q3b, q3c, q3d⟩ := subc_ex s3 7239337960414712511 b2 p3a p3b (by omega) (by simp [Wd]) q2c q2d
  obtain ⟨d4, b4, D4, F4, q4a, q4b, q4c, q4d⟩ := subc_ex s4 5412103778470702295 b3 p4a p4b (by omega) (by simp [Wd]) q3c q3d
  obtain ⟨d5, b5, D5, F5, q5a, q5b, q5c, q5d⟩ := subc_ex s5 1873798617647539866 b4 p5a p5b (by omega) (by simp [Wd]) q4c q4d
  have e := add6 _ _ _ _ _ _ _ _ _ _ _ _ _ _ _ _ _ _ _ _ _ _ _ _ 0 E0.out E1.out E2.out E3.out E4.out E5.out
  rw [← ex, ← ey, Int.add_zero] at e
  have hk : k5 = 0 := by
    rcases (by omega : k5 = 0 ∨ k5 = 1) with h | h
    · exact h
    · subst h
      unfold Wd at *
      omega
  have f := sub6 _ _ _ _ _ _ _ _ _ _ _ _ _ _ _ _ _ _ _ _ _ _ _ _ F0.out F1.out F2.out F3.out F4.out F5.out
  rw [← hMw] at f
  have hs : s0 + Wd * (s1 + Wd * (s2 + Wd * (s3 + Wd * (s4 + Wd * (s5))))) = x + y := by subst hk; omega
  rw [hs] at f
  have hb : b5 = 0 := by
    unfold Wd at *
    omega
  have hfin : (.agg #[.int .u64 d0, .int .u64 d1, .int .u64 d2, .int .u64 d3, .int .u64 d4, .int .u64 d5] : Value) = arr6 ((x + y) % Mp) := by
    refine arr6_of d0 d1 d2 d3 d4 d5 _ ⟨q0a, q0b⟩ ⟨q1a, q1b⟩ ⟨q2a, q2b⟩ ⟨q3a, q3b⟩ ⟨q4a, q4b⟩ ⟨q5a, q5b⟩ ?_
    subst hb
    have : (x + y) % Mp = x + y - Mp := by
      rw [← Int.sub_emod_right]
      exact Int.emod_eq_of_lt (by omega) (by omega)
    omega
  have FIN := Lib.hid hfin
  obtain ⟨Z, hZ⟩ : ∃ Z, Z = arr6 ((x + y) % Mp) := ⟨_, rfl⟩
  rw [← hZ] at FIN ⊢
  subst hb
  clear hZ hfin hs f e hk hM hMw ex ey hx0 hx hy0 hy hge p0a p0b p0c p0d q0a q0b q0c q0d E0 F0 p1a p1b p1c p1d q1a q1b q1c q1d E1 F1 p2a p2b p2c p2d q2a q2b q2c q2d E2 F2 p3a p3b p3c p3d q3a q3b q3c q3d E3 F3 p4a p4b p4c p4d q4a q4b q4c q4d E4 F4 p5a p5b p5c p5d q5a q5b q5c q5d E5 F5
  conv => arg 3; unfold arr6
  go_enter Tryd.func52, Tryd.ntmps52
  go_wp2_with (first | rw [C0.out] | rw [C1.out] | rw [C2.out] | rw [C3.out] | rw [C4.out] | rw [C5.out] | rw [D0.out] | rw [D1.out] | rw [D2.out] | rw [D3.out] | rw [D4.out] | rw [D5.out])
  refine bodyPost_ret (v := .agg #[.int .u64 d0, .int .u64 d1, .int .u64 d2, .int .u64 d3, .int .u64 d4, .int .u64 d5]) (by simp [results, Tryd.results52, go_sem]) rfl ⟨by rw [FIN.out], ?_⟩
  repeat (first | (with_reducible exact Below.refl _ _) | (with_reducible refine Below.drew ?_) | (with_reducible refine Below.alloc ?_ (by simp; try omega) _))
set_option maxRecDepth 100000 in
set_option maxHeartbeats 4000000 in
theorem fp_add2 (x y : Int) (w : World) (hx0 : 0 ≤ x) (hx : x < Mp) (hy0 : 0 ≤ y) (hy : y < Mp) (hlt : x + y < Mp) :
    Calls Tryd.prog 52 #[arr6 x, arr6 y] w fun e w' => e = .returned (arr6 ((x + y) % Mp)) ∧ Below w.heap.size w w' := by
  have hM := Mp_lo
  have hMw := Mp_words
  have ex := nu6 x hx0 (by omega)
  have ey := nu6 y hy0 (by omega)
  obtain ⟨s0, k0, C0, E0, p0a, p0b, p0c, p0d⟩ := addc_ex (wd x 0) (wd y 0) 0 (wd_lo x 0).1 (wd_lo x 0).2 (wd_lo y 0).1 (wd_lo y 0).2 (by omega) (by omega)
  obtain ⟨s1, k1, C1, E1, p1a, p1b, p1c, p1d⟩ := addc_ex (wd x 1) (wd y 1) k0 (wd_lo x 1).1 (wd_lo x 1).2 (wd_lo y 1).1 (wd_lo y 1).2 p0c p0d
  obtain ⟨s2, k2, C2, E2, p2a, p2b, p2c, p2d⟩ := addc_ex (wd x 2) (wd y 2) k1 (wd_lo x 2).1 (wd_lo x 2).2 (wd_lo y 2).1 (wd_lo y 2).2 p1c p1d
  obtain ⟨s3, k3, C3, E3, p3a, p3b, p3c, p3d⟩ := addc_ex (wd x 3) (wd y 3) k2 (wd_lo x 3).1 (wd_lo x 3).2 (wd_lo y 3).1 (wd_lo y 3).2 p2c p2d
  obtain ⟨s4, k4, C4, E4, p4a, p4b, p4c, p4d⟩ := addc_ex (wd x 4) (wd y 4) k3 (wd_lo x 4).1 (wd_lo x 4).2 (wd_lo y 4).1 (wd_lo y 4).2 p3c p3d
  obtain ⟨s5, k5, C5, E5, p5a, p5b, p5c, p5d⟩ := addc_ex (wd x 5) (wd y 5) k4 (wd_lo x 5).1 (wd_lo x 5).2 (wd_lo y 5).1 (wd_lo y 5).2 p4c p4d
  obtain ⟨d0, b0, D0, F0, q0a, q0b, q0c, q0d⟩ := subc_ex s0 13402431016077863595 0 p0a p0b (by omega) (by simp [Wd]) (by omega) (by omega)
  obtain ⟨d1, b1, D1, F1, q1a, q1b, q1c, q1d⟩ := subc_ex s1 2210141511517208575 b0 p1a p1b (by omega) (by simp [Wd]) q0c q0d
  obtain ⟨d2, b2, D2, F2, q2a, q2b, q2c, q2d⟩ := subc_ex s2 7435674573564081700 b1 p2a p2b (by omega) (by simp [Wd]) q1c q1d
  obtain ⟨d3, b3, D3, F3, q3a, q3b, q3c, q3d⟩ := subc_ex s3 7239337960414712511 b2 p3a p3b (by omega) (by simp [Wd]) q2c q2d
  obtain ⟨d4, b4, D4, F4, q4a, q4b, q4c, q4d⟩ := subc_ex s4 5412103778470702295 b3 p4a p4b (by omega) (by simp [Wd]) q3c q3d
  obtain ⟨d5, b5, D5, F5, q5a, q5b, q5c, q5d⟩ := subc_ex s5 1873798617647539866 b4 p5a p5b (by omega) (by simp [Wd]) q4c q4d
  have e := add6 _ _ _ _ _ _ _ _ _ _ _ _ _ _ _ _ _ _ _ _ _ _ _ _ 0 E0.out E1.out E2.out E3.out E4.out E5.out
  rw [← ex, ← ey, Int.add_zero] at e
  have hk : k5 = 0 := by
    rcases (by omega : k5 = 0 ∨ k5 = 1) with h | h
    · exact h
    · subst h
      unfold Wd at *
      omega
  have f := sub6 _ _ _ _ _ _ _ _ _ _ _ _ _ _ _ _ _ _ _ _ _ _ _ _ F0.out F1.out F2.out F3.out F4.out F5.out
  rw [← hMw] at f
  have hs : s0 + Wd * (s1 + Wd * (s2 + Wd * (s3 + Wd * (s4 + Wd * (s5))))) = x + y := by subst hk; omega
  rw [hs] at f
  have hb : b5 = 1 := by
    unfold Wd at *
    omega
  have hfin : (.agg #[.int .u64 s0, .int .u64 s1, .int .u64 s2, .int .u64 s3, .int .u64 s4, .int .u64 s5] : Value) = arr6 ((x + y) % Mp) := by
    refine arr6_of s0 s1 s2 s3 s4 s5 _ ⟨p0a, p0b⟩ ⟨p1a, p1b⟩ ⟨p2a, p2b⟩ ⟨p3a, p3b⟩ ⟨p4a, p4b⟩ ⟨p5a, p5b⟩ ?_
    rw [hs, Int.emod_eq_of_lt (by omega) hlt]
  have FIN := Lib.hid hfin
  obtain ⟨Z, hZ⟩ : ∃ Z, Z = arr6 ((x + y) % Mp) := ⟨_, rfl⟩
  rw [← hZ] at FIN ⊢
  subst hb
  clear hZ hfin hs f e hk hM hMw ex ey hx0 hx hy0 hy hlt p0a p0b p0c p0d q0a q0b q0c q0d E0 F0 p1a p1b p1c p1d q1a q1b q1c q1d E1 F1 p2a p2b p2c p2d q2a q2b q2c q2d E2 F2 p3a p3b p3c p3d q3a q3b q3c q3d E3 F3 p4a p4b p4c p4d q4a q4b q4c q4d E4 F4 p5a p5b p5c p5d q5a q5b q5c q5d E5 F5
  conv => arg 3; unfold arr6
  go_enter Tryd.func52, Tryd.ntmps52
  go_wp2_with (first | rw [C0.out] | rw [C1.out] | rw [C2.out] | rw [C3.out] | rw [C4.out] | rw [C5.out] | rw [D0.out] | rw [D1.out] | rw [D2.out] | rw [D3.out] | rw [D4.out] | rw [D5.out])
  refine bodyPost_ret (v := .agg #[.int .u64 s0, .int .u64 s1, .int .u64 s2, .int .u64 s3, .int .u64 s4, .int .u64 s5]) (by simp [results, Tryd.results52, go_sem]) rfl ⟨by rw [FIN.out], ?_⟩
  repeat (first | (with_reducible exact Below.refl _ _) | (with_reducible refine Below.drew ?_) | (with_reducible refine Below.alloc ?_ (by simp; try omega) _))
set_option maxRecDepth 100000 in
set_option maxHeartbeats 4000000 in
theorem fp_sub1 (x y : Int) (w : World) (hx0 : 0 ≤ x) (hx : x < Mp) (hy0 : 0 ≤ y) (hge : y ≤ x) :
    Calls Tryd.prog 53 #[arr6 x, arr6 y] w fun e w' => e = .returned (arr6 (x - y)) ∧ Below w.heap.size w w' := by
  have hM := Mp_lo
  have ex := nu6 x hx0 (by omega)
  have ey := nu6 y hy0 (by omega)
  obtain ⟨d0, b0, D0, F0, q0a, q0b, q0c, q0d⟩ := subc_ex (wd x 0) (wd y 0) 0 (wd_lo x 0).1 (wd_lo x 0).2 (wd_lo y 0).1 (wd_lo y 0).2 (by omega) (by omega)
  obtain ⟨d1, b1, D1, F1, q1a, q1b, q1c, q1d⟩ := subc_ex (wd x 1) (wd y 1) b0 (wd_lo x 1).1 (wd_lo x 1).2 (wd_lo y 1).1 (wd_lo y 1).2 q0c q0d
  obtain ⟨d2, b2, D2, F2, q2a, q2b, q2c, q2d⟩ := subc_ex (wd x 2) (wd y 2) b1 (wd_lo x 2).1 (wd_lo x 2).2 (wd_lo y 2).1 (wd_lo y 2).2 q1c q1d
  obtain ⟨d3, b3, D3, F3, q3a, q3b, q3c, q3d⟩ := subc_ex (wd x 3) (wd y 3) b2 (wd_lo x 3).1 (wd_lo x 3).2 (wd_lo y 3).1 (wd_lo y 3).2 q2c q2d
  obtain ⟨d4, b4, D4, F4, q4a, q4b, q4c, q4d⟩ := subc_ex (wd x 4) (wd y 4) b3 (wd_lo x 4).1 (wd_lo x 4).2 (wd_lo y 4).1 (wd_lo y 4).2 q3c q3d
  obtain ⟨d5, b5, D5, F5, q5a, q5b, q5c, q5d⟩ := subc_ex (wd x 5) (wd y 5) b4 (wd_lo x 5).1 (wd_lo x 5).2 (wd_lo y 5).1 (wd_lo y 5).2 q4c q4d
  have f := sub6 _ _ _ _ _ _ _ _ _ _ _ _ _ _ _ _ _ _ _ _ _ _ _ _ F0.out F1.out F2.out F3.out F4.out F5.out
  rw [← ex, ← ey] at f
  have hb : b5 = 0 := by
    unfold Wd at *
    omega
  have hfin : (.agg #[.int .u64 d0, .int .u64 d1, .int .u64 d2, .int .u64 d3, .int .u64 d4, .int .u64 d5] : Value) = arr6 (x - y) := by
    refine arr6_of d0 d1 d2 d3 d4 d5 _ ⟨q0a, q0b⟩ ⟨q1a, q1b⟩ ⟨q2a, q2b⟩ ⟨q3a, q3b⟩ ⟨q4a, q4b⟩ ⟨q5a, q5b⟩ ?_
    subst hb
    omega
  have FIN := Lib.hid hfin
  obtain ⟨Z, hZ⟩ : ∃ Z, Z = arr6 (x - y) := ⟨_, rfl⟩
  rw [← hZ] at FIN ⊢
  subst hb
  clear hZ hfin f hM ex ey hx0 hx hy0 hge q0a q0b q0c q0d F0 q1a q1b q1c q1d F1 q2a q2b q2c q2d F2 q3a q3b q3c q3d F3 q4a q4b q4c q4d F4 q5a q5b q5c q5d F5
  conv => arg 3; unfold arr6
  go_enter Tryd.func53, Tryd.ntmps53
  go_wp2_with (first | rw [D0.out] | rw [D1.out] | rw [D2.out] | rw [D3.out] | rw [D4.out] | rw [D5.out])
  refine bodyPost_ret (v := .agg #[.int .u64 d0, .int .u64 d1, .int .u64 d2, .int .u64 d3, .int .u64 d4, .int .u64 d5]) (by simp [results, Tryd.results53, go_sem]) rfl ⟨by rw [FIN.out], ?_⟩
  repeat (first | (with_reducible exact Below.refl _ _) | (with_reducible refine Below.drew ?_) | (with_reducible refine Below.alloc ?_ (by simp; try omega) _))
set_option maxRecDepth 100000 in
set_option maxHeartbeats 4000000 in
theorem fp_sub2 (x y : Int) (w : World) (hx0 : 0 ≤ x) (hy0 : 0 ≤ y) (hy : y < Mp) (hlt : x < y) :
    Calls Tryd.prog 53 #[arr6 x, arr6 y] w fun e w' => e = .returned (arr6 (x - y + Mp)) ∧ Below w.heap.size w w' := by
  have hM := Mp_lo
  have hMw := Mp_words
  have ex := nu6 x hx0 (by omega)
  have ey := nu6 y hy0 (by omega)
  obtain ⟨d0, b0, D0, F0, q0a, q0b, q0c, q0d⟩ := subc_ex (wd x 0) (wd y 0) 0 (wd_lo x 0).1 (wd_lo x 0).2 (wd_lo y 0).1 (wd_lo y 0).2 (by omega) (by omega)
  obtain ⟨d1, b1, D1, F1, q1a, q1b, q1c, q1d⟩ := subc_ex (wd x 1) (wd y 1) b0 (wd_lo x 1).1 (wd_lo x 1).2 (wd_lo y 1).1 (wd_lo y 1).2 q0c q0d
  obtain ⟨d2, b2, D2, F2, q2a, q2b, q2c, q2d⟩ := subc_ex (wd x 2) (wd y 2) b1 (wd_lo x 2).1 (wd_lo x 2).2 (wd_lo y 2).1 (wd_lo y 2).2 q1c q1d
  obtain ⟨d3, b3, D3, F3, q3a, q3b, q3c, q3d⟩ := subc_ex (wd x 3) (wd y 3) b2 (wd_lo x 3).1 (wd_lo x 3).2 (wd_lo y 3).1 (wd_lo y 3).2 q2c q2d
  obtain ⟨d4, b4, D4, F4, q4a, q4b, q4c, q4d⟩ := subc_ex (wd x 4) (wd y 4) b3 (wd_lo x 4).1 (wd_lo x 4).2 (wd_lo y 4).1 (wd_lo y 4).2 q3c q3d
  obtain ⟨d5, b5, D5, F5, q5a, q5b, q5c, q5d⟩ := subc_ex (wd x 5) (wd y 5) b4 (wd_lo x 5).1 (wd_lo x 5).2 (wd_lo y 5).1 (wd_lo y 5).2 q4c q4d
  obtain ⟨s0, k0, C0, E0, p0a, p0b, p0c, p0d⟩ := addc_ex d0 13402431016077863595 0 q0a q0b (by omega) (by simp [Wd]) (by omega) (by omega)
  obtain ⟨s1, k1, C1, E1, p1a, p1b, p1c, p1d⟩ := addc_ex d1 2210141511517208575 k0 q1a q1b (by omega) (by simp [Wd]) p0c p0d
  obtain ⟨s2, k2, C2, E2, p2a, p2b, p2c, p2d⟩ := addc_ex d2 7435674573564081700 k1 q2a q2b (by omega) (by simp [Wd]) p1c p1d
  obtain ⟨s3, k3, C3, E3, p3a, p3b, p3c, p3d⟩ := addc_ex d3 7239337960414712511 k2 q3a q3b (by omega) (by simp [Wd]) p2c p2d
  obtain ⟨s4, k4, C4, E4, p4a, p4b, p4c, p4d⟩ := addc_ex d4 5412103778470702295 k3 q4a q4b (by omega) (by simp [Wd]) p3c p3d
  obtain ⟨s5, k5, C5, E5, p5a, p5b, p5c, p5d⟩ := addc_ex d5 1873798617647539866 k4 q5a q5b (by omega) (by simp [Wd]) p4c p4d
  have f := sub6 _ _ _ _ _ _ _ _ _ _ _ _ _ _ _ _ _ _ _ _ _ _ _ _ F0.out F1.out F2.out F3.out F4.out F5.out
  rw [← ex, ← ey] at f
  have e := add6 _ _ _ _ _ _ _ _ _ _ _ _ _ _ _ _ _ _ _ _ _ _ _ _ 0 E0.out E1.out E2.out E3.out E4.out E5.out
  rw [← hMw, Int.add_zero] at e
  have hb : b5 = 1 := by
    unfold Wd at *
    omega
  have hk : k5 = 1 := by
    rcases (by omega : k5 = 0 ∨ k5 = 1) with h | h
    · subst h hb
      unfold Wd at *
      omega
    · exact h
  have hfin : (.agg #[.int .u64 s0, .int .u64 s1, .int .u64 s2, .int .u64 s3, .int .u64 s4, .int .u64 s5] : Value) = arr6 (x - y + Mp) := by
    refine arr6_of s0 s1 s2 s3 s4 s5 _ ⟨p0a, p0b⟩ ⟨p1a, p1b⟩ ⟨p2a, p2b⟩ ⟨p3a, p3b⟩ ⟨p4a, p4b⟩ ⟨p5a, p5b⟩ ?_
    subst hb hk
    omega
  have FIN := Lib.hid hfin
  obtain ⟨Z, hZ⟩ : ∃ Z, Z = arr6 (x - y + Mp) := ⟨_, rfl⟩
  rw [← hZ] at FIN ⊢
  subst hb
  clear hZ hfin f e hk hM hMw ex ey hx0 hy0 hy hlt q0a q0b q0c q0d F0 p0a p0b p0c p0d E0 q1a q1b q1c q1d F1 p1a p1b p1c p1d E1 q2a q2b q2c q2d F2 p2a p2b p2c p2d E2 q3a q3b q3c q3d F3 p3a p3b p3c p3d E3 q4a q4b q4c q4d F4 p4a p4b p4c p4d E4 q5a q5b q5c q5d F5 p5a p5b p5c p5d E5
  conv => arg 3; unfold arr6
  go_enter Tryd.func53, Tryd.ntmps53
  go_wp2_with (first | rw [D0.out] | rw [D1.out] | rw [D2.out] | rw [D3.out] | rw [D4.out] | rw [D5.out] | rw [C0.out] | rw [C1.out] | rw [C2.out] | rw [C3.out] | rw [C4.out] | rw [C5.out])
  refine bodyPost_ret (v := .agg #[.int .u64 s0, .int .u64 s1, .int .u64 s2, .int .u64 s3, .int .u64 s4, .int .u64 s5]) (by simp [results, Tryd.results53, go_sem]) rfl ⟨by rw [FIN.out], ?_⟩
  repeat (first | (with_reducible exact Below.refl _ _) | (with_reducible refine Below.drew ?_) | (with_reducible refine Below.alloc ?_ (by simp; try omega) _))
theorem fp_add0 (x y : Int) (w : World) (hx0 : 0 ≤ x) (hx : x < Mp) (hy0 : 0 ≤ y) (hy : y < Mp) :
    Calls Tryd.prog 52 #[arr6 x, arr6 y] w fun e w' => e = .returned (arr6 ((x + y) % Mp)) ∧ Below w.heap.size w w' := by
  rcases Int.lt_or_le (x + y) Mp with h | h
  · exact fp_add2 x y w hx0 hx hy0 hy h
  · exact fp_add1 x y w hx0 hx hy0 hy h
theorem fp_sub0 (x y : Int) (w : World) (hx0 : 0 ≤ x) (hx : x < Mp) (hy0 : 0 ≤ y) (hy : y < Mp) :
    Calls Tryd.prog 53 #[arr6 x, arr6 y] w fun e w' => e = .returned (arr6 ((x - y) % Mp)) ∧ Below w.heap.size w w' := by
  rcases Int.lt_or_le x y with h | h
  · rw [show (x - y) % Mp = x - y + Mp by rw [← Int.add_emod_right]; exact Int.emod_eq_of_lt (by omega) (by omega)]
    exact fp_sub2 x y w hx0 hy0 hy h
  · rw [Int.emod_eq_of_lt (by omega : 0 ≤ x - y) (by omega)]
    exact fp_sub1 x y w hx0 hx hy0 h
end Go.Proofs.YtclfmdaafpachaaDoor
