/-
  fp: the contract of Mul.
-/
import Derived.Test.YtclfmdaafpachaaDoorFpD
import Derived.Test.YtclfmdaafpachaaDoorFrM
namespace Go.Proofs.YtclfmdaafpachaaDoor
open Go.RowKit
/-- What R times is 1. -/
def Rip : Int := 3231460744492646417066832100176244795738767926513225105051837195607029917124509527734802654356338138714468589979680
theorem Rip_ok : Wd ^ 6 * Rip % Mp = 1 := by decide +kernel
set_option maxHeartbeats 4000000 in
/-- One word of a product: the numbers. -/
theorem mont6 (M v y s t z z5 : Int) (y0 m0 s0 H0 L0 c0 a0 P0 Q0 e0 y1 m1 s1 H1 L1 c1 a1 P1 Q1 e1 y2 m2 s2 H2 L2 c2 a2 P2 Q2 e2 y3 m3 s3 H3 L3 c3 a3 P3 Q3 e3 y4 m4 s4 H4 L4 c4 a4 P4 Q4 e4 y5 m5 s5 H5 L5 c5 a5 P5 Q5 e5 b1 d1 b2 d2 b3 d3 b4 d4 b5 d5 f0 g0 k0 f1 g1 k1 f2 g2 k2 f3 g3 k3 f4 g4 k4 : Int)
    (hy : y = y0 + Wd * (y1 + Wd * (y2 + Wd * (y3 + Wd * (y4 + Wd * (y5)))))) (hm : M = m0 + Wd * (m1 + Wd * (m2 + Wd * (m3 + Wd * (m4 + Wd * (m5)))))) (hs : s = s0 + Wd * (s1 + Wd * (s2 + Wd * (s3 + Wd * (s4 + Wd * (s5))))))
    (hA0 : Wd * H0 + L0 = v * y0) (hA1 : Wd * H1 + L1 = v * y1) (hA2 : Wd * H2 + L2 = v * y2) (hA3 : Wd * H3 + L3 = v * y3) (hA4 : Wd * H4 + L4 = v * y4) (hA5 : Wd * H5 + L5 = v * y5) (hB0 : a0 + Wd * c0 = s0 + L0 + 0) (hB1 : a1 + Wd * c1 = s1 + L1 + c0) (hB2 : a2 + Wd * c2 = s2 + L2 + c1) (hB3 : a3 + Wd * c3 = s3 + L3 + c2) (hB4 : a4 + Wd * c4 = s4 + L4 + c3) (hB5 : a5 + Wd * c5 = s5 + L5 + c4) (hD1 : b1 + Wd * d1 = a1 + H0 + 0) (hD2 : b2 + Wd * d2 = a2 + H1 + d1) (hD3 : b3 + Wd * d3 = a3 + H2 + d2) (hD4 : b4 + Wd * d4 = a4 + H3 + d3) (hD5 : b5 + Wd * d5 = a5 + H4 + d4) (hP0 : Wd * P0 + Q0 = t * m0) (hP1 : Wd * P1 + Q1 = t * m1) (hP2 : Wd * P2 + Q2 = t * m2) (hP3 : Wd * P3 + Q3 = t * m3) (hP4 : Wd * P4 + Q4 = t * m4) (hP5 : Wd * P5 + Q5 = t * m5) (hE : z + Wd * e0 = a0 + Q0 + 0) (hz : z = 0) (hF0 : f0 + Wd * e1 = b1 + Q1 + e0) (hF1 : f1 + Wd * e2 = b2 + Q2 + e1) (hF2 : f2 + Wd * e3 = b3 + Q3 + e2) (hF3 : f3 + Wd * e4 = b4 + Q4 + e3) (hF4 : f4 + Wd * e5 = b5 + Q5 + e4) (hG0 : g0 + Wd * k0 = f0 + P0 + 0) (hG1 : g1 + Wd * k1 = f1 + P1 + k0) (hG2 : g2 + Wd * k2 = f2 + P2 + k1) (hG3 : g3 + Wd * k3 = f3 + P3 + k2) (hG4 : g4 + Wd * k4 = f4 + P4 + k3) (h5 : z5 = H5 + c5 + d5 + e5 + (P5 + k4)) :
    (g0 + Wd * (g1 + Wd * (g2 + Wd * (g3 + Wd * (g4 + Wd * (z5)))))) * Wd = s + v * y + t * M := by
  subst hy hm hs hz h5
  obtain rfl : L0 = v * y0 - Wd * H0 := by omega
  obtain rfl : Q0 = t * m0 - Wd * P0 := by omega
  obtain rfl : L1 = v * y1 - Wd * H1 := by omega
  obtain rfl : Q1 = t * m1 - Wd * P1 := by omega
  obtain rfl : L2 = v * y2 - Wd * H2 := by omega
  obtain rfl : Q2 = t * m2 - Wd * P2 := by omega
  obtain rfl : L3 = v * y3 - Wd * H3 := by omega
  obtain rfl : Q3 = t * m3 - Wd * P3 := by omega
  obtain rfl : L4 = v * y4 - Wd * H4 := by omega
  obtain rfl : Q4 = t * m4 - Wd * P4 := by omega
  obtain rfl : L5 = v * y5 - Wd * H5 := by omega
  obtain rfl : Q5 = t * m5 - Wd * P5 := by omega
  obtain rfl : f0 = g0 + Wd * k0 - P0 - 0 := by omega
  obtain rfl : f1 = g1 + Wd * k1 - P1 - k0 := by omega
  obtain rfl : f2 = g2 + Wd * k2 - P2 - k1 := by omega
  obtain rfl : f3 = g3 + Wd * k3 - P3 - k2 := by omega
  obtain rfl : f4 = g4 + Wd * k4 - P4 - k3 := by omega
  obtain rfl : b1 = ((g0 + Wd * k0 - P0 - 0) + Wd * e1 - (t * m1 - Wd * P1) - e0) := by omega
  obtain rfl : b2 = ((g1 + Wd * k1 - P1 - k0) + Wd * e2 - (t * m2 - Wd * P2) - e1) := by omega
  obtain rfl : b3 = ((g2 + Wd * k2 - P2 - k1) + Wd * e3 - (t * m3 - Wd * P3) - e2) := by omega
  obtain rfl : b4 = ((g3 + Wd * k3 - P3 - k2) + Wd * e4 - (t * m4 - Wd * P4) - e3) := by omega
  obtain rfl : b5 = ((g4 + Wd * k4 - P4 - k3) + Wd * e5 - (t * m5 - Wd * P5) - e4) := by omega
  obtain rfl : a0 = (Wd * e0 - (t * m0 - Wd * P0)) := by omega
  obtain rfl : a1 = (((g0 + Wd * k0 - P0 - 0) + Wd * e1 - (t * m1 - Wd * P1) - e0) + Wd * d1 - H0 - 0) := by omega
  obtain rfl : a2 = (((g1 + Wd * k1 - P1 - k0) + Wd * e2 - (t * m2 - Wd * P2) - e1) + Wd * d2 - H1 - d1) := by omega
  obtain rfl : a3 = (((g2 + Wd * k2 - P2 - k1) + Wd * e3 - (t * m3 - Wd * P3) - e2) + Wd * d3 - H2 - d2) := by omega
  obtain rfl : a4 = (((g3 + Wd * k3 - P3 - k2) + Wd * e4 - (t * m4 - Wd * P4) - e3) + Wd * d4 - H3 - d3) := by omega
  obtain rfl : a5 = (((g4 + Wd * k4 - P4 - k3) + Wd * e5 - (t * m5 - Wd * P5) - e4) + Wd * d5 - H4 - d4) := by omega
  obtain rfl : s0 = (Wd * e0 - (t * m0 - Wd * P0)) + Wd * c0 - (v * y0 - Wd * H0) - 0 := by omega
  obtain rfl : s1 = (((g0 + Wd * k0 - P0 - 0) + Wd * e1 - (t * m1 - Wd * P1) - e0) + Wd * d1 - H0 - 0) + Wd * c1 - (v * y1 - Wd * H1) - c0 := by omega
  obtain rfl : s2 = (((g1 + Wd * k1 - P1 - k0) + Wd * e2 - (t * m2 - Wd * P2) - e1) + Wd * d2 - H1 - d1) + Wd * c2 - (v * y2 - Wd * H2) - c1 := by omega
  obtain rfl : s3 = (((g2 + Wd * k2 - P2 - k1) + Wd * e3 - (t * m3 - Wd * P3) - e2) + Wd * d3 - H2 - d2) + Wd * c3 - (v * y3 - Wd * H3) - c2 := by omega
  obtain rfl : s4 = (((g3 + Wd * k3 - P3 - k2) + Wd * e4 - (t * m4 - Wd * P4) - e3) + Wd * d4 - H3 - d3) + Wd * c4 - (v * y4 - Wd * H4) - c3 := by omega
  obtain rfl : s5 = (((g4 + Wd * k4 - P4 - k3) + Wd * e5 - (t * m5 - Wd * P5) - e4) + Wd * d5 - H4 - d4) + Wd * c5 - (v * y5 - Wd * H5) - c4 := by omega
  clear hA0 hB0 hP0 hA1 hB1 hP1 hA2 hB2 hP2 hA3 hB3 hP3 hA4 hB4 hP4 hA5 hB5 hP5 hD1 hD2 hD3 hD4 hD5 hE hF0 hG0 hF1 hG1 hF2 hG2 hF3 hG3 hF4 hG4
  grind
theorem low_noughtP (t l c d : Int) (ht : t = loW (l * 9940570264628428797)) (q : Int) (hq : q = 13402431016077863595) (hl h1 : Int) (hm : Wd * h1 + hl = t * q) (h : d + Wd * c = l + hl + 0) (d0 : 0 ≤ d) (d1 : d < Wd) : d = 0 := by
  subst hq
  unfold loW at ht
  have h2 := Int.mul_ediv_add_emod (l * 9940570264628428797) Wd
  unfold Wd at *
  omega
theorem idx6_0 (a0 a1 a2 a3 a4 a5 : Int) (u : World) : (Instr.index 50 (.agg #[.int .u64 a0, .int .u64 a1, .int .u64 a2, .int .u64 a3, .int .u64 a4, .int .u64 a5]) (.int .i64 0)).run Tryd.prog u = .ok (.int .u64 a0) u := by kernel_rfl
theorem idx6_1 (a0 a1 a2 a3 a4 a5 : Int) (u : World) : (Instr.index 50 (.agg #[.int .u64 a0, .int .u64 a1, .int .u64 a2, .int .u64 a3, .int .u64 a4, .int .u64 a5]) (.int .i64 1)).run Tryd.prog u = .ok (.int .u64 a1) u := by kernel_rfl
theorem idx6_2 (a0 a1 a2 a3 a4 a5 : Int) (u : World) : (Instr.index 50 (.agg #[.int .u64 a0, .int .u64 a1, .int .u64 a2, .int .u64 a3, .int .u64 a4, .int .u64 a5]) (.int .i64 2)).run Tryd.prog u = .ok (.int .u64 a2) u := by kernel_rfl
theorem idx6_3 (a0 a1 a2 a3 a4 a5 : Int) (u : World) : (Instr.index 50 (.agg #[.int .u64 a0, .int .u64 a1, .int .u64 a2, .int .u64 a3, .int .u64 a4, .int .u64 a5]) (.int .i64 3)).run Tryd.prog u = .ok (.int .u64 a3) u := by kernel_rfl
theorem idx6_4 (a0 a1 a2 a3 a4 a5 : Int) (u : World) : (Instr.index 50 (.agg #[.int .u64 a0, .int .u64 a1, .int .u64 a2, .int .u64 a3, .int .u64 a4, .int .u64 a5]) (.int .i64 4)).run Tryd.prog u = .ok (.int .u64 a4) u := by kernel_rfl
theorem idx6_5 (a0 a1 a2 a3 a4 a5 : Int) (u : World) : (Instr.index 50 (.agg #[.int .u64 a0, .int .u64 a1, .int .u64 a2, .int .u64 a3, .int .u64 a4, .int .u64 a5]) (.int .i64 5)).run Tryd.prog u = .ok (.int .u64 a5) u := by kernel_rfl
theorem xk6 (x : Int) (h0 : 0 ≤ x) (h : x < Wd ^ 6) : xk x 6 = x := by
  have := nu6 x h0 h
  simp only [xk]
  grind
/-- The sum behind k words. -/
structure MRp (x y : Int) (k : Nat) (s0 s1 s2 s3 s4 s5 : Int) : Prop where
  b0 : 0 ≤ s0 ∧ s0 < Wd
  b1 : 0 ≤ s1 ∧ s1 < Wd
  b2 : 0 ≤ s2 ∧ s2 < Wd
  b3 : 0 ≤ s3 ∧ s3 < Wd
  b4 : 0 ≤ s4 ∧ s4 < Wd
  b5 : 0 ≤ s5 ∧ s5 < Wd
  lo : 0 ≤ s0 + Wd * (s1 + Wd * (s2 + Wd * (s3 + Wd * (s4 + Wd * (s5))))) ∧ s0 + Wd * (s1 + Wd * (s2 + Wd * (s3 + Wd * (s4 + Wd * (s5))))) < 2 * Mp
  dv : Mp ∣ (s0 + Wd * (s1 + Wd * (s2 + Wd * (s3 + Wd * (s4 + Wd * (s5)))))) * Wd ^ k - xk x k * y
theorem MRp.zero (x y : Int) : MRp x y 0 0 0 0 0 0 0 := by
  have := wd_pos
  refine ⟨⟨by omega, this⟩, ⟨by omega, this⟩, ⟨by omega, this⟩, ⟨by omega, this⟩, ⟨by omega, this⟩, ⟨by omega, this⟩, ?_, ?_⟩
  · simp [Mp]
  · simp [xk]
theorem MRp.step (x y : Int) (k : Nat) (s0 s1 s2 s3 s4 s5 g0 g1 g2 g3 g4 z5 t : Int) (h : MRp x y k s0 s1 s2 s3 s4 s5) (hy0 : 0 ≤ y) (hy : y < Mp) (ht : 0 ≤ t ∧ t < Wd) (q0 : 0 ≤ g0 ∧ g0 < Wd) (q1 : 0 ≤ g1 ∧ g1 < Wd) (q2 : 0 ≤ g2 ∧ g2 < Wd) (q3 : 0 ≤ g3 ∧ g3 < Wd) (q4 : 0 ≤ g4 ∧ g4 < Wd) (hz : 0 ≤ z5)
    (he : (g0 + Wd * (g1 + Wd * (g2 + Wd * (g3 + Wd * (g4 + Wd * (z5)))))) * Wd = s0 + Wd * (s1 + Wd * (s2 + Wd * (s3 + Wd * (s4 + Wd * (s5))))) + wd x k * y + t * Mp) : MRp x y (k + 1) g0 g1 g2 g3 g4 z5 ∧ z5 < Wd := by
  have hb := mont_bound Mp Wd _ (wd x k) y t _ wd_pos h.lo.1 h.lo.2 (wd_lo x k).1 (wd_lo x k).2 hy0 hy ht.1 ht.2 he
  have hz2 : z5 < Wd := by
    have h2 := hb.2
    unfold Wd Mp at *
    omega
  refine ⟨⟨q0, q1, q2, q3, q4, ⟨hz, hz2⟩, hb, ?_⟩, hz2⟩
  rw [Int.pow_succ]
  exact dvd_round _ _ _ _ _ _ _ _ _ h.dv he
set_option maxRecDepth 100000 in
set_option maxHeartbeats 16000000 in
theorem fp_mul0 (x y : Int) (w : World) (hG : GMp w) (hx0 : 0 ≤ x) (hx : x < Wd ^ 6) (hy0 : 0 ≤ y) (hy : y < Mp) :
    Calls Tryd.prog 54 #[arr6 x, arr6 y] w fun e w' => e = .returned (arr6 (x * y * Rip % Mp)) ∧ Below w.heap.size w w' := by
  have HG := Lib.hid hG
  have HX := Lib.hid hx
  have HY := Lib.hid hy
  have HX0 := Lib.hid hx0
  have HY0 := Lib.hid hy0
  clear hx hy hx0 hy0 hG
  conv => arg 3; unfold arr6
  go_enter Tryd.func54, Tryd.ntmps54
  go_wp2_with fail
  go_loop [5, 6, 7, 8, 9, 10, 11, 13, 14, 15, 16, 17, 18, 19, 20, 21, 22, 23, 24, 25, 26, 27, 30] (fun S0 S1 S2 S3 S4 S5 _ _ _ _ _ _ _ _ _ _ _ _ _ _ _ _ cnt => ∃ (k : Nat) (s0 s1 s2 s3 s4 s5 : Int), k ≤ 6 ∧ cnt = .int .i64 k ∧ S0 = .int .u64 s0 ∧ S1 = .int .u64 s1 ∧ S2 = .int .u64 s2 ∧ S3 = .int .u64 s3 ∧ S4 = .int .u64 s4 ∧ S5 = .int .u64 s5 ∧ MRp x y k s0 s1 s2 s3 s4 s5) (fun _ _ _ _ _ _ _ _ _ _ _ _ _ _ _ _ _ _ _ _ _ _ cnt => 6 - (intOf cnt).toNat)
  case atStart => exact ⟨0, 0, 0, 0, 0, 0, 0, Nat.zero_le _, rfl, rfl, rfl, rfl, rfl, rfl, rfl, MRp.zero x y⟩
  case round =>
    obtain ⟨k, s0, s1, s2, s3, s4, s5, hk, rfl, rfl, rfl, rfl, rfl, rfl, rfl, hR⟩ := hrel
    by_cases hlt : k < 6
    · have hidx : ∀ u : World, (Instr.index 50 (.agg #[.int .u64 (wd x 0), .int .u64 (wd x 1), .int .u64 (wd x 2), .int .u64 (wd x 3), .int .u64 (wd x 4), .int .u64 (wd x 5)]) (.int .i64 (k : Int))).run Tryd.prog u = .ok (.int .u64 (wd x k)) u := by
        intro u
        match k, hlt with
        | 0, _ => exact idx6_0 _ _ _ _ _ _ u
        | 1, _ => exact idx6_1 _ _ _ _ _ _ u
        | 2, _ => exact idx6_2 _ _ _ _ _ _ u
        | 3, _ => exact idx6_3 _ _ _ _ _ _ u
        | 4, _ => exact idx6_4 _ _ _ _ _ _ u
        | 5, _ => exact idx6_5 _ _ _ _ _ _ u
      have v1 := (wd_lo x k).1
      have v2 := (wd_lo x k).2
      have b0 := hR.b0
      have b1 := hR.b1
      have b2 := hR.b2
      have b3 := hR.b3
      have b4 := hR.b4
      have b5 := hR.b5
      obtain ⟨v, hv⟩ : ∃ v, v = wd x k := ⟨_, rfl⟩
      rw [← hv] at hidx v1 v2
      obtain ⟨H0, L0, CA0, hA0, A0a, A0b, A0c, A0d⟩ := mul64_ex v (wd y 0) v1 v2 (wd_lo y 0).1 (wd_lo y 0).2
      obtain ⟨H1, L1, CA1, hA1, A1a, A1b, A1c, A1d⟩ := mul64_ex v (wd y 1) v1 v2 (wd_lo y 1).1 (wd_lo y 1).2
      obtain ⟨H2, L2, CA2, hA2, A2a, A2b, A2c, A2d⟩ := mul64_ex v (wd y 2) v1 v2 (wd_lo y 2).1 (wd_lo y 2).2
      obtain ⟨H3, L3, CA3, hA3, A3a, A3b, A3c, A3d⟩ := mul64_ex v (wd y 3) v1 v2 (wd_lo y 3).1 (wd_lo y 3).2
      obtain ⟨H4, L4, CA4, hA4, A4a, A4b, A4c, A4d⟩ := mul64_ex v (wd y 4) v1 v2 (wd_lo y 4).1 (wd_lo y 4).2
      obtain ⟨H5, L5, CA5, hA5, A5a, A5b, A5c, A5d⟩ := mul64_ex v (wd y 5) v1 v2 (wd_lo y 5).1 (wd_lo y 5).2
      obtain ⟨a0, c0, CB0, hB0, B0a, B0b, B0c, B0d⟩ := addc_ex s0 L0 0 b0.1 b0.2 A0c A0d (by omega) (by omega)
      obtain ⟨a1, c1, CB1, hB1, B1a, B1b, B1c, B1d⟩ := addc_ex s1 L1 c0 b1.1 b1.2 A1c A1d B0c B0d
      obtain ⟨a2, c2, CB2, hB2, B2a, B2b, B2c, B2d⟩ := addc_ex s2 L2 c1 b2.1 b2.2 A2c A2d B1c B1d
      obtain ⟨a3, c3, CB3, hB3, B3a, B3b, B3c, B3d⟩ := addc_ex s3 L3 c2 b3.1 b3.2 A3c A3d B2c B2d
      obtain ⟨a4, c4, CB4, hB4, B4a, B4b, B4c, B4d⟩ := addc_ex s4 L4 c3 b4.1 b4.2 A4c A4d B3c B3d
      obtain ⟨a5, c5, CB5, hB5, B5a, B5b, B5c, B5d⟩ := addc_ex s5 L5 c4 b5.1 b5.2 A5c A5d B4c B4d
      obtain ⟨u1, d1, CD1, hD1, D1a, D1b, D1c, D1d⟩ := addc_ex a1 H0 0 B1a B1b A0a A0b (by omega) (by omega)
      obtain ⟨u2, d2, CD2, hD2, D2a, D2b, D2c, D2d⟩ := addc_ex a2 H1 d1 B2a B2b A1a A1b D1c D1d
      obtain ⟨u3, d3, CD3, hD3, D3a, D3b, D3c, D3d⟩ := addc_ex a3 H2 d2 B3a B3b A2a A2b D2c D2d
      obtain ⟨u4, d4, CD4, hD4, D4a, D4b, D4c, D4d⟩ := addc_ex a4 H3 d3 B4a B4b A3a A3b D3c D3d
      obtain ⟨u5, d5, CD5, hD5, D5a, D5b, D5c, D5d⟩ := addc_ex a5 H4 d4 B5a B5b A4a A4b D4c D4d
      obtain ⟨t, ht⟩ : ∃ t, t = loW (a0 * 9940570264628428797) := ⟨_, rfl⟩
      have t1 : 0 ≤ t := by rw [ht]; exact (loW_in _).1
      have t2 : t < Wd := by rw [ht]; exact (loW_in _).2
      have hwt : IntKind.u64.wrap (a0 * 9940570264628428797) = t := by rw [wrapU, ht]
      obtain ⟨P0, Q0, CP0, hP0, P0a, P0b, P0c, P0d⟩ := mul64_ex t 13402431016077863595 t1 t2 (by omega) (by simp [Wd])
      obtain ⟨P1, Q1, CP1, hP1, P1a, P1b, P1c, P1d⟩ := mul64_ex t 2210141511517208575 t1 t2 (by omega) (by simp [Wd])
      obtain ⟨P2, Q2, CP2, hP2, P2a, P2b, P2c, P2d⟩ := mul64_ex t 7435674573564081700 t1 t2 (by omega) (by simp [Wd])
      obtain ⟨P3, Q3, CP3, hP3, P3a, P3b, P3c, P3d⟩ := mul64_ex t 7239337960414712511 t1 t2 (by omega) (by simp [Wd])
      obtain ⟨P4, Q4, CP4, hP4, P4a, P4b, P4c, P4d⟩ := mul64_ex t 5412103778470702295 t1 t2 (by omega) (by simp [Wd])
      obtain ⟨P5, Q5, CP5, hP5, P5a, P5b, P5c, P5d⟩ := mul64_ex t 1873798617647539866 t1 t2 (by omega) (by simp [Wd])
      obtain ⟨z, e0, CE, hE, Ea, Eb, E0c, E0d⟩ := addc_ex a0 Q0 0 B0a B0b P0c P0d (by omega) (by omega)
      have hz := low_noughtP t a0 e0 z ht _ rfl Q0 P0 hP0.out hE.out Ea Eb
      obtain ⟨f0, e1, CF0, hF0, F0a, F0b, E1c, E1d⟩ := addc_ex u1 Q1 e0 D1a D1b P1c P1d E0c E0d
      obtain ⟨f1, e2, CF1, hF1, F1a, F1b, E2c, E2d⟩ := addc_ex u2 Q2 e1 D2a D2b P2c P2d E1c E1d
      obtain ⟨f2, e3, CF2, hF2, F2a, F2b, E3c, E3d⟩ := addc_ex u3 Q3 e2 D3a D3b P3c P3d E2c E2d
      obtain ⟨f3, e4, CF3, hF3, F3a, F3b, E4c, E4d⟩ := addc_ex u4 Q4 e3 D4a D4b P4c P4d E3c E3d
      obtain ⟨f4, e5, CF4, hF4, F4a, F4b, E5c, E5d⟩ := addc_ex u5 Q5 e4 D5a D5b P5c P5d E4c E4d
      obtain ⟨g0, k0, CG0, hG0, G0a, G0b, G0c, G0d⟩ := addc_ex f0 P0 0 F0a F0b P0a P0b (by omega) (by omega)
      obtain ⟨g1, k1, CG1, hG1, G1a, G1b, G1c, G1d⟩ := addc_ex f1 P1 k0 F1a F1b P1a P1b G0c G0d
      obtain ⟨g2, k2, CG2, hG2, G2a, G2b, G2c, G2d⟩ := addc_ex f2 P2 k1 F2a F2b P2a P2b G1c G1d
      obtain ⟨g3, k3, CG3, hG3, G3a, G3b, G3c, G3d⟩ := addc_ex f3 P3 k2 F3a F3b P3a P3b G2c G2d
      obtain ⟨g4, k4, CG4, hG4, G4a, G4b, G4c, G4d⟩ := addc_ex f4 P4 k3 F4a F4b P4a P4b G3c G3d
      have hst : ∀ z5, 0 ≤ z5 → z5 = H5 + c5 + d5 + e5 + (P5 + k4) → MRp x y (k + 1) g0 g1 g2 g3 g4 z5 ∧ z5 < Wd := fun z5 z0 hz5 => by
        refine hR.step x y k s0 s1 s2 s3 s4 s5 g0 g1 g2 g3 g4 z5 t HY0.out HY.out ⟨t1, t2⟩ ⟨G0a, G0b⟩ ⟨G1a, G1b⟩ ⟨G2a, G2b⟩ ⟨G3a, G3b⟩ ⟨G4a, G4b⟩ z0 ?_
        have hM := Mp_lo
        rw [← hv]
        exact mont6 Mp v y _ t z z5 _ _ _ _ _ _ _ _ _ _ _ _ _ _ _ _ _ _ _ _ _ _ _ _ _ _ _ _ _ _ _ _ _ _ _ _ _ _ _ _ _ _ _ _ _ _ _ _ _ _ _ _ _ _ _ _ _ _ _ _ _ _ _ _ _ _ _ _ _ _ _ _ _ _ _ _ _ _ _ _ _ _ _ _ _ (nu6 y HY0.out (by have := HY.out; omega)) Mp_words rfl hA0.out hA1.out hA2.out hA3.out hA4.out hA5.out hB0.out hB1.out hB2.out hB3.out hB4.out hB5.out hD1.out hD2.out hD3.out hD4.out hD5.out hP0.out hP1.out hP2.out hP3.out hP4.out hP5.out hE.out hz hF0.out hF1.out hF2.out hF3.out hF4.out hG0.out hG1.out hG2.out hG3.out hG4.out hz5
      obtain ⟨z5, hz5⟩ : ∃ z5, z5 = H5 + c5 + d5 + e5 + (P5 + k4) := ⟨_, rfl⟩
      obtain ⟨hst1, hst2⟩ := hst z5 (by omega) hz5
      have w1 : IntKind.u64.wrap (H5 + c5) = H5 + c5 := by rw [wrapU]; exact loW_of (by omega) (by omega)
      have w2 : IntKind.u64.wrap (H5 + c5 + d5) = H5 + c5 + d5 := by rw [wrapU]; exact loW_of (by omega) (by omega)
      have w3 : IntKind.u64.wrap (H5 + c5 + d5 + e5) = H5 + c5 + d5 + e5 := by rw [wrapU]; exact loW_of (by omega) (by omega)
      have w4 : IntKind.u64.wrap (P5 + k4) = P5 + k4 := by rw [wrapU]; exact loW_of (by omega) (by omega)
      have w5 : IntKind.u64.wrap (H5 + c5 + d5 + e5 + (P5 + k4)) = z5 := by rw [wrapU, ← hz5]; exact loW_of (by omega) hst2
      have HR := Lib.hid hst1
      subst hz
      clear hst hst1 hst2 hz5 hv hR ht t1 t2 v1 v2 hk Ea Eb A0a A0b A0c A0d hA0 B0a B0b B0c B0d hB0 P0a P0b P0c P0d hP0 b0 E0c E0d A1a A1b A1c A1d hA1 B1a B1b B1c B1d hB1 P1a P1b P1c P1d hP1 b1 E1c E1d A2a A2b A2c A2d hA2 B2a B2b B2c B2d hB2 P2a P2b P2c P2d hP2 b2 E2c E2d A3a A3b A3c A3d hA3 B3a B3b B3c B3d hB3 P3a P3b P3c P3d hP3 b3 E3c E3d A4a A4b A4c A4d hA4 B4a B4b B4c B4d hB4 P4a P4b P4c P4d hP4 b4 E4c E4d A5a A5b A5c A5d hA5 B5a B5b B5c B5d hB5 P5a P5b P5c P5d hP5 b5 E5c E5d D1a D1b D1c D1d hD1 D2a D2b D2c D2d hD2 D3a D3b D3c D3d hD3 D4a D4b D4c D4d hD4 D5a D5b D5c D5d hD5 hE F0a F0b hF0 G0a G0b G0c G0d hG0 F1a F1b hF1 G1a G1b G1c G1d hG1 F2a F2b hF2 G2a G2b G2c G2d hG2 F3a F3b hF3 G3a G3b G3c G3d hG3 F4a F4b hF4 G4a G4b G4c G4d hG4
      have i1 : (k : Int) < 6 := by omega
      go_wp2_with fail
      refine (CA0.out _).mono ?_
      rintro e w' ⟨rfl, rfl⟩
      go_wp2_with fail
      refine (CA1.out _).mono ?_
      rintro e w' ⟨rfl, rfl⟩
      go_wp2_with fail
      refine (CA2.out _).mono ?_
      rintro e w' ⟨rfl, rfl⟩
      go_wp2_with fail
      refine (CA3.out _).mono ?_
      rintro e w' ⟨rfl, rfl⟩
      go_wp2_with fail
      refine (CA4.out _).mono ?_
      rintro e w' ⟨rfl, rfl⟩
      go_wp2_with fail
      refine (CA5.out _).mono ?_
      rintro e w' ⟨rfl, rfl⟩
      go_wp2_with (first | rw [CB0.out] | rw [CB1.out] | rw [CB2.out] | rw [CB3.out] | rw [CB4.out] | rw [CB5.out] | rw [CD1.out] | rw [CD2.out] | rw [CD3.out] | rw [CD4.out] | rw [CD5.out])
      refine (CP0.out _).mono ?_
      rintro e w' ⟨rfl, rfl⟩
      go_wp2_with fail
      refine (CP1.out _).mono ?_
      rintro e w' ⟨rfl, rfl⟩
      go_wp2_with fail
      refine (CP2.out _).mono ?_
      rintro e w' ⟨rfl, rfl⟩
      go_wp2_with fail
      refine (CP3.out _).mono ?_
      rintro e w' ⟨rfl, rfl⟩
      go_wp2_with fail
      refine (CP4.out _).mono ?_
      rintro e w' ⟨rfl, rfl⟩
      go_wp2_with fail
      refine (CP5.out _).mono ?_
      rintro e w' ⟨rfl, rfl⟩
      go_wp2_with (first | rw [CE.out] | rw [CF0.out] | rw [CF1.out] | rw [CF2.out] | rw [CF3.out] | rw [CF4.out] | rw [CG0.out] | rw [CG1.out] | rw [CG2.out] | rw [CG3.out] | rw [CG4.out])
      exact ⟨⟨k + 1, g0, g1, g2, g3, g4, z5, by omega, by go_num, rfl, rfl, rfl, rfl, rfl, rfl, HR.out⟩, by simp [intOf]; omega⟩
    · obtain rfl : k = 6 := by omega
      obtain ⟨S, hS⟩ : ∃ S, S = s0 + Wd * (s1 + Wd * (s2 + Wd * (s3 + Wd * (s4 + Wd * (s5))))) := ⟨_, rfl⟩
      have hagg := arr6_of s0 s1 s2 s3 s4 s5 S hR.b0 hR.b1 hR.b2 hR.b3 hR.b4 hR.b5 hS.symm
      have hlo := hR.lo
      have hdv := hR.dv
      rw [← hS, xk6 x HX0.out HX.out] at hdv
      rw [← hS] at hlo
      have hfin : S % Mp = x * y * Rip % Mp := by
        have hM := Mp_lo
        refine mont_fin Mp (Wd ^ 6) Rip x y (S % Mp) Rip_ok (Int.emod_nonneg _ (by omega)) (Int.emod_lt_of_pos _ (by omega)) ?_
        obtain ⟨q, hq⟩ := hdv
        have e := Int.mul_ediv_add_emod S Mp
        refine ⟨q - (S / Mp) * Wd ^ 6, ?_⟩
        have e2 : S % Mp = S - Mp * (S / Mp) := by omega
        rw [e2]
        grind
      have AG := Lib.hid hagg
      have FN := Lib.hid hfin
      have LO := Lib.hid hlo
      clear hR hagg hfin hlo hdv hS hk hlt
      have j1 : decide (((6 : Nat) : Int) < 6) = false := by decide
      go_wp2_with fail
      rw [AG.out]
      refine (fp_reduced S _ (HG.out.keep (by repeat (first | (with_reducible exact Below.refl _ _) | (with_reducible refine Below.drew ?_) | (with_reducible refine Below.alloc ?_ (by simp; try omega) _)))) LO.out.1 LO.out.2).mono ?_
      rintro e w1 ⟨rfl, hB⟩
      rw [FN.out]
      obtain ⟨f0, f1, f2, f3, f4, f5, z0, z1, z2, z3, z4, z5, hg⟩ := res6 (t := 52) (c0 := .int .u64 0) (c1 := .int .u64 0) (c2 := .int .u64 0) (c3 := .int .u64 0) (c4 := .int .u64 0) (c5 := .int .u64 0) (bump2 w _ _ _ _) hB
      have hW : Below w.heap.size w w1 := Below.trans (by repeat (first | (with_reducible exact Below.refl _ _) | (with_reducible refine Below.drew ?_) | (with_reducible refine Below.alloc ?_ (by simp; try omega) _))) (hB.mono (by simp; try omega))
      have HW := Lib.hid hW
      clear hB hW
      obtain ⟨Z, hZ⟩ : ∃ Z, Z = x * y * Rip % Mp := ⟨_, rfl⟩
      rw [← hZ]
      have HZ := Lib.hid hZ
      clear hZ
      unfold arr6
      go_wp2_with fail
      refine bodyPost_ret (v := arr6 Z) (by simp [arr6, results, Tryd.results54, go_sem, f0, f1, f2, f3, f4, f5]) rfl ⟨by rw [HZ.out], ?_⟩
      repeat (first | (with_reducible exact HW.out) | (with_reducible refine Below.drew ?_) | (with_reducible refine Below.alloc ?_ (by first | assumption | (simp; done) | (simp; omega)) _) | (with_reducible refine Below.setCell ?_ (by simp; try omega) _))
end Go.Proofs.YtclfmdaafpachaaDoor
