/-
  FpB, FpD, FpM, FpE, FpF, FpG, FpI, FpJ, FpK, FpH, in one text.
-/
import Derived.Test.YtgkfkfodeooogaaDoorA0
/-! ## FpB -/
namespace Go.Proofs.YtgkfkfodeooogaaDoor
open Go.RowKit
/-- A number as six words. -/
def arr6 (x : Int) : Value := .agg #[.int .u64 (wd x 0), .int .u64 (wd x 1), .int .u64 (wd x 2), .int .u64 (wd x 3), .int .u64 (wd x 4), .int .u64 (wd x 5)]
theorem wds6 (x : Int) : wds x 6 = [wd x 0, wd x 1, wd x 2, wd x 3, wd x 4, wd x 5] := rfl
theorem nu6 (x : Int) (h0 : 0 ≤ x) (h : x < Wd ^ 6) : x = wd x 0 + Wd * (wd x 1 + Wd * (wd x 2 + Wd * (wd x 3 + Wd * (wd x 4 + Wd * (wd x 5))))) := by
  have := nu_wds 6 x
  rw [Int.emod_eq_of_lt h0 h, wds6] at this
  simpa [nu] using this.symm
theorem arr6_of (d0 d1 d2 d3 d4 d5 z : Int) (h0 : 0 ≤ d0 ∧ d0 < Wd) (h1 : 0 ≤ d1 ∧ d1 < Wd) (h2 : 0 ≤ d2 ∧ d2 < Wd) (h3 : 0 ≤ d3 ∧ d3 < Wd) (h4 : 0 ≤ d4 ∧ d4 < Wd) (h5 : 0 ≤ d5 ∧ d5 < Wd) (hz : d0 + Wd * (d1 + Wd * (d2 + Wd * (d3 + Wd * (d4 + Wd * (d5))))) = z) :
    (.agg #[.int .u64 d0, .int .u64 d1, .int .u64 d2, .int .u64 d3, .int .u64 d4, .int .u64 d5] : Value) = arr6 z := by
  have h := wds_nu [d0, d1, d2, d3, d4, d5] (by simp [h0, h1, h2, h3, h4, h5])
  have e : nu [d0, d1, d2, d3, d4, d5] = z := by rw [← hz]; simp [nu]
  rw [e] at h
  have h' : [wd z 0, wd z 1, wd z 2, wd z 3, wd z 4, wd z 5] = [d0, d1, d2, d3, d4, d5] := h
  simp only [List.cons.injEq, and_true] at h'
  obtain ⟨e0, e1, e2, e3, e4, e5⟩ := h'
  unfold arr6
  rw [e0, e1, e2, e3, e4, e5]
theorem sub6 (x0 y0 d0 b0 x1 y1 d1 b1 x2 y2 d2 b2 x3 y3 d3 b3 x4 y4 d4 b4 x5 y5 d5 b5 : Int) (e0 : d0 - Wd * b0 = x0 - y0 - 0) (e1 : d1 - Wd * b1 = x1 - y1 - b0) (e2 : d2 - Wd * b2 = x2 - y2 - b1) (e3 : d3 - Wd * b3 = x3 - y3 - b2) (e4 : d4 - Wd * b4 = x4 - y4 - b3) (e5 : d5 - Wd * b5 = x5 - y5 - b4) :
    d0 + Wd * (d1 + Wd * (d2 + Wd * (d3 + Wd * (d4 + Wd * (d5))))) = x0 + Wd * (x1 + Wd * (x2 + Wd * (x3 + Wd * (x4 + Wd * (x5))))) - (y0 + Wd * (y1 + Wd * (y2 + Wd * (y3 + Wd * (y4 + Wd * (y5)))))) + Wd * (Wd * (Wd * (Wd * (Wd * (Wd * b5))))) := by
  obtain rfl : d0 = x0 - y0 + Wd * b0 := by omega
  obtain rfl : d1 = x1 - y1 - b0 + Wd * b1 := by omega
  obtain rfl : d2 = x2 - y2 - b1 + Wd * b2 := by omega
  obtain rfl : d3 = x3 - y3 - b2 + Wd * b3 := by omega
  obtain rfl : d4 = x4 - y4 - b3 + Wd * b4 := by omega
  obtain rfl : d5 = x5 - y5 - b4 + Wd * b5 := by omega
  clear e0 e1 e2 e3 e4 e5
  grind
theorem add6 (x0 y0 s0 k0 x1 y1 s1 k1 x2 y2 s2 k2 x3 y3 s3 k3 x4 y4 s4 k4 x5 y5 s5 k5 c : Int) (e0 : s0 + Wd * k0 = x0 + y0 + c) (e1 : s1 + Wd * k1 = x1 + y1 + k0) (e2 : s2 + Wd * k2 = x2 + y2 + k1) (e3 : s3 + Wd * k3 = x3 + y3 + k2) (e4 : s4 + Wd * k4 = x4 + y4 + k3) (e5 : s5 + Wd * k5 = x5 + y5 + k4) :
    s0 + Wd * (s1 + Wd * (s2 + Wd * (s3 + Wd * (s4 + Wd * (s5))))) + Wd * (Wd * (Wd * (Wd * (Wd * (Wd * k5))))) = x0 + Wd * (x1 + Wd * (x2 + Wd * (x3 + Wd * (x4 + Wd * (x5))))) + (y0 + Wd * (y1 + Wd * (y2 + Wd * (y3 + Wd * (y4 + Wd * (y5)))))) + c := by
  obtain rfl : s0 = x0 + y0 + c - Wd * k0 := by omega
  obtain rfl : s1 = x1 + y1 + k0 - Wd * k1 := by omega
  obtain rfl : s2 = x2 + y2 + k1 - Wd * k2 := by omega
  obtain rfl : s3 = x3 + y3 + k2 - Wd * k3 := by omega
  obtain rfl : s4 = x4 + y4 + k3 - Wd * k4 := by omega
  obtain rfl : s5 = x5 + y5 + k4 - Wd * k5 := by omega
  clear e0 e1 e2 e3 e4 e5
  grind
/-- The modulus. -/
def Mp : Int := 4002409555221667393417789825735904156556882819939007885332058136124031650490837864442687629129015664037894272559787
theorem Mp_lo : 0 < Mp ∧ 2 * Mp < Wd ^ 6 := by simp [Mp, Wd]
/-- Six cells of the call's own behind a call. -/
theorem res6 {W w1 : World} {g : Nat} {t : TypeId} {c0 c1 c2 c3 c4 c5 : Value} (h : Blk W g t #[c0, c1, c2, c3, c4, c5]) (hB : Below W.heap.size W w1) :
    w1.cell? ⟨g, 0, none⟩ = some c0 ∧ w1.cell? ⟨g, 1, none⟩ = some c1 ∧ w1.cell? ⟨g, 2, none⟩ = some c2 ∧ w1.cell? ⟨g, 3, none⟩ = some c3 ∧ w1.cell? ⟨g, 4, none⟩ = some c4 ∧ w1.cell? ⟨g, 5, none⟩ = some c5 ∧
    w1.frozen? ⟨g, 0, none⟩ = false ∧ w1.frozen? ⟨g, 1, none⟩ = false ∧ w1.frozen? ⟨g, 2, none⟩ = false ∧ w1.frozen? ⟨g, 3, none⟩ = false ∧ w1.frozen? ⟨g, 4, none⟩ = false ∧ w1.frozen? ⟨g, 5, none⟩ = false ∧ g < w1.heap.size := by
  have h1 := h.keep hB
  exact ⟨h1.at_ rfl, h1.at_ rfl, h1.at_ rfl, h1.at_ rfl, h1.at_ rfl, h1.at_ rfl, h1.frozen 0, h1.frozen 1, h1.frozen 2, h1.frozen 3, h1.frozen 4, h1.frozen 5, h1.lt⟩
theorem cells6 {w : World} {g : Nat} {t : TypeId} {a0 a1 a2 a3 a4 a5 : Value} (h : Blk w g t #[a0, a1, a2, a3, a4, a5]) : w.cell? ⟨g, 0, none⟩ = some a0 ∧ w.cell? ⟨g, 1, none⟩ = some a1 ∧ w.cell? ⟨g, 2, none⟩ = some a2 ∧ w.cell? ⟨g, 3, none⟩ = some a3 ∧ w.cell? ⟨g, 4, none⟩ = some a4 ∧ w.cell? ⟨g, 5, none⟩ = some a5 :=
  ⟨h.at_ rfl, h.at_ rfl, h.at_ rfl, h.at_ rfl, h.at_ rfl, h.at_ rfl⟩
theorem und55 : Tryd.prog.underlying 55 = some (.array 6 54) := by kernel_rfl
theorem arr6_zero : arr6 0 = .agg #[.int .u64 0, .int .u64 0, .int .u64 0, .int .u64 0, .int .u64 0, .int .u64 0] := rfl
theorem arr6_eq (x y : Int) (hx0 : 0 ≤ x) (hx : x < Wd ^ 6) (hy0 : 0 ≤ y) (hy : y < Wd ^ 6) (w : World) :
    (Op.equalIn 9999 55 (arr6 x) (arr6 y)).run Tryd.prog w = .ok (decide (x = y)) w := by
  refine run_equalIn_arr 9997 w _ _ 6 .u64 _ _ und55 und23 size23 (fun i hi => ?_) _ ?_
  · match i, hi with
    | 0, _ | 1, _ | 2, _ | 3, _ | 4, _ | 5, _ => exact ⟨_, _, rfl, rfl⟩
  · rw [decide_eq_true_iff]
    constructor
    · rintro rfl i _; rfl
    · intro h
      have h0 := h 0 (by omega)
      have h1 := h 1 (by omega)
      have h2 := h 2 (by omega)
      have h3 := h 3 (by omega)
      have h4 := h 4 (by omega)
      have h5 := h 5 (by omega)
      simp at h0 h1 h2 h3 h4 h5
      rw [nu6 x hx0 hx, nu6 y hy0 hy, h0, h1, h2, h3, h4, h5]
end Go.Proofs.YtgkfkfodeooogaaDoor

/-! ## FpD -/
namespace Go.Proofs.YtgkfkfodeooogaaDoor
open Go.RowKit
theorem Mp_words : Mp = 13402431016077863595 + Wd * (2210141511517208575 + Wd * (7435674573564081700 + Wd * (7239337960414712511 + Wd * (5412103778470702295 + Wd * (1873798617647539866))))) := by decide +kernel
set_option maxRecDepth 100000 in
set_option maxHeartbeats 4000000 in
theorem fp_add1 (x y : Int) (w : World) (hx0 : 0 ≤ x) (hx : x < Mp) (hy0 : 0 ≤ y) (hy : y < Mp) (hge : Mp ≤ x + y) :
    Calls Tryd.prog 62 #[arr6 x, arr6 y] w fun e w' => e = .returned (arr6 ((x + y) % Mp)) ∧ Below w.heap.size w w' := by
  have hM := Mp_lo
  have hMw := Mp_words
  have ex := nu6 x hx0 (by omega)
  have ey := nu6 y hy0 (by omega)
  obtain ⟨s0, k0, C0, E0, p0a, p0b, p0c, p0d⟩ := addc_ex (wd x 0) (wd y 0) 0 (wd_lo x 0).1 (wd_lo x 0).2 (wd_lo y 0).1 (wd_lo y 0).2 (by omega) (by omega)
  obtain ⟨s1, k1, C1, E1, p1a, p1b, p1c, p1d⟩ := addc_ex (wd x 1) (wd y 1) k0 (wd_lo x 1).1 (wd_lo x 1).2 (wd_lo y 1).1 (wd_lo y 1).2 p0c p0d
  obtain ⟨s2, k2, C2, E2, p2a, p2b, p2c, p2d⟩ := addc_ex (wd x 2) (wd y 2) k1 (wd_lo x 2).1 (wd_lo x 2).2 (wd_lo y 2).1 (wd_lo y 2).2 p1c p1d
  obtain ⟨s3, k3, C3, E3, p3a, p3b, p3c, p3d⟩ := addc_ex (wd x 3) (wd y 3) k2 (wd_lo x 3).1 (wd_lo x 3).2 (wd_lo y 3).1 (wd_lo y 3).2 p2c p2d
  obtain ⟨s4, k4, C4, E4, p4a, p4b, p4c, p4d⟩ := addc_ex (wd x 4) (wd y 4) k3 (wd_lo x 4).1 (wd_lo x 4).2 (wd_lo y 4).1 (wd_lo y 4).2 p3c p3d
  obtain ⟨s5, k5, C5, E5, p5a, p5b, p5c, p5d⟩ := addc_ex (wd x 5) (wd y 5) k4 (wd_lo x 5).1 (wd_lo x 5).2 (wd_lo y 5).1 (wd_lo y 5).2 p4c p4d
  obtain ⟨d0, b0, D0, F0, q0a, q0b, q0c, q0d⟩ := subc_ex s0 13402431016077863595 0 p0a p0b (by omega) (by simp [Wd]) (by omega) (by omega)
  obtain ⟨d1, b1, D1, F1, q1a, q1b, q1c, q1d⟩ := subc_ex s1 2210141511517208575 b0 p1a p1b (by omega) (by simp [Wd]) q0c q0d
  obtain ⟨d2, b2, D2, F2, q2a, q2b, q2c, q2d⟩ := subc_ex s2 7435674573564081700 b1 p2a p2b (by omega) (by simp [Wd]) q1c q1d
  obtain ⟨d3, b3, D3, F3, q3a, q3b, q3c, q3d⟩ := subc_ex s3 7239337960414712511 b2 p3a p3b (by omega) (by simp [Wd]) q2c q2d
  obtain ⟨d4, b4, D4, F4, q4a, q4b, q4c, q4d⟩ := subc_ex s4 5412103778470702295 b3 p4a p4b (by omega) (by simp [Wd]) q3c q3d
  obtain ⟨d5, b5, D5, F5, q5a, q5b, q5c, q5d⟩ := subc_ex s5 1873798617647539866 b4 p5a p5b (by omega) (by simp [Wd]) q4c q4d
  have e := add6 _ _ _ _ _ _ _ _ _ _ _ _ _ _ _ _ _ _ _ _ _ _ _ _ 0 E0.out E1.out E2.out E3.out E4.out E5.out
  rw [← ex, ← ey, Int.add_zero] at e
  have hk : k5 = 0 := by
    rcases (by omega : k5 = 0 ∨ k5 = 1) with h | h
    · exact h
    · subst h
      unfold Wd at *
      omega
  have f := sub6 _ _ _ _ _ _ _ _ _ _ _ _ _ _ _ _ _ _ _ _ _ _ _ _ F0.out F1.out F2.out F3.out F4.out F5.out
  rw [← hMw] at f
  have hs : s0 + Wd * (s1 + Wd * (s2 + Wd * (s3 + Wd * (s4 + Wd * (s5))))) = x + y := by subst hk; omega
  rw [hs] at f
  have hb : b5 = 0 := by
    unfold Wd at *
    omega
  have hfin : (.agg #[.int .u64 d0, .int .u64 d1, .int .u64 d2, .int .u64 d3, .int .u64 d4, .int .u64 d5] : Value) = arr6 ((x + y) % Mp) := by
    refine arr6_of d0 d1 d2 d3 d4 d5 _ ⟨q0a, q0b⟩ ⟨q1a, q1b⟩ ⟨q2a, q2b⟩ ⟨q3a, q3b⟩ ⟨q4a, q4b⟩ ⟨q5a, q5b⟩ ?_
    subst hb
    have : (x + y) % Mp = x + y - Mp := by
      rw [← Int.sub_emod_right]
      exact Int.emod_eq_of_lt (by omega) (by omega)
    omega
  have FIN := Lib.hid hfin
  obtain ⟨Z, hZ⟩ : ∃ Z, Z = arr6 ((x + y) % Mp) := ⟨_, rfl⟩
  rw [← hZ] at FIN ⊢
  subst hb
  clear hZ hfin hs f e hk hM hMw ex ey hx0 hx hy0 hy hge p0a p0b p0c p0d q0a q0b q0c q0d E0 F0 p1a p1b p1c p1d q1a q1b q1c q1d E1 F1 p2a p2b p2c p2d q2a q2b q2c q2d E2 F2 p3a p3b p3c p3d q3a q3b q3c q3d E3 F3 p4a p4b p4c p4d q4a q4b q4c q4d E4 F4 p5a p5b p5c p5d q5a q5b q5c q5d E5 F5
  conv => arg 3; unfold arr6
  go_enter Tryd.func62, Tryd.ntmps62
  go_wp2_with (first | rw [C0.out] | rw [C1.out] | rw [C2.out] | rw [C3.out] | rw [C4.out] | rw [C5.out] | rw [D0.out] | rw [D1.out] | rw [D2.out] | rw [D3.out] | rw [D4.out] | rw [D5.out])
  refine bodyPost_ret (v := .agg #[.int .u64 d0, .int .u64 d1, .int .u64 d2, .int .u64 d3, .int .u64 d4, .int .u64 d5]) (by simp [results, Tryd.results62, go_sem]) rfl ⟨by rw [FIN.out], ?_⟩
  repeat (first | (with_reducible exact Below.refl _ _) | (with_reducible refine Below.drew ?_) | (with_reducible refine Below.alloc ?_ (by simp; try omega) _))
set_option maxRecDepth 100000 in
set_option maxHeartbeats 4000000 in
theorem fp_add2 (x y : Int) (w : World) (hx0 : 0 ≤ x) (hx : x < Mp) (hy0 : 0 ≤ y) (hy : y < Mp) (hlt : x + y < Mp) :
    Calls Tryd.prog 62 #[arr6 x, arr6 y] w fun e w' => e = .returned (arr6 ((x + y) % Mp)) ∧ Below w.heap.size w w' := by
  have hM := Mp_lo
  have hMw := Mp_words
  have ex := nu6 x hx0 (by omega)
  have ey := nu6 y hy0 (by omega)
  obtain ⟨s0, k0, C0, E0, p0a, p0b, p0c, p0d⟩ := addc_ex (wd x 0) (wd y 0) 0 (wd_lo x 0).1 (wd_lo x 0).2 (wd_lo y 0).1 (wd_lo y 0).2 (by omega) (by omega)
  obtain ⟨s1, k1, C1, E1, p1a, p1b, p1c, p1d⟩ := addc_ex (wd x 1) (wd y 1) k0 (wd_lo x 1).1 (wd_lo x 1).2 (wd_lo y 1).1 (wd_lo y 1).2 p0c p0d
  obtain ⟨s2, k2, C2, E2, p2a, p2b, p2c, p2d⟩ := addc_ex (wd x 2) (wd y 2) k1 (wd_lo x 2).1 (wd_lo x 2).2 (wd_lo y 2).1 (wd_lo y 2).2 p1c p1d
  obtain ⟨s3, k3, C3, E3, p3a, p3b, p3c, p3d⟩ := addc_ex (wd x 3) (wd y 3) k2 (wd_lo x 3).1 (wd_lo x 3).2 (wd_lo y 3).1 (wd_lo y 3).2 p2c p2d
  obtain ⟨s4, k4, C4, E4, p4a, p4b, p4c, p4d⟩ := addc_ex (wd x 4) (wd y 4) k3 (wd_lo x 4).1 (wd_lo x 4).2 (wd_lo y 4).1 (wd_lo y 4).2 p3c p3d
  obtain ⟨s5, k5, C5, E5, p5a, p5b, p5c, p5d⟩ := addc_ex (wd x 5) (wd y 5) k4 (wd_lo x 5).1 (wd_lo x 5).2 (wd_lo y 5).1 (wd_lo y 5).2 p4c p4d
  obtain ⟨d0, b0, D0, F0, q0a, q0b, q0c, q0d⟩ := subc_ex s0 13402431016077863595 0 p0a p0b (by omega) (by simp [Wd]) (by omega) (by omega)
  obtain ⟨d1, b1, D1, F1, q1a, q1b, q1c, q1d⟩ := subc_ex s1 2210141511517208575 b0 p1a p1b (by omega) (by simp [Wd]) q0c q0d
  obtain ⟨d2, b2, D2, F2, q2a, q2b, q2c, q2d⟩ := subc_ex s2 7435674573564081700 b1 p2a p2b (by omega) (by simp [Wd]) q1c q1d
  obtain ⟨d3, b3, D3, F3, q3a, q3b, q3c, q3d⟩ := subc_ex s3 7239337960414712511 b2 p3a p3b (by omega) (by simp [Wd]) q2c q2d
  obtain ⟨d4, b4, D4, F4, q4a, q4b, q4c, q4d⟩ := subc_ex s4 5412103778470702295 b3 p4a p4b (by omega) (by simp [Wd]) q3c q3d
  obtain ⟨d5, b5, D5, F5, q5a, q5b, q5c, q5d⟩ := subc_ex s5 1873798617647539866 b4 p5a p5b (by omega) (by simp [Wd]) q4c q4d
  have e := add6 _ _ _ _ _ _ _ _ _ _ _ _ _ _ _ _ _ _ _ _ _ _ _ _ 0 E0.out E1.out E2.out E3.out E4.out E5.out
  rw [← ex, ← ey, Int.add_zero] at e
  have hk : k5 = 0 := by
    rcases (by omega : k5 = 0 ∨ k5 = 1) with h | h
    · exact h
    · subst h
      unfold Wd at *
      omega
  have f := sub6 _ _ _ _ _ _ _ _ _ _ _ _ _ _ _ _ _ _ _ _ _ _ _ _ F0.out F1.out F2.out F3.out F4.out F5.out
  rw [← hMw] at f
  have hs : s0 + Wd * (s1 + Wd * (s2 + Wd * (s3 + Wd * (s4 + Wd * (s5))))) = x + y := by subst hk; omega
  rw [hs] at f
  have hb : b5 = 1 := by
    unfold Wd at *
    omega
  have hfin : (.agg #[.int .u64 s0, .int .u64 s1, .int .u64 s2, .int .u64 s3, .int .u64 s4, .int .u64 s5] : Value) = arr6 ((x + y) % Mp) := by
    refine arr6_of s0 s1 s2 s3 s4 s5 _ ⟨p0a, p0b⟩ ⟨p1a, p1b⟩ ⟨p2a, p2b⟩ ⟨p3a, p3b⟩ ⟨p4a, p4b⟩ ⟨p5a, p5b⟩ ?_
    rw [hs, Int.emod_eq_of_lt (by omega) hlt]
  have FIN := Lib.hid hfin
  obtain ⟨Z, hZ⟩ : ∃ Z, Z = arr6 ((x + y) % Mp) := ⟨_, rfl⟩
  rw [← hZ] at FIN ⊢
  subst hb
  clear hZ hfin hs f e hk hM hMw ex ey hx0 hx hy0 hy hlt p0a p0b p0c p0d q0a q0b q0c q0d E0 F0 p1a p1b p1c p1d q1a q1b q1c q1d E1 F1 p2a p2b p2c p2d q2a q2b q2c q2d E2 F2 p3a p3b p3c p3d q3a q3b q3c q3d E3 F3 p4a p4b p4c p4d q4a q4b q4c q4d E4 F4 p5a p5b p5c p5d q5a q5b q5c q5d E5 F5
  conv => arg 3; unfold arr6
  go_enter Tryd.func62, Tryd.ntmps62
  go_wp2_with (first | rw [C0.out] | rw [C1.out] | rw [C2.out] | rw [C3.out] | rw [C4.out] | rw [C5.out] | rw [D0.out] | rw [D1.out] | rw [D2.out] | rw [D3.out] | rw [D4.out] | rw [D5.out])
  refine bodyPost_ret (v := .agg #[.int .u64 s0, .int .u64 s1, .int .u64 s2, .int .u64 s3, .int .u64 s4, .int .u64 s5]) (by simp [results, Tryd.results62, go_sem]) rfl ⟨by rw [FIN.out], ?_⟩
  repeat (first | (with_reducible exact Below.refl _ _) | (with_reducible refine Below.drew ?_) | (with_reducible refine Below.alloc ?_ (by simp; try omega) _))
theorem fp_add0 (x y : Int) (w : World) (hx0 : 0 ≤ x) (hx : x < Mp) (hy0 : 0 ≤ y) (hy : y < Mp) :
    Calls Tryd.prog 62 #[arr6 x, arr6 y] w fun e w' => e = .returned (arr6 ((x + y) % Mp)) ∧ Below w.heap.size w w' := by
  rcases Int.lt_or_le (x + y) Mp with h | h
  · exact fp_add2 x y w hx0 hx hy0 hy h
  · exact fp_add1 x y w hx0 hx hy0 hy h
end Go.Proofs.YtgkfkfodeooogaaDoor

/-! ## FpM -/
namespace Go.Proofs.YtgkfkfodeooogaaDoor
open Go.RowKit
/-- What R times is 1. -/
def Rip : Int := 3231460744492646417066832100176244795738767926513225105051837195607029917124509527734802654356338138714468589979680
theorem Rip_ok : Wd ^ 6 * Rip % Mp = 1 := by decide +kernel
set_option maxHeartbeats 4000000 in
/-- One word of a product: the numbers. -/
theorem mont6 (M v y s t z z5 : Int) (y0 m0 s0 H0 L0 c0 a0 P0 Q0 e0 y1 m1 s1 H1 L1 c1 a1 P1 Q1 e1 y2 m2 s2 H2 L2 c2 a2 P2 Q2 e2 y3 m3 s3 H3 L3 c3 a3 P3 Q3 e3 y4 m4 s4 H4 L4 c4 a4 P4 Q4 e4 y5 m5 s5 H5 L5 c5 a5 P5 Q5 e5 b1 d1 b2 d2 b3 d3 b4 d4 b5 d5 f0 g0 k0 f1 g1 k1 f2 g2 k2 f3 g3 k3 f4 g4 k4 : Int)
    (hy : y = y0 + Wd * (y1 + Wd * (y2 + Wd * (y3 + Wd * (y4 + Wd * (y5)))))) (hm : M = m0 + Wd * (m1 + Wd * (m2 + Wd * (m3 + Wd * (m4 + Wd * (m5)))))) (hs : s = s0 + Wd * (s1 + Wd * (s2 + Wd * (s3 + Wd * (s4 + Wd * (s5))))))
    (hA0 : Wd * H0 + L0 = v * y0) (hA1 : Wd * H1 + L1 = v * y1) (hA2 : Wd * H2 + L2 = v * y2) (hA3 : Wd * H3 + L3 = v * y3) (hA4 : Wd * H4 + L4 = v * y4) (hA5 : Wd * H5 + L5 = v * y5) (hB0 : a0 + Wd * c0 = s0 + L0 + 0) (hB1 : a1 + Wd * c1 = s1 + L1 + c0) (hB2 : a2 + Wd * c2 = s2 + L2 + c1) (hB3 : a3 + Wd * c3 = s3 + L3 + c2) (hB4 : a4 + Wd * c4 = s4 + L4 + c3) (hB5 : a5 + Wd * c5 = s5 + L5 + c4) (hD1 : b1 + Wd * d1 = a1 + H0 + 0) (hD2 : b2 + Wd * d2 = a2 + H1 + d1) (hD3 : b3 + Wd * d3 = a3 + H2 + d2) (hD4 : b4 + Wd * d4 = a4 + H3 + d3) (hD5 : b5 + Wd * d5 = a5 + H4 + d4) (hP0 : Wd * P0 + Q0 = t * m0) (hP1 : Wd * P1 + Q1 = t * m1) (hP2 : Wd * P2 + Q2 = t * m2) (hP3 : Wd * P3 + Q3 = t * m3) (hP4 : Wd * P4 + Q4 = t * m4) (hP5 : Wd * P5 + Q5 = t * m5) (hE : z + Wd * e0 = a0 + Q0 + 0) (hz : z = 0) (hF0 : f0 + Wd * e1 = b1 + Q1 + e0) (hF1 : f1 + Wd * e2 = b2 + Q2 + e1) (hF2 : f2 + Wd * e3 = b3 + Q3 + e2) (hF3 : f3 + Wd * e4 = b4 + Q4 + e3) (hF4 : f4 + Wd * e5 = b5 + Q5 + e4) (hG0 : g0 + Wd * k0 = f0 + P0 + 0) (hG1 : g1 + Wd * k1 = f1 + P1 + k0) (hG2 : g2 + Wd * k2 = f2 + P2 + k1) (hG3 : g3 + Wd * k3 = f3 + P3 + k2) (hG4 : g4 + Wd * k4 = f4 + P4 + k3) (h5 : z5 = H5 + c5 + d5 + e5 + (P5 + k4)) :
    (g0 + Wd * (g1 + Wd * (g2 + Wd * (g3 + Wd * (g4 + Wd * (z5)))))) * Wd = s + v * y + t * M := by
  subst hy hm hs hz h5
  obtain rfl : L0 = v * y0 - Wd * H0 := by omega
  obtain rfl : Q0 = t * m0 - Wd * P0 := by omega
  obtain rfl : L1 = v * y1 - Wd * H1 := by omega
  obtain rfl : Q1 = t * m1 - Wd * P1 := by omega
  obtain rfl : L2 = v * y2 - Wd * H2 := by omega
  obtain rfl : Q2 = t * m2 - Wd * P2 := by omega
  obtain rfl : L3 = v * y3 - Wd * H3 := by omega
  obtain rfl : Q3 = t * m3 - Wd * P3 := by omega
  obtain rfl : L4 = v * y4 - Wd * H4 := by omega
  obtain rfl : Q4 = t * m4 - Wd * P4 := by omega
  obtain rfl : L5 = v * y5 - Wd * H5 := by omega
  obtain rfl : Q5 = t * m5 - Wd * P5 := by omega
  obtain rfl : f0 = g0 + Wd * k0 - P0 - 0 := by omega
  obtain rfl : f1 = g1 + Wd * k1 - P1 - k0 := by omega
  obtain rfl : f2 = g2 + Wd * k2 - P2 - k1 := by omega
  obtain rfl : f3 = g3 + Wd * k3 - P3 - k2 := by omega
  obtain rfl : f4 = g4 + Wd * k4 - P4 - k3 := by omega
  obtain rfl : b1 = ((g0 + Wd * k0 - P0 - 0) + Wd * e1 - (t * m1 - Wd * P1) - e0) := by omega
  obtain rfl : b2 = ((g1 + Wd * k1 - P1 - k0) + Wd * e2 - (t * m2 - Wd * P2) - e1) := by omega
  obtain rfl : b3 = ((g2 + Wd * k2 - P2 - k1) + Wd * e3 - (t * m3 - Wd * P3) - e2) := by omega
  obtain rfl : b4 = ((g3 + Wd * k3 - P3 - k2) + Wd * e4 - (t * m4 - Wd * P4) - e3) := by omega
  obtain rfl : b5 = ((g4 + Wd * k4 - P4 - k3) + Wd * e5 - (t * m5 - Wd * P5) - e4) := by omega
  obtain rfl : a0 = (Wd * e0 - (t * m0 - Wd * P0)) := by omega
  obtain rfl : a1 = (((g0 + Wd * k0 - P0 - 0) + Wd * e1 - (t * m1 - Wd * P1) - e0) + Wd * d1 - H0 - 0) := by omega
  obtain rfl : a2 = (((g1 + Wd * k1 - P1 - k0) + Wd * e2 - (t * m2 - Wd * P2) - e1) + Wd * d2 - H1 - d1) := by omega
  obtain rfl : a3 = (((g2 + Wd * k2 - P2 - k1) + Wd * e3 - (t * m3 - Wd * P3) - e2) + Wd * d3 - H2 - d2) := by omega
  obtain rfl : a4 = (((g3 + Wd * k3 - P3 - k2) + Wd * e4 - (t * m4 - Wd * P4) - e3) + Wd * d4 - H3 - d3) := by omega
  obtain rfl : a5 = (((g4 + Wd * k4 - P4 - k3) + Wd * e5 - (t * m5 - Wd * P5) - e4) + Wd * d5 - H4 - d4) := by omega
  obtain rfl : s0 = (Wd * e0 - (t * m0 - Wd * P0)) + Wd * c0 - (v * y0 - Wd * H0) - 0 := by omega
  obtain rfl : s1 = (((g0 + Wd * k0 - P0 - 0) + Wd * e1 - (t * m1 - Wd * P1) - e0) + Wd * d1 - H0 - 0) + Wd * c1 - (v * y1 - Wd * H1) - c0 := by omega
  obtain rfl : s2 = (((g1 + Wd * k1 - P1 - k0) + Wd * e2 - (t * m2 - Wd * P2) - e1) + Wd * d2 - H1 - d1) + Wd * c2 - (v * y2 - Wd * H2) - c1 := by omega
  obtain rfl : s3 = (((g2 + Wd * k2 - P2 - k1) + Wd * e3 - (t * m3 - Wd * P3) - e2) + Wd * d3 - H2 - d2) + Wd * c3 - (v * y3 - Wd * H3) - c2 := by omega
  obtain rfl : s4 = (((g3 + Wd * k3 - P3 - k2) + Wd * e4 - (t * m4 - Wd * P4) - e3) + Wd * d4 - H3 - d3) + Wd * c4 - (v * y4 - Wd * H4) - c3 := by omega
  obtain rfl : s5 = (((g4 + Wd * k4 - P4 - k3) + Wd * e5 - (t * m5 - Wd * P5) - e4) + Wd * d5 - H4 - d4) + Wd * c5 - (v * y5 - Wd * H5) - c4 := by omega
  clear hA0 hB0 hP0 hA1 hB1 hP1 hA2 hB2 hP2 hA3 hB3 hP3 hA4 hB4 hP4 hA5 hB5 hP5 hD1 hD2 hD3 hD4 hD5 hE hF0 hG0 hF1 hG1 hF2 hG2 hF3 hG3 hF4 hG4
  grind
theorem low_noughtP (t l c d : Int) (ht : t = loW (l * 9940570264628428797)) (q : Int) (hq : q = 13402431016077863595) (hl h1 : Int) (hm : Wd * h1 + hl = t * q) (h : d + Wd * c = l + hl + 0) (d0 : 0 ≤ d) (d1 : d < Wd) : d = 0 := by
  subst hq
  unfold loW at ht
  have h2 := Int.mul_ediv_add_emod (l * 9940570264628428797) Wd
  unfold Wd at *
  omega
theorem idx6_0 (a0 a1 a2 a3 a4 a5 : Int) (u : World) : (Instr.index 55 (.agg #[.int .u64 a0, .int .u64 a1, .int .u64 a2, .int .u64 a3, .int .u64 a4, .int .u64 a5]) (.int .i64 0)).run Tryd.prog u = .ok (.int .u64 a0) u := by kernel_rfl
theorem idx6_1 (a0 a1 a2 a3 a4 a5 : Int) (u : World) : (Instr.index 55 (.agg #[.int .u64 a0, .int .u64 a1, .int .u64 a2, .int .u64 a3, .int .u64 a4, .int .u64 a5]) (.int .i64 1)).run Tryd.prog u = .ok (.int .u64 a1) u := by kernel_rfl
theorem idx6_2 (a0 a1 a2 a3 a4 a5 : Int) (u : World) : (Instr.index 55 (.agg #[.int .u64 a0, .int .u64 a1, .int .u64 a2, .int .u64 a3, .int .u64 a4, .int .u64 a5]) (.int .i64 2)).run Tryd.prog u = .ok (.int .u64 a2) u := by kernel_rfl
theorem idx6_3 (a0 a1 a2 a3 a4 a5 : Int) (u : World) : (Instr.index 55 (.agg #[.int .u64 a0, .int .u64 a1, .int .u64 a2, .int .u64 a3, .int .u64 a4, .int .u64 a5]) (.int .i64 3)).run Tryd.prog u = .ok (.int .u64 a3) u := by kernel_rfl
theorem idx6_4 (a0 a1 a2 a3 a4 a5 : Int) (u : World) : (Instr.index 55 (.agg #[.int .u64 a0, .int .u64 a1, .int .u64 a2, .int .u64 a3, .int .u64 a4, .int .u64 a5]) (.int .i64 4)).run Tryd.prog u = .ok (.int .u64 a4) u := by kernel_rfl
theorem idx6_5 (a0 a1 a2 a3 a4 a5 : Int) (u : World) : (Instr.index 55 (.agg #[.int .u64 a0, .int .u64 a1, .int .u64 a2, .int .u64 a3, .int .u64 a4, .int .u64 a5]) (.int .i64 5)).run Tryd.prog u = .ok (.int .u64 a5) u := by kernel_rfl
theorem xk6 (x : Int) (h0 : 0 ≤ x) (h : x < Wd ^ 6) : xk x 6 = x := by
  have := nu6 x h0 h
  simp only [xk]
  grind
/-- The sum behind k words. -/
structure MRp (x y : Int) (k : Nat) (s0 s1 s2 s3 s4 s5 : Int) : Prop where
  b0 : 0 ≤ s0 ∧ s0 < Wd
  b1 : 0 ≤ s1 ∧ s1 < Wd
  b2 : 0 ≤ s2 ∧ s2 < Wd
  b3 : 0 ≤ s3 ∧ s3 < Wd
  b4 : 0 ≤ s4 ∧ s4 < Wd
  b5 : 0 ≤ s5 ∧ s5 < Wd
  lo : 0 ≤ s0 + Wd * (s1 + Wd * (s2 + Wd * (s3 + Wd * (s4 + Wd * (s5))))) ∧ s0 + Wd * (s1 + Wd * (s2 + Wd * (s3 + Wd * (s4 + Wd * (s5))))) < 2 * Mp
  dv : Mp ∣ (s0 + Wd * (s1 + Wd * (s2 + Wd * (s3 + Wd * (s4 + Wd * (s5)))))) * Wd ^ k - xk x k * y
theorem MRp.zero (x y : Int) : MRp x y 0 0 0 0 0 0 0 := by
  have := wd_pos
  refine ⟨⟨by omega, this⟩, ⟨by omega, this⟩, ⟨by omega, this⟩, ⟨by omega, this⟩, ⟨by omega, this⟩, ⟨by omega, this⟩, ?_, ?_⟩
  · simp [Mp]
  · simp [xk]
theorem MRp.step (x y : Int) (k : Nat) (s0 s1 s2 s3 s4 s5 g0 g1 g2 g3 g4 z5 t : Int) (h : MRp x y k s0 s1 s2 s3 s4 s5) (hy0 : 0 ≤ y) (hy : y < Mp) (ht : 0 ≤ t ∧ t < Wd) (q0 : 0 ≤ g0 ∧ g0 < Wd) (q1 : 0 ≤ g1 ∧ g1 < Wd) (q2 : 0 ≤ g2 ∧ g2 < Wd) (q3 : 0 ≤ g3 ∧ g3 < Wd) (q4 : 0 ≤ g4 ∧ g4 < Wd) (hz : 0 ≤ z5)
    (he : (g0 + Wd * (g1 + Wd * (g2 + Wd * (g3 + Wd * (g4 + Wd * (z5)))))) * Wd = s0 + Wd * (s1 + Wd * (s2 + Wd * (s3 + Wd * (s4 + Wd * (s5))))) + wd x k * y + t * Mp) : MRp x y (k + 1) g0 g1 g2 g3 g4 z5 ∧ z5 < Wd := by
  have hb := mont_bound Mp Wd _ (wd x k) y t _ wd_pos h.lo.1 h.lo.2 (wd_lo x k).1 (wd_lo x k).2 hy0 hy ht.1 ht.2 he
  have hz2 : z5 < Wd := by
    have h2 := hb.2
    unfold Wd Mp at *
    omega
  refine ⟨⟨q0, q1, q2, q3, q4, ⟨hz, hz2⟩, hb, ?_⟩, hz2⟩
  rw [Int.pow_succ]
  exact dvd_round _ _ _ _ _ _ _ _ _ h.dv he
end Go.Proofs.YtgkfkfodeooogaaDoor

/-! ## FpE -/
namespace Go.Proofs.YtgkfkfodeooogaaDoor
open Go.RowKit
end Go.Proofs.YtgkfkfodeooogaaDoor

/-! ## FpF -/
namespace Go.Proofs.YtgkfkfodeooogaaDoor
open Go.RowKit
/-- The element of a number. -/
def pv (x : Int) : Value := arr6 (fe Mp (Wd ^ 6) x)
theorem pe_in (x : Int) : 0 ≤ fe Mp (Wd ^ 6) x ∧ fe Mp (Wd ^ 6) x < Mp := fe_lo Mp_lo.1 x
theorem pv_cast {x y : Int} (h : x % Mp = y % Mp) : pv x = pv y := by unfold pv; rw [(fe_inj Rip_ok).2 h]
structure GSqp (w : World) : Prop where
  c0 : w.cell? ⟨3, 0, none⟩ = some (.int .u64 (wd (fe Mp (Wd ^ 6) (Wd ^ 6)) 0))
  c1 : w.cell? ⟨3, 1, none⟩ = some (.int .u64 (wd (fe Mp (Wd ^ 6) (Wd ^ 6)) 1))
  c2 : w.cell? ⟨3, 2, none⟩ = some (.int .u64 (wd (fe Mp (Wd ^ 6) (Wd ^ 6)) 2))
  c3 : w.cell? ⟨3, 3, none⟩ = some (.int .u64 (wd (fe Mp (Wd ^ 6) (Wd ^ 6)) 3))
  c4 : w.cell? ⟨3, 4, none⟩ = some (.int .u64 (wd (fe Mp (Wd ^ 6) (Wd ^ 6)) 4))
  c5 : w.cell? ⟨3, 5, none⟩ = some (.int .u64 (wd (fe Mp (Wd ^ 6) (Wd ^ 6)) 5))
theorem GSqp.keep {w w' : World} (h : GSqp w) (hb : Below w.heap.size w w') : GSqp w' := by
  have hl := World.block_lt_of_cell? w _ h.c0
  exact ⟨(hb.cell (p := ⟨_, 0, none⟩) hl).trans h.c0, (hb.cell (p := ⟨_, 1, none⟩) hl).trans h.c1, (hb.cell (p := ⟨_, 2, none⟩) hl).trans h.c2, (hb.cell (p := ⟨_, 3, none⟩) hl).trans h.c3, (hb.cell (p := ⟨_, 4, none⟩) hl).trans h.c4, (hb.cell (p := ⟨_, 5, none⟩) hl).trans h.c5⟩
theorem pe_zero : fe Mp (Wd ^ 6) 0 = 0 := by simp [fe]
theorem pe_eq_zero (x : Int) : fe Mp (Wd ^ 6) x = 0 ↔ x % Mp = 0 := by
  have h := fe_inj (M := Mp) Rip_ok (x := x) (y := 0)
  rw [pe_zero] at h
  simpa using h
theorem pv_eq (x y : Int) (w : World) : (Op.equalIn 9999 55 (pv x) (pv y)).run Tryd.prog w = .ok (decide (x % Mp = y % Mp)) w := by
  have hM := Mp_lo
  unfold pv
  rw [arr6_eq _ _ (pe_in x).1 (by have := (pe_in x).2; omega) (pe_in y).1 (by have := (pe_in y).2; omega)]
  rw [decide_eq_decide.2 (fe_inj Rip_ok)]
theorem arr6_small (n : Int) (h0 : 0 ≤ n) (h : n < Wd) : (.agg #[.int .u64 n, .int .u64 0, .int .u64 0, .int .u64 0, .int .u64 0, .int .u64 0] : Value) = arr6 n :=
  arr6_of n 0 0 0 0 0 n ⟨h0, h⟩ ⟨by omega, wd_pos⟩ ⟨by omega, wd_pos⟩ ⟨by omega, wd_pos⟩ ⟨by omega, wd_pos⟩ ⟨by omega, wd_pos⟩ (by omega)
end Go.Proofs.YtgkfkfodeooogaaDoor

/-! ## FpG -/
namespace Go.Proofs.YtgkfkfodeooogaaDoor
open Go.RowKit
set_option maxRecDepth 100000 in
set_option maxHeartbeats 1000000 in
theorem fp_number (w : World) (B : Nat) (A : Option Addr) (n c : Nat) (bs : List Int) (hr : Reads w B A n (bs.map (Value.int .u8))) (ho : Oct bs) (hn : n ≤ 8) :
    Calls Tryd.prog 63 #[.slice A n c] w fun e w' => e = .returned (.int .u64 (num bs)) ∧ w = w' := by
  have hl : bs.length = n := by simpa using hr.1
  have HL := Lib.hid hl
  have HR := Lib.hid hr
  clear hr hl
  go_enter Tryd.func63, Tryd.ntmps63
  go_wp2_with fail
  go_loop [3, 5, 8] (fun a _ i => ∃ k : Nat, k ≤ n ∧ i = .int .i64 k ∧ a = .int .u64 (num (bs.take k))) (fun _ _ i => n - (intOf i).toNat)
  case atStart => exact ⟨0, Nat.zero_le _, rfl, rfl⟩
  case round =>
    obtain ⟨k, hk, rfl, rfl⟩ := hrel
    by_cases hlt : k < n
    · obtain ⟨b0, o0, rfl, _, hc⟩ := reads_cell HR.out hlt
      have e := take_snoc bs k (by rw [HL.out]; exact hlt)
      have ha := num_lt (bs.take k) (ho.take k)
      have hb := ho.at_ k
      have hp : (256 : Int) ^ (bs.take k).length ≤ 256 ^ 7 := by
        have : (bs.take k).length ≤ 7 := by simp; omega
        exact_mod_cast Nat.pow_le_pow_right (n := 256) (by omega) this
      obtain ⟨a, hA⟩ : ∃ a, a = num (bs.take k) := ⟨_, rfl⟩
      obtain ⟨b, hB⟩ : ∃ b, b = gt bs k := ⟨_, rfl⟩
      rw [← hB] at e hc hb
      have hs : num (bs.take (k + 1)) = a * 256 + b := by rw [e, num_snoc, hA]
      rw [← hA] at ha ⊢
      have ha9 : a * 256 < 18446744073709551616 := by omega
      have hor := or_shift a b ha.1 ha9 hb.1 hb.2
      have HO := Lib.hid hor
      have HS := Lib.hid hs
      have a1 := ha.1
      have i1 : (k : Int) < n := by omega
      have hwr : IntKind.u64.wrap (a * 256) = a * 256 := by rw [wrapU]; exact loW_of (by omega) (by unfold Wd; omega)
      have hwb : IntKind.u64.wrap b = b := by rw [wrapU]; exact loW_of hb.1 (by unfold Wd; omega)
      clear hor hs ha hb hp ha9 e hA hB
      go_wp2_with fail
      exact ⟨⟨k + 1, by omega, by go_num, by rw [HO.out, HS.out]⟩, by simp [intOf]; omega⟩
    · obtain rfl : k = n := by omega
      have hf : bs.take k = bs := List.take_of_length_le (by rw [HL.out]; omega)
      rw [hf]
      clear hf
      have i1 : ¬ ((k : Int) < k) := by omega
      go_wp2_with fail
      go_ret
      exact ⟨rfl, rfl⟩
end Go.Proofs.YtgkfkfodeooogaaDoor

/-! ## FpI -/
namespace Go.Proofs.YtgkfkfodeooogaaDoor
open Go.RowKit
/-- The world in a power's rounds. -/
structure PWp (w wr : World) (gy : Nat) (x e y : Int) : Prop where
  be : Below w.heap.size w wr
  bx : Blk wr w.heap.size 57 #[.int .u64 (wd x 0), .int .u64 (wd x 1), .int .u64 (wd x 2), .int .u64 (wd x 3), .int .u64 (wd x 4), .int .u64 (wd x 5)]
  bE : Blk wr (w.heap.size + 1) 55 #[.int .u64 (wd e 0), .int .u64 (wd e 1), .int .u64 (wd e 2), .int .u64 (wd e 3), .int .u64 (wd e 4), .int .u64 (wd e 5)]
  br : Blk wr (w.heap.size + 1 + 1) 57 #[.int .u64 0, .int .u64 0, .int .u64 0, .int .u64 0, .int .u64 0, .int .u64 0]
  by_ : Blk wr gy 57 #[.int .u64 (wd y 0), .int .u64 (wd y 1), .int .u64 (wd y 2), .int .u64 (wd y 3), .int .u64 (wd y 4), .int .u64 (wd y 5)]
  hy : w.heap.size + 1 + 1 < gy
theorem PWp.keep {w wr w' : World} {gy : Nat} {x e y : Int} (h : PWp w wr gy x e y) (hb : Below wr.heap.size wr w') : PWp w w' gy x e y :=
  ⟨h.be.trans (hb.mono h.be.size), h.bx.keep hb, h.bE.keep hb, h.br.keep hb, h.by_.keep hb, h.hy⟩
theorem PWp.set_ {w wr : World} {gy : Nat} {x e y : Int} (h : PWp w wr gy x e y) (z : Int) :
    PWp w ((((((wr.setCell ⟨gy, 0, none⟩ (.int .u64 (wd z 0))).setCell ⟨gy, 1, none⟩ (.int .u64 (wd z 1))).setCell ⟨gy, 2, none⟩ (.int .u64 (wd z 2))).setCell ⟨gy, 3, none⟩ (.int .u64 (wd z 3))).setCell ⟨gy, 4, none⟩ (.int .u64 (wd z 4))).setCell ⟨gy, 5, none⟩ (.int .u64 (wd z 5))) gy x e z := by
  have hy := h.hy
  exact ⟨((((((h.be.setCell (by simp; omega) _).setCell (by simp; omega) _).setCell (by simp; omega) _).setCell (by simp; omega) _).setCell (by simp; omega) _).setCell (by simp; omega) _),
    ((((((h.bx.far (by simp; omega) _).far (by simp; omega) _).far (by simp; omega) _).far (by simp; omega) _).far (by simp; omega) _).far (by simp; omega) _),
    ((((((h.bE.far (by simp; omega) _).far (by simp; omega) _).far (by simp; omega) _).far (by simp; omega) _).far (by simp; omega) _).far (by simp; omega) _),
    ((((((h.br.far (by simp; omega) _).far (by simp; omega) _).far (by simp; omega) _).far (by simp; omega) _).far (by simp; omega) _).far (by simp; omega) _),
    ((((((h.by_.set_ 0 _).set_ 1 _).set_ 2 _).set_ 3 _).set_ 4 _).set_ 5 _), hy⟩
theorem PWp.cells {w wr : World} {gy : Nat} {x e y : Int} (h : PWp w wr gy x e y) :
    (wr.cell? ⟨gy, 0, none⟩ = some (.int .u64 (wd y 0)) ∧ wr.cell? ⟨gy, 1, none⟩ = some (.int .u64 (wd y 1)) ∧ wr.cell? ⟨gy, 2, none⟩ = some (.int .u64 (wd y 2)) ∧ wr.cell? ⟨gy, 3, none⟩ = some (.int .u64 (wd y 3)) ∧ wr.cell? ⟨gy, 4, none⟩ = some (.int .u64 (wd y 4)) ∧ wr.cell? ⟨gy, 5, none⟩ = some (.int .u64 (wd y 5)) ∧
    wr.frozen? ⟨gy, 0, none⟩ = false ∧ wr.frozen? ⟨gy, 1, none⟩ = false ∧ wr.frozen? ⟨gy, 2, none⟩ = false ∧ wr.frozen? ⟨gy, 3, none⟩ = false ∧ wr.frozen? ⟨gy, 4, none⟩ = false ∧ wr.frozen? ⟨gy, 5, none⟩ = false) ∧
    wr.cell? ⟨w.heap.size, 0, none⟩ = some (.int .u64 (wd x 0)) ∧ wr.cell? ⟨w.heap.size, 1, none⟩ = some (.int .u64 (wd x 1)) ∧ wr.cell? ⟨w.heap.size, 2, none⟩ = some (.int .u64 (wd x 2)) ∧ wr.cell? ⟨w.heap.size, 3, none⟩ = some (.int .u64 (wd x 3)) ∧ wr.cell? ⟨w.heap.size, 4, none⟩ = some (.int .u64 (wd x 4)) ∧ wr.cell? ⟨w.heap.size, 5, none⟩ = some (.int .u64 (wd x 5)) :=
  ⟨⟨h.by_.at_ rfl, h.by_.at_ rfl, h.by_.at_ rfl, h.by_.at_ rfl, h.by_.at_ rfl, h.by_.at_ rfl, h.by_.frozen 0, h.by_.frozen 1, h.by_.frozen 2, h.by_.frozen 3, h.by_.frozen 4, h.by_.frozen 5⟩, h.bx.at_ rfl, h.bx.at_ rfl, h.bx.at_ rfl, h.bx.at_ rfl, h.bx.at_ rfl, h.bx.at_ rfl⟩
theorem PWp.word {w wr : World} {gy : Nat} {x e y : Int} (h : PWp w wr gy x e y) (k : Nat) (hk : k < 6) : wr.cell? ⟨w.heap.size + 1, k, none⟩ = some (.int .u64 (wd e k)) := by
  match k, hk with
  | 0, _ => exact h.bE.at_ rfl
  | 1, _ => exact h.bE.at_ rfl
  | 2, _ => exact h.bE.at_ rfl
  | 3, _ => exact h.bE.at_ rfl
  | 4, _ => exact h.bE.at_ rfl
  | 5, _ => exact h.bE.at_ rfl
end Go.Proofs.YtgkfkfodeooogaaDoor

/-! ## FpJ -/
namespace Go.Proofs.YtgkfkfodeooogaaDoor
open Go.RowKit
/-- The exponent of the inverse. -/
def Ep : Nat := 4002409555221667393417789825735904156556882819939007885332058136124031650490837864442687629129015664037894272559785
theorem Ep_agg : (.agg #[.int .u64 (IntKind.u64.wrap (wd Mp 0 - 2)), .int .u64 (wd Mp 1), .int .u64 (wd Mp 2), .int .u64 (wd Mp 3), .int .u64 (wd Mp 4), .int .u64 (wd Mp 5)] : Value) = arr6 (Ep : Int) := by
  have h0 : IntKind.u64.wrap (wd Mp 0 - 2) = wd (Ep : Int) 0 := by decide +kernel
  have h1 : wd Mp 1 = wd (Ep : Int) 1 := by decide +kernel
  have h2 : wd Mp 2 = wd (Ep : Int) 2 := by decide +kernel
  have h3 : wd Mp 3 = wd (Ep : Int) 3 := by decide +kernel
  have h4 : wd Mp 4 = wd (Ep : Int) 4 := by decide +kernel
  have h5 : wd Mp 5 = wd (Ep : Int) 5 := by decide +kernel
  unfold arr6
  rw [h0, h1, h2, h3, h4, h5]
end Go.Proofs.YtgkfkfodeooogaaDoor

/-! ## FpK -/
namespace Go.Proofs.YtgkfkfodeooogaaDoor
open Go.RowKit
theorem word6_at {w : World} {g : Nat} {t : TypeId} {n : Int} (h : Blk w g t #[.int .u64 (wd n 0), .int .u64 (wd n 1), .int .u64 (wd n 2), .int .u64 (wd n 3), .int .u64 (wd n 4), .int .u64 (wd n 5)]) (k : Nat) (hk : k < 6) : w.cell? ⟨g, k, none⟩ = some (.int .u64 (wd n k)) := by
  match k, hk with
  | 0, _ => exact h.at_ rfl
  | 1, _ => exact h.at_ rfl
  | 2, _ => exact h.at_ rfl
  | 3, _ => exact h.at_ rfl
  | 4, _ => exact h.at_ rfl
  | 5, _ => exact h.at_ rfl
/-- The world in Bytes' rounds. -/
structure BWp (w wr : World) (g4 : Nat) (n : Int) (Z : Array Value) (k : Nat) : Prop where
  be : Below w.heap.size w wr
  br : Blk wr (w.heap.size + 1) 53 Z
  bb : Blk wr (w.heap.size + 1 + 1) 53 (ag8 (List.replicate (48 - k) 0 ++ lo n k))
  b4 : Blk wr g4 55 #[.int .u64 (wd n 0), .int .u64 (wd n 1), .int .u64 (wd n 2), .int .u64 (wd n 3), .int .u64 (wd n 4), .int .u64 (wd n 5)]
  h4 : w.heap.size + 1 + 1 < g4
theorem BWp.step {w wr : World} {g4 : Nat} {n : Int} {Z : Array Value} {k : Nat} (h : BWp w wr g4 n Z k) (hk : k < 48) : BWp w (wr.setCell ⟨w.heap.size + 1 + 1, 47 - k, none⟩ (.int .u8 (n / 256 ^ k % 256))) g4 n Z (k + 1) :=
  ⟨h.be.setCell (by simp; omega) _, h.br.far (by simp) _, (h.bb.set_ _ _).cast (by rw [ag8_set, show 47 - k = 48 - 1 - k by omega, set_lo n 48 k hk]), h.b4.far (by have := h.h4; simp; omega) _, h.h4⟩
theorem zero71 (w : World) : (zeroValue 53).run Tryd.prog w = .ok (.agg (ag8 (List.replicate 48 0))) w := by kernel_rfl
end Go.Proofs.YtgkfkfodeooogaaDoor

/-! ## FpH -/
namespace Go.Proofs.YtgkfkfodeooogaaDoor
open Go.RowKit
structure GShp (w : World) : Prop where
  c0 : w.cell? ⟨2, 0, none⟩ = some (.int .u64 (wd (fe Mp (Wd ^ 6) Wd) 0))
  c1 : w.cell? ⟨2, 1, none⟩ = some (.int .u64 (wd (fe Mp (Wd ^ 6) Wd) 1))
  c2 : w.cell? ⟨2, 2, none⟩ = some (.int .u64 (wd (fe Mp (Wd ^ 6) Wd) 2))
  c3 : w.cell? ⟨2, 3, none⟩ = some (.int .u64 (wd (fe Mp (Wd ^ 6) Wd) 3))
  c4 : w.cell? ⟨2, 4, none⟩ = some (.int .u64 (wd (fe Mp (Wd ^ 6) Wd) 4))
  c5 : w.cell? ⟨2, 5, none⟩ = some (.int .u64 (wd (fe Mp (Wd ^ 6) Wd) 5))
theorem GShp.keep {w w' : World} (h : GShp w) (hb : Below w.heap.size w w') : GShp w' := by
  have hl := World.block_lt_of_cell? w _ h.c0
  exact ⟨(hb.cell (p := ⟨_, 0, none⟩) hl).trans h.c0, (hb.cell (p := ⟨_, 1, none⟩) hl).trans h.c1, (hb.cell (p := ⟨_, 2, none⟩) hl).trans h.c2, (hb.cell (p := ⟨_, 3, none⟩) hl).trans h.c3, (hb.cell (p := ⟨_, 4, none⟩) hl).trans h.c4, (hb.cell (p := ⟨_, 5, none⟩) hl).trans h.c5⟩
/-- One piece more: all but the first have eight bytes. -/
theorem wide_stepp (bs : List Int) (d q : Nat) (hq : q ≤ 8) (h : d = 0 ∨ q = 8) (hl : d + q ≤ bs.length) :
    ((num (bs.take d) % Mp) * Wd % Mp + num ((bs.drop d).take q)) % Mp = num (bs.take (d + q)) % Mp := by
  rw [List.take_add, num_app, emm, Int.emod_add_emod]
  have e : ((bs.drop d).take q).length = q := by simp; omega
  rw [e]
  rcases h with rfl | rfl
  · simp [num]
  · rfl
/-- The world in Wide's rounds. -/
structure WWp (w wr : World) (t : Int) : Prop where
  be : Below w.heap.size w wr
  br : Blk wr w.heap.size 57 #[.int .u64 0, .int .u64 0, .int .u64 0, .int .u64 0, .int .u64 0, .int .u64 0]
  bt : Blk wr (w.heap.size + 1) 57 #[.int .u64 (wd t 0), .int .u64 (wd t 1), .int .u64 (wd t 2), .int .u64 (wd t 3), .int .u64 (wd t 4), .int .u64 (wd t 5)]
theorem WWp.drewN {w wr : World} {t : Int} (h : WWp w wr t) (n : Nat) : WWp w (wr.drewN n) t := ⟨below_drewN h.be n, h.br.drewN n, h.bt.drewN n⟩
theorem WWp.drew {w wr : World} {t : Int} (h : WWp w wr t) : WWp w wr.drew t := ⟨below_drewN h.be 1, h.br.drew, h.bt.drew⟩
theorem WWp.keep {w wr w' : World} {t : Int} (h : WWp w wr t) (hb : Below wr.heap.size wr w') : WWp w w' t := ⟨h.be.trans (hb.mono h.be.size), h.br.keep hb, h.bt.keep hb⟩
theorem WWp.set_ {w wr : World} {t : Int} (h : WWp w wr t) (a b c d m n : Int) (z : Int) (hz : (.agg #[.int .u64 a, .int .u64 b, .int .u64 c, .int .u64 d, .int .u64 m, .int .u64 n] : Value) = arr6 z) :
    WWp w ((((((wr.setCell ⟨w.heap.size + 1, 0, none⟩ (.int .u64 a)).setCell ⟨w.heap.size + 1, 1, none⟩ (.int .u64 b)).setCell ⟨w.heap.size + 1, 2, none⟩ (.int .u64 c)).setCell ⟨w.heap.size + 1, 3, none⟩ (.int .u64 d)).setCell ⟨w.heap.size + 1, 4, none⟩ (.int .u64 m)).setCell ⟨w.heap.size + 1, 5, none⟩ (.int .u64 n)) z := by
  simp only [arr6, Value.agg.injEq, Array.mk.injEq, List.cons.injEq, Value.int.injEq, true_and, and_true] at hz
  obtain ⟨rfl, rfl, rfl, rfl, rfl, rfl⟩ := hz
  exact ⟨((((((h.be.setCell (by simp) _).setCell (by simp) _).setCell (by simp) _).setCell (by simp) _).setCell (by simp) _).setCell (by simp) _), ((((((h.br.far (by simp) _).far (by simp) _).far (by simp) _).far (by simp) _).far (by simp) _).far (by simp) _), ((((((h.bt.set_ 0 _).set_ 1 _).set_ 2 _).set_ 3 _).set_ 4 _).set_ 5 _)⟩
theorem WWp.cells {w wr : World} {t : Int} (h : WWp w wr t) : wr.cell? ⟨w.heap.size + 1, 0, none⟩ = some (.int .u64 (wd t 0)) ∧ wr.cell? ⟨w.heap.size + 1, 1, none⟩ = some (.int .u64 (wd t 1)) ∧ wr.cell? ⟨w.heap.size + 1, 2, none⟩ = some (.int .u64 (wd t 2)) ∧ wr.cell? ⟨w.heap.size + 1, 3, none⟩ = some (.int .u64 (wd t 3)) ∧ wr.cell? ⟨w.heap.size + 1, 4, none⟩ = some (.int .u64 (wd t 4)) ∧ wr.cell? ⟨w.heap.size + 1, 5, none⟩ = some (.int .u64 (wd t 5)) ∧
    wr.frozen? ⟨w.heap.size + 1, 0, none⟩ = false ∧ wr.frozen? ⟨w.heap.size + 1, 1, none⟩ = false ∧ wr.frozen? ⟨w.heap.size + 1, 2, none⟩ = false ∧ wr.frozen? ⟨w.heap.size + 1, 3, none⟩ = false ∧ wr.frozen? ⟨w.heap.size + 1, 4, none⟩ = false ∧ wr.frozen? ⟨w.heap.size + 1, 5, none⟩ = false :=
  ⟨h.bt.at_ rfl, h.bt.at_ rfl, h.bt.at_ rfl, h.bt.at_ rfl, h.bt.at_ rfl, h.bt.at_ rfl, h.bt.frozen 0, h.bt.frozen 1, h.bt.frozen 2, h.bt.frozen 3, h.bt.frozen 4, h.bt.frozen 5⟩
end Go.Proofs.YtgkfkfodeooogaaDoor
