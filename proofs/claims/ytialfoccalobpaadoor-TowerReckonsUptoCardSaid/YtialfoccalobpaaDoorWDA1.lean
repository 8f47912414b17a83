/-
  FpB, FpD, FpM, FpE, FpF, FpG, FpI, FpJ, FpK, FpH, in one text.
-/
import Derived.Test.YtialfoccalobpaaDoorWDA0
/-! ## FpB -/
namespace Go.Proofs.YtialfoccalobpaaDoor
open Go.RowKit
/-- A number as six words. -/
def arr6 (x : Int) : Value := .agg #[.int .u64 (wd x 0), .int .u64 (wd x 1), .int .u64 (wd x 2), .int .u64 (wd x 3), .int .u64 (wd x 4), .int .u64 (wd x 5)]
theorem wds6 (x : Int) : wds x 6 = [wd x 0, wd x 1, wd x 2, wd x 3, wd x 4, wd x 5] := rfl
theorem nu6 (x : Int) (h0 : 0 ≤ x) (h : x < Wd ^ 6) : x = wd x 0 + Wd * (wd x 1 + Wd * (wd x 2 + Wd * (wd x 3 + Wd * (wd x 4 + Wd * (wd x 5))))) := by
  have := nu_wds 6 x
  rw [Int.emod_eq_of_lt h0 h, wds6] at this
  simpa [nu] using this.symm
theorem arr6_of (d0 d1 d2 d3 d4 d5 z : Int) (h0 : 0 ≤ d0 ∧ d0 < Wd) (h1 : 0 ≤ d1 ∧ d1 < Wd) (h2 : 0 ≤ d2 ∧ d2 < Wd) (h3 : 0 ≤ d3 ∧ d3 < Wd) (h4 : 0 ≤ d4 ∧ d4 < Wd) (h5 : 0 ≤ d5 ∧ d5 < Wd) (hz : d0 + Wd * (d1 + Wd * (d2 + Wd * (d3 + Wd * (d4 + Wd * (d5))))) = z) :
    (.agg #[.int .u64 d0, .int .u64 d1, .int .u64 d2, .int .u64 d3, .int .u64 d4, .int .u64 d5] : Value) = arr6 z := by
  have h := wds_nu [d0, d1, d2, d3, d4, d5] (by simp [h0, h1, h2, h3, h4, h5])
  have e : nu [d0, d1, d2, d3, d4, d5] = z := by rw [← hz]; simp [nu]
  rw [e] at h
  have h' : [wd z 0, wd z 1, wd z 2, wd z 3, wd z 4, wd z 5] = [d0, d1, d2, d3, d4, d5] := h
  simp only [List.cons.injEq, and_true] at h'
  obtain ⟨e0, e1, e2, e3, e4, e5⟩ := h'
  unfold arr6
  rw [e0, e1, e2, e3, e4, e5]
theorem sub6 (x0 y0 d0 b0 x1 y1 d1 b1 x2 y2 d2 b2 x3 y3 d3 b3 x4 y4 d4 b4 x5 y5 d5 b5 : Int) (e0 : d0 - Wd * b0 = x0 - y0 - 0) (e1 : d1 - Wd * b1 = x1 - y1 - b0) (e2 : d2 - Wd * b2 = x2 - y2 - b1) (e3 : d3 - Wd * b3 = x3 - y3 - b2) (e4 : d4 - Wd * b4 = x4 - y4 - b3) (e5 : d5 - Wd * b5 = x5 - y5 - b4) :
    d0 + Wd * (d1 + Wd * (d2 + Wd * (d3 + Wd * (d4 + Wd * (d5))))) = x0 + Wd * (x1 + Wd * (x2 + Wd * (x3 + Wd * (x4 + Wd * (x5))))) - (y0 + Wd * (y1 + Wd * (y2 + Wd * (y3 + Wd * (y4 + Wd * (y5)))))) + Wd * (Wd * (Wd * (Wd * (Wd * (Wd * b5))))) := by
  obtain rfl : d0 = x0 - y0 + Wd * b0 := by omega
  obtain rfl : d1 = x1 - y1 - b0 + Wd * b1 := by omega
  obtain rfl : d2 = x2 - y2 - b1 + Wd * b2 := by omega
  obtain rfl : d3 = x3 - y3 - b2 + Wd * b3 := by omega
  obtain rfl : d4 = x4 - y4 - b3 + Wd * b4 := by omega
  obtain rfl : d5 = x5 - y5 - b4 + Wd * b5 := by omega
  clear e0 e1 e2 e3 e4 e5
  grind
theorem add6 (x0 y0 s0 k0 x1 y1 s1 k1 x2 y2 s2 k2 x3 y3 s3 k3 x4 y4 s4 k4 x5 y5 s5 k5 c : Int) (e0 : s0 + Wd * k0 = x0 + y0 + c) (e1 : s1 + Wd * k1 = x1 + y1 + k0) (e2 : s2 + Wd * k2 = x2 + y2 + k1) (e3 : s3 + Wd * k3 = x3 + y3 + k2) (e4 : s4 + Wd * k4 = x4 + y4 + k3) (e5 : s5 + Wd * k5 = x5 + y5 + k4) :
    s0 + Wd * (s1 + Wd * (s2 + Wd * (s3 + Wd * (s4 + Wd * (s5))))) + Wd * (Wd * (Wd * (Wd * (Wd * (Wd * k5))))) = x0 + Wd * (x1 + Wd * (x2 + Wd * (x3 + Wd * (x4 + Wd * (x5))))) + (y0 + Wd * (y1 + Wd * (y2 + Wd * (y3 + Wd * (y4 + Wd * (y5)))))) + c := by
  obtain rfl : s0 = x0 + y0 + c - Wd * k0 := by omega
  obtain rfl : s1 = x1 + y1 + k0 - Wd * k1 := by omega
  obtain rfl : s2 = x2 + y2 + k1 - Wd * k2 := by omega
  obtain rfl : s3 = x3 + y3 + k2 - Wd * k3 := by omega
  obtain rfl : s4 = x4 + y4 + k3 - Wd * k4 := by omega
  obtain rfl : s5 = x5 + y5 + k4 - Wd * k5 := by omega
  clear e0 e1 e2 e3 e4 e5
  grind
set_option maxRecDepth 100000 in
set_option maxHeartbeats 4000000 in
theorem fp_minus0 (x0 x1 x2 x3 x4 x5 y0 y1 y2 y3 y4 y5 : Int) (w : World) (hx0 : 0 ≤ x0 ∧ x0 < Wd) (hx1 : 0 ≤ x1 ∧ x1 < Wd) (hx2 : 0 ≤ x2 ∧ x2 < Wd) (hx3 : 0 ≤ x3 ∧ x3 < Wd) (hx4 : 0 ≤ x4 ∧ x4 < Wd) (hx5 : 0 ≤ x5 ∧ x5 < Wd) (hy0 : 0 ≤ y0 ∧ y0 < Wd) (hy1 : 0 ≤ y1 ∧ y1 < Wd) (hy2 : 0 ≤ y2 ∧ y2 < Wd) (hy3 : 0 ≤ y3 ∧ y3 < Wd) (hy4 : 0 ≤ y4 ∧ y4 < Wd) (hy5 : 0 ≤ y5 ∧ y5 < Wd) :
    Calls Tryd.prog 152 #[.agg #[.int .u64 x0, .int .u64 x1, .int .u64 x2, .int .u64 x3, .int .u64 x4, .int .u64 x5], .agg #[.int .u64 y0, .int .u64 y1, .int .u64 y2, .int .u64 y3, .int .u64 y4, .int .u64 y5]] w fun e w' =>
      ∃ d0 d1 d2 d3 d4 d5 b, e = .returned (.tuple #[.agg #[.int .u64 d0, .int .u64 d1, .int .u64 d2, .int .u64 d3, .int .u64 d4, .int .u64 d5], .int .u64 b]) ∧ (0 ≤ d0 ∧ d0 < Wd) ∧ (0 ≤ d1 ∧ d1 < Wd) ∧ (0 ≤ d2 ∧ d2 < Wd) ∧ (0 ≤ d3 ∧ d3 < Wd) ∧ (0 ≤ d4 ∧ d4 < Wd) ∧ (0 ≤ d5 ∧ d5 < Wd) ∧ (0 ≤ b ∧ b ≤ 1) ∧ (d0 + Wd * (d1 + Wd * (d2 + Wd * (d3 + Wd * (d4 + Wd * (d5))))) = x0 + Wd * (x1 + Wd * (x2 + Wd * (x3 + Wd * (x4 + Wd * (x5))))) - (y0 + Wd * (y1 + Wd * (y2 + Wd * (y3 + Wd * (y4 + Wd * (y5)))))) + Wd * (Wd * (Wd * (Wd * (Wd * (Wd * b)))))) ∧ Below w.heap.size w w' := by
  obtain ⟨d0, b0, C0, E0, p1, p2, p3, p4⟩ := subc_ex x0 y0 0 hx0.1 hx0.2 hy0.1 hy0.2 (by omega) (by omega)
  obtain ⟨d1, b1, C1, E1, q1, q2, q3, q4⟩ := subc_ex x1 y1 b0 hx1.1 hx1.2 hy1.1 hy1.2 p3 p4
  obtain ⟨d2, b2, C2, E2, r1, r2, r3, r4⟩ := subc_ex x2 y2 b1 hx2.1 hx2.2 hy2.1 hy2.2 q3 q4
  obtain ⟨d3, b3, C3, E3, s1, s2, s3, s4⟩ := subc_ex x3 y3 b2 hx3.1 hx3.2 hy3.1 hy3.2 r3 r4
  obtain ⟨d4, b4, C4, E4, t1, t2, t3, t4⟩ := subc_ex x4 y4 b3 hx4.1 hx4.2 hy4.1 hy4.2 s3 s4
  obtain ⟨d5, b5, C5, E5, u1, u2, u3, u4⟩ := subc_ex x5 y5 b4 hx5.1 hx5.2 hy5.1 hy5.2 t3 t4
  have hfin : ((0 ≤ d0 ∧ d0 < Wd) ∧ (0 ≤ d1 ∧ d1 < Wd) ∧ (0 ≤ d2 ∧ d2 < Wd) ∧ (0 ≤ d3 ∧ d3 < Wd) ∧ (0 ≤ d4 ∧ d4 < Wd) ∧ (0 ≤ d5 ∧ d5 < Wd)) ∧ (0 ≤ b5 ∧ b5 ≤ 1) ∧ (d0 + Wd * (d1 + Wd * (d2 + Wd * (d3 + Wd * (d4 + Wd * (d5))))) = x0 + Wd * (x1 + Wd * (x2 + Wd * (x3 + Wd * (x4 + Wd * (x5))))) - (y0 + Wd * (y1 + Wd * (y2 + Wd * (y3 + Wd * (y4 + Wd * (y5)))))) + Wd * (Wd * (Wd * (Wd * (Wd * (Wd * b5)))))) :=
    ⟨⟨⟨p1, p2⟩, ⟨q1, q2⟩, ⟨r1, r2⟩, ⟨s1, s2⟩, ⟨t1, t2⟩, ⟨u1, u2⟩⟩, ⟨u3, u4⟩, sub6 _ _ _ _ _ _ _ _ _ _ _ _ _ _ _ _ _ _ _ _ _ _ _ _ E0.out E1.out E2.out E3.out E4.out E5.out⟩
  have FIN := Lib.hid hfin
  clear hfin E0 E1 E2 E3 E4 E5 hx0 hy0 hx1 hy1 hx2 hy2 hx3 hy3 hx4 hy4 hx5 hy5 p1 p2 p3 p4 q1 q2 q3 q4 r1 r2 r3 r4 s1 s2 s3 s4 t1 t2 t3 t4 u1 u2 u3 u4
  have c0 := C0.out
  have c1 := C1.out
  have c2 := C2.out
  have c3 := C3.out
  have c4 := C4.out
  have c5 := C5.out
  clear C0 C1 C2 C3 C4 C5
  go_enter Tryd.func152, Tryd.ntmps152
  go_wp2_with fail
  refine wp_loop_rounds 7 ?_
  rw [rounds_succ]
  go_wp2_with fail
  go_region
  go_wp2_with fail
  rw [rounds_succ]
  go_wp2_with fail
  go_region
  go_wp2_with fail
  rw [rounds_succ]
  go_wp2_with fail
  go_region
  go_wp2_with fail
  rw [rounds_succ]
  go_wp2_with fail
  go_region
  go_wp2_with fail
  rw [rounds_succ]
  go_wp2_with fail
  go_region
  go_wp2_with fail
  rw [rounds_succ]
  go_wp2_with fail
  go_region
  go_wp2_with fail
  rw [rounds_succ]
  go_wp2_with fail
  clear c0 c1 c2 c3 c4 c5
  refine bodyPost_ret (v := .tuple #[.agg #[.int .u64 d0, .int .u64 d1, .int .u64 d2, .int .u64 d3, .int .u64 d4, .int .u64 d5], .int .u64 b5]) (by simp [results, Tryd.results152, go_sem]) rfl ⟨d0, d1, d2, d3, d4, d5, b5, rfl, FIN.out.1.1, FIN.out.1.2.1, FIN.out.1.2.2.1, FIN.out.1.2.2.2.1, FIN.out.1.2.2.2.2.1, FIN.out.1.2.2.2.2.2, FIN.out.2.1, FIN.out.2.2, ?_⟩
  repeat (first | (with_reducible exact Below.refl _ _) | (with_reducible refine Below.drew ?_) | (with_reducible refine Below.alloc ?_ (by simp; try omega) _))
theorem fp_minus_lt (x y : Int) (w : World) (hx0 : 0 ≤ x) (hy0 : 0 ≤ y) (hy : y < Wd ^ 6) (h : x < y) :
    Calls Tryd.prog 152 #[arr6 x, arr6 y] w fun e w' => e = .returned (.tuple #[arr6 (x - y + Wd ^ 6), .int .u64 1]) ∧ Below w.heap.size w w' := by
  have ex := nu6 x hx0 (by omega)
  have ey := nu6 y hy0 hy
  refine (fp_minus0 _ _ _ _ _ _ _ _ _ _ _ _ w (wd_lo x 0) (wd_lo x 1) (wd_lo x 2) (wd_lo x 3) (wd_lo x 4) (wd_lo x 5) (wd_lo y 0) (wd_lo y 1) (wd_lo y 2) (wd_lo y 3) (wd_lo y 4) (wd_lo y 5)).mono ?_
  rintro e w' ⟨d0, d1, d2, d3, d4, d5, b, rfl, h0, h1, h2, h3, h4, h5, hb, he, hB⟩
  rw [← ex, ← ey] at he
  have hb0 : b = 1 := by
    unfold Wd at *
    omega
  subst hb0
  rw [arr6_of d0 d1 d2 d3 d4 d5 (x - y + Wd ^ 6) h0 h1 h2 h3 h4 h5 (by unfold Wd at *; omega)]
  exact ⟨rfl, hB⟩
/-- The modulus. -/
def Mp : Int := 4002409555221667393417789825735904156556882819939007885332058136124031650490837864442687629129015664037894272559787
theorem Mp_lo : 0 < Mp ∧ 2 * Mp < Wd ^ 6 := by simp [Mp, Wd]
structure GMp (w : World) : Prop where
  c0 : w.cell? ⟨4, 0, none⟩ = some (.int .u64 (wd Mp 0))
  c1 : w.cell? ⟨4, 1, none⟩ = some (.int .u64 (wd Mp 1))
  c2 : w.cell? ⟨4, 2, none⟩ = some (.int .u64 (wd Mp 2))
  c3 : w.cell? ⟨4, 3, none⟩ = some (.int .u64 (wd Mp 3))
  c4 : w.cell? ⟨4, 4, none⟩ = some (.int .u64 (wd Mp 4))
  c5 : w.cell? ⟨4, 5, none⟩ = some (.int .u64 (wd Mp 5))
theorem GMp.keep {w w' : World} (h : GMp w) (hb : Below w.heap.size w w') : GMp w' := by
  have hl := World.block_lt_of_cell? w _ h.c0
  exact ⟨(hb.cell (p := ⟨_, 0, none⟩) hl).trans h.c0, (hb.cell (p := ⟨_, 1, none⟩) hl).trans h.c1, (hb.cell (p := ⟨_, 2, none⟩) hl).trans h.c2, (hb.cell (p := ⟨_, 3, none⟩) hl).trans h.c3, (hb.cell (p := ⟨_, 4, none⟩) hl).trans h.c4, (hb.cell (p := ⟨_, 5, none⟩) hl).trans h.c5⟩
/-- What asks nothing of the modulus' variable: the arithmetic that takes the modulus' words as they stand in the text. -/
def GM0 (_ : World) : Prop := True
theorem GM0.keep {w w' : World} (_ : GM0 w) (_ : Below w.heap.size w w') : GM0 w' := trivial
theorem GMp.none {w : World} (_ : GMp w) : GM0 w := trivial
instance {w : World} : Coe (GMp w) (GM0 w) := ⟨GMp.none⟩
/-- Six cells of the call's own behind a call. -/
theorem res6 {W w1 : World} {g : Nat} {t : TypeId} {c0 c1 c2 c3 c4 c5 : Value} (h : Blk W g t #[c0, c1, c2, c3, c4, c5]) (hB : Below W.heap.size W w1) :
    w1.cell? ⟨g, 0, none⟩ = some c0 ∧ w1.cell? ⟨g, 1, none⟩ = some c1 ∧ w1.cell? ⟨g, 2, none⟩ = some c2 ∧ w1.cell? ⟨g, 3, none⟩ = some c3 ∧ w1.cell? ⟨g, 4, none⟩ = some c4 ∧ w1.cell? ⟨g, 5, none⟩ = some c5 ∧
    w1.frozen? ⟨g, 0, none⟩ = false ∧ w1.frozen? ⟨g, 1, none⟩ = false ∧ w1.frozen? ⟨g, 2, none⟩ = false ∧ w1.frozen? ⟨g, 3, none⟩ = false ∧ w1.frozen? ⟨g, 4, none⟩ = false ∧ w1.frozen? ⟨g, 5, none⟩ = false ∧ g < w1.heap.size := by
  have h1 := h.keep hB
  exact ⟨h1.at_ rfl, h1.at_ rfl, h1.at_ rfl, h1.at_ rfl, h1.at_ rfl, h1.at_ rfl, h1.frozen 0, h1.frozen 1, h1.frozen 2, h1.frozen 3, h1.frozen 4, h1.frozen 5, h1.lt⟩
theorem arr6_zero : arr6 0 = .agg #[.int .u64 0, .int .u64 0, .int .u64 0, .int .u64 0, .int .u64 0, .int .u64 0] := rfl
end Go.Proofs.YtialfoccalobpaaDoor

/-! ## FpD -/
namespace Go.Proofs.YtialfoccalobpaaDoor
open Go.RowKit
theorem Mp_words : Mp = 13402431016077863595 + Wd * (2210141511517208575 + Wd * (7435674573564081700 + Wd * (7239337960414712511 + Wd * (5412103778470702295 + Wd * (1873798617647539866))))) := by decide +kernel
set_option maxRecDepth 100000 in
set_option maxHeartbeats 4000000 in
theorem fp_add1 (x y : Int) (w : World) (hx0 : 0 ≤ x) (hx : x < Mp) (hy0 : 0 ≤ y) (hy : y < Mp) (hge : Mp ≤ x + y) :
    Calls Tryd.prog 112 #[arr6 x, arr6 y] w fun e w' => e = .returned (arr6 ((x + y) % Mp)) ∧ Below w.heap.size w w' := by
  have hM := Mp_lo
  have hMw := Mp_words
  have ex := nu6 x hx0 (by omega)
  have ey := nu6 y hy0 (by omega)
  obtain ⟨s0, k0, C0, E0, p0a, p0b, p0c, p0d⟩ := addc_ex (wd x 0) (wd y 0) 0 (wd_lo x 0).1 (wd_lo x 0).2 (wd_lo y 0).1 (wd_lo y 0).2 (by omega) (by omega)
  obtain ⟨s1, k1, C1, E1, p1a, p1b, p1c, p1d⟩ := addc_ex (wd x 1) (wd y 1) k0 (wd_lo x 1).1 (wd_lo x 1).2 (wd_lo y 1).1 (wd_lo y 1).2 p0c p0d
  obtain ⟨s2, k2, C2, E2, p2a, p2b, p2c, p2d⟩ := addc_ex (wd x 2) (wd y 2) k1 (wd_lo x 2).1 (wd_lo x 2).2 (wd_lo y 2).1 (wd_lo y 2).2 p1c p1d
  obtain ⟨s3, k3, C3, E3, p3a, p3b, p3c, p3d⟩ := addc_ex (wd x 3) (wd y 3) k2 (wd_lo x 3).1 (wd_lo x 3).2 (wd_lo y 3).1 (wd_lo y 3).2 p2c p2d
  obtain ⟨s4, k4, C4, E4, p4a, p4b, p4c, p4d⟩ := addc_ex (wd x 4) (wd y 4) k3 (wd_lo x 4).1 (wd_lo x 4).2 (wd_lo y 4).1 (wd_lo y 4).2 p3c p3d
  obtain ⟨s5, k5, C5, E5, p5a, p5b, p5c, p5d⟩ := addc_ex (wd x 5) (wd y 5) k4 (wd_lo x 5).1 (wd_lo x 5).2 (wd_lo y 5).1 (wd_lo y 5).2 p4c p4d
  obtain ⟨d0, b0, D0, F0, q0a, q0b, q0c, q0d⟩ := subc_ex s0 13402431016077863595 0 p0a p0b (by omega) (by simp [Wd]) (by omega) (by omega)
  obtain ⟨d1, b1, D1, F1, q1a, q1b, q1c, q1d⟩ := subc_ex s1 2210141511517208575 b0 p1a p1b (by omega) (by simp [Wd]) q0c q0d
  obtain ⟨d2, b2, D2, F2, q2a, q2b, q2c, q2d⟩ := subc_ex s2 7435674573564081700 b1 p2a p2b (by omega) (by simp [Wd]) q1c q1d
  obtain ⟨d3, b3, D3, F3, q3a, q3b, q3c, q3d⟩ := subc_ex s3 7239337960414712511 b2 p3a p3b (by omega) (by simp [Wd]) q2c q2d
  obtain ⟨d4, b4, D4, F4, q4a, q4b, q4c, q4d⟩ := subc_ex s4 5412103778470702295 b3 p4a p4b (by omega) (by simp [Wd]) q3c q3d
  obtain ⟨d5, b5, D5, F5, q5a, q5b, q5c, q5d⟩ := subc_ex s5 1873798617647539866 b4 p5a p5b (by omega) (by simp [Wd]) q4c q4d
  have e := add6 _ _ _ _ _ _ _ _ _ _ _ _ _ _ _ _ _ _ _ _ _ _ _ _ 0 E0.out E1.out E2.out E3.out E4.out E5.out
  rw [← ex, ← ey, Int.add_zero] at e
  have hk : k5 = 0 := by
    rcases (by omega : k5 = 0 ∨ k5 = 1) with h | h
    · exact h
    · subst h
      unfold Wd at *
      omega
  have f := sub6 _ _ _ _ _ _ _ _ _ _ _ _ _ _ _ _ _ _ _ _ _ _ _ _ F0.out F1.out F2.out F3.out F4.out F5.out
  rw [← hMw] at f
  have hs : s0 + Wd * (s1 + Wd * (s2 + Wd * (s3 + Wd * (s4 + Wd * (s5))))) = x + y := by subst hk; omega
  rw [hs] at f
  have hb : b5 = 0 := by
    unfold Wd at *
    omega
  have hfin : (.agg #[.int .u64 d0, .int .u64 d1, .int .u64 d2, .int .u64 d3, .int .u64 d4, .int .u64 d5] : Value) = arr6 ((x + y) % Mp) := by
    refine arr6_of d0 d1 d2 d3 d4 d5 _ ⟨q0a, q0b⟩ ⟨q1a, q1b⟩ ⟨q2a, q2b⟩ ⟨q3a, q3b⟩ ⟨q4a, q4b⟩ ⟨q5a, q5b⟩ ?_
    subst hb
    have : (x + y) % Mp = x + y - Mp := by
      rw [← Int.sub_emod_right]
      exact Int.emod_eq_of_lt (by omega) (by omega)
    omega
  have FIN := Lib.hid hfin
  obtain ⟨Z, hZ⟩ : ∃ Z, Z = arr6 ((x + y) % Mp) := ⟨_, rfl⟩
  rw [← hZ] at FIN ⊢
  subst hb
  clear hZ hfin hs f e hk hM hMw ex ey hx0 hx hy0 hy hge p0a p0b p0c p0d q0a q0b q0c q0d E0 F0 p1a p1b p1c p1d q1a q1b q1c q1d E1 F1 p2a p2b p2c p2d q2a q2b q2c q2d E2 F2 p3a p3b p3c p3d q3a q3b q3c q3d E3 F3 p4a p4b p4c p4d q4a q4b q4c q4d E4 F4 p5a p5b p5c p5d q5a q5b q5c q5d E5 F5
  conv => arg 3; unfold arr6
  go_enter Tryd.func112, Tryd.ntmps112
  go_wp2_with (first | rw [C0.out] | rw [C1.out] | rw [C2.out] | rw [C3.out] | rw [C4.out] | rw [C5.out] | rw [D0.out] | rw [D1.out] | rw [D2.out] | rw [D3.out] | rw [D4.out] | rw [D5.out])
  refine bodyPost_ret (v := .agg #[.int .u64 d0, .int .u64 d1, .int .u64 d2, .int .u64 d3, .int .u64 d4, .int .u64 d5]) (by simp [results, Tryd.results112, go_sem]) rfl ⟨by rw [FIN.out], ?_⟩
  repeat (first | (with_reducible exact Below.refl _ _) | (with_reducible refine Below.drew ?_) | (with_reducible refine Below.alloc ?_ (by simp; try omega) _))
set_option maxRecDepth 100000 in
set_option maxHeartbeats 4000000 in
theorem fp_add2 (x y : Int) (w : World) (hx0 : 0 ≤ x) (hx : x < Mp) (hy0 : 0 ≤ y) (hy : y < Mp) (hlt : x + y < Mp) :
    Calls Tryd.prog 112 #[arr6 x, arr6 y] w fun e w' => e = .returned (arr6 ((x + y) % Mp)) ∧ Below w.heap.size w w' := by
  have hM := Mp_lo
  have hMw := Mp_words
  have ex := nu6 x hx0 (by omega)
  have ey := nu6 y hy0 (by omega)
  obtain ⟨s0, k0, C0, E0, p0a, p0b, p0c, p0d⟩ := addc_ex (wd x 0) (wd y 0) 0 (wd_lo x 0).1 (wd_lo x 0).2 (wd_lo y 0).1 (wd_lo y 0).2 (by omega) (by omega)
  obtain ⟨s1, k1, C1, E1, p1a, p1b, p1c, p1d⟩ := addc_ex (wd x 1) (wd y 1) k0 (wd_lo x 1).1 (wd_lo x 1).2 (wd_lo y 1).1 (wd_lo y 1).2 p0c p0d
  obtain ⟨s2, k2, C2, E2, p2a, p2b, p2c, p2d⟩ := addc_ex (wd x 2) (wd y 2) k1 (wd_lo x 2).1 (wd_lo x 2).2 (wd_lo y 2).1 (wd_lo y 2).2 p1c p1d
  obtain ⟨s3, k3, C3, E3, p3a, p3b, p3c, p3d⟩ := addc_ex (wd x 3) (wd y 3) k2 (wd_lo x 3).1 (wd_lo x 3).2 (wd_lo y 3).1 (wd_lo y 3).2 p2c p2d
  obtain ⟨s4, k4, C4, E4, p4a, p4b, p4c, p4d⟩ := addc_ex (wd x 4) (wd y 4) k3 (wd_lo x 4).1 (wd_lo x 4).2 (wd_lo y 4).1 (wd_lo y 4).2 p3c p3d
  obtain ⟨s5, k5, C5, E5, p5a, p5b, p5c, p5d⟩ := addc_ex (wd x 5) (wd y 5) k4 (wd_lo x 5).1 (wd_lo x 5).2 (wd_lo y 5).1 (wd_lo y 5).2 p4c p4d
  obtain ⟨d0, b0, D0, F0, q0a, q0b, q0c, q0d⟩ := subc_ex s0 13402431016077863595 0 p0a p0b (by omega) (by simp [Wd]) (by omega) (by omega)
  obtain ⟨d1, b1, D1, F1, q1a, q1b, q1c, q1d⟩ := subc_ex s1 2210141511517208575 b0 p1a p1b (by omega) (by simp [Wd]) q0c q0d
  obtain ⟨d2, b2, D2, F2, q2a, q2b, q2c, q2d⟩ := subc_ex s2 7435674573564081700 b1 p2a p2b (by omega) (by simp [Wd]) q1c q1d
  obtain ⟨d3, b3, D3, F3, q3a, q3b, q3c, q3d⟩ := subc_ex s3 7239337960414712511 b2 p3a p3b (by omega) (by simp [Wd]) q2c q2d
  obtain ⟨d4, b4, D4, F4, q4a, q4b, q4c, q4d⟩ := subc_ex s4 5412103778470702295 b3 p4a p4b (by omega) (by simp [Wd]) q3c q3d
  obtain ⟨d5, b5, D5, F5, q5a, q5b, q5c, q5d⟩ := subc_ex s5 1873798617647539866 b4 p5a p5b (by omega) (by simp [Wd]) q4c q4d
  have e := add6 _ _ _ _ _ _ _ _ _ _ _ _ _ _ _ _ _ _ _ _ _ _ _ _ 0 E0.out E1.out E2.out E3.out E4.out E5.out
  rw [← ex, ← ey, Int.add_zero] at e
  have hk : k5 = 0 := by
    rcases (by omega : k5 = 0 ∨ k5 = 1) with h | h
    · exact h
    · subst h
      unfold Wd at *
      omega
  have f := sub6 _ _ _ _ _ _ _ _ _ _ _ _ _ _ _ _ _ _ _ _ _ _ _ _ F0.out F1.out F2.out F3.out F4.out F5.out
  rw [← hMw] at f
  have hs : s0 + Wd * (s1 + Wd * (s2 + Wd * (s3 + Wd * (s4 + Wd * (s5))))) = x + y := by subst hk; omega
  rw [hs] at f
  have hb : b5 = 1 := by
    unfold Wd at *
    omega
  have hfin : (.agg #[.int .u64 s0, .int .u64 s1, .int .u64 s2, .int .u64 s3, .int .u64 s4, .int .u64 s5] : Value) = arr6 ((x + y) % Mp) := by
    refine arr6_of s0 s1 s2 s3 s4 s5 _ ⟨p0a, p0b⟩ ⟨p1a, p1b⟩ ⟨p2a, p2b⟩ ⟨p3a, p3b⟩ ⟨p4a, p4b⟩ ⟨p5a, p5b⟩ ?_
    rw [hs, Int.emod_eq_of_lt (by omega) hlt]
  have FIN := Lib.hid hfin
  obtain ⟨Z, hZ⟩ : ∃ Z, Z = arr6 ((x + y) % Mp) := ⟨_, rfl⟩
  rw [← hZ] at FIN ⊢
  subst hb
  clear hZ hfin hs f e hk hM hMw ex ey hx0 hx hy0 hy hlt p0a p0b p0c p0d q0a q0b q0c q0d E0 F0 p1a p1b p1c p1d q1a q1b q1c q1d E1 F1 p2a p2b p2c p2d q2a q2b q2c q2d E2 F2 p3a p3b p3c p3d q3a q3b q3c q3d E3 F3 p4a p4b p4c p4d q4a q4b q4c q4d E4 F4 p5a p5b p5c p5d q5a q5b q5c q5d E5 F5
  conv => arg 3; unfold arr6
  go_enter Tryd.func112, Tryd.ntmps112
  go_wp2_with (first | rw [C0.out] | rw [C1.out] | rw [C2.out] | rw [C3.out] | rw [C4.out] | rw [C5.out] | rw [D0.out] | rw [D1.out] | rw [D2.out] | rw [D3.out] | rw [D4.out] | rw [D5.out])
  refine bodyPost_ret (v := .agg #[.int .u64 s0, .int .u64 s1, .int .u64 s2, .int .u64 s3, .int .u64 s4, .int .u64 s5]) (by simp [results, Tryd.results112, go_sem]) rfl ⟨by rw [FIN.out], ?_⟩
  repeat (first | (with_reducible exact Below.refl _ _) | (with_reducible refine Below.drew ?_) | (with_reducible refine Below.alloc ?_ (by simp; try omega) _))
set_option maxRecDepth 100000 in
set_option maxHeartbeats 4000000 in
theorem fp_sub1 (x y : Int) (w : World) (hx0 : 0 ≤ x) (hx : x < Mp) (hy0 : 0 ≤ y) (hge : y ≤ x) :
    Calls Tryd.prog 127 #[arr6 x, arr6 y] w fun e w' => e = .returned (arr6 (x - y)) ∧ Below w.heap.size w w' := by
  have hM := Mp_lo
  have ex := nu6 x hx0 (by omega)
  have ey := nu6 y hy0 (by omega)
  obtain ⟨d0, b0, D0, F0, q0a, q0b, q0c, q0d⟩ := subc_ex (wd x 0) (wd y 0) 0 (wd_lo x 0).1 (wd_lo x 0).2 (wd_lo y 0).1 (wd_lo y 0).2 (by omega) (by omega)
  obtain ⟨d1, b1, D1, F1, q1a, q1b, q1c, q1d⟩ := subc_ex (wd x 1) (wd y 1) b0 (wd_lo x 1).1 (wd_lo x 1).2 (wd_lo y 1).1 (wd_lo y 1).2 q0c q0d
  obtain ⟨d2, b2, D2, F2, q2a, q2b, q2c, q2d⟩ := subc_ex (wd x 2) (wd y 2) b1 (wd_lo x 2).1 (wd_lo x 2).2 (wd_lo y 2).1 (wd_lo y 2).2 q1c q1d
  obtain ⟨d3, b3, D3, F3, q3a, q3b, q3c, q3d⟩ := subc_ex (wd x 3) (wd y 3) b2 (wd_lo x 3).1 (wd_lo x 3).2 (wd_lo y 3).1 (wd_lo y 3).2 q2c q2d
  obtain ⟨d4, b4, D4, F4, q4a, q4b, q4c, q4d⟩ := subc_ex (wd x 4) (wd y 4) b3 (wd_lo x 4).1 (wd_lo x 4).2 (wd_lo y 4).1 (wd_lo y 4).2 q3c q3d
  obtain ⟨d5, b5, D5, F5, q5a, q5b, q5c, q5d⟩ := subc_ex (wd x 5) (wd y 5) b4 (wd_lo x 5).1 (wd_lo x 5).2 (wd_lo y 5).1 (wd_lo y 5).2 q4c q4d
  have f := sub6 _ _ _ _ _ _ _ _ _ _ _ _ _ _ _ _ _ _ _ _ _ _ _ _ F0.out F1.out F2.out F3.out F4.out F5.out
  rw [← ex, ← ey] at f
  have hb : b5 = 0 := by
    unfold Wd at *
    omega
  have hfin : (.agg #[.int .u64 d0, .int .u64 d1, .int .u64 d2, .int .u64 d3, .int .u64 d4, .int .u64 d5] : Value) = arr6 (x - y) := by
    refine arr6_of d0 d1 d2 d3 d4 d5 _ ⟨q0a, q0b⟩ ⟨q1a, q1b⟩ ⟨q2a, q2b⟩ ⟨q3a, q3b⟩ ⟨q4a, q4b⟩ ⟨q5a, q5b⟩ ?_
    subst hb
    omega
  have FIN := Lib.hid hfin
  obtain ⟨Z, hZ⟩ : ∃ Z, Z = arr6 (x - y) := ⟨_, rfl⟩
  rw [← hZ] at FIN ⊢
  subst hb
  clear hZ hfin f hM ex ey hx0 hx hy0 hge q0a q0b q0c q0d F0 q1a q1b q1c q1d F1 q2a q2b q2c q2d F2 q3a q3b q3c q3d F3 q4a q4b q4c q4d F4 q5a q5b q5c q5d F5
  conv => arg 3; unfold arr6
  go_enter Tryd.func127, Tryd.ntmps127
  go_wp2_with (first | rw [D0.out] | rw [D1.out] | rw [D2.out] | rw [D3.out] | rw [D4.out] | rw [D5.out])
  refine bodyPost_ret (v := .agg #[.int .u64 d0, .int .u64 d1, .int .u64 d2, .int .u64 d3, .int .u64 d4, .int .u64 d5]) (by simp [results, Tryd.results127, go_sem]) rfl ⟨by rw [FIN.out], ?_⟩
  repeat (first | (with_reducible exact Below.refl _ _) | (with_reducible refine Below.drew ?_) | (with_reducible refine Below.alloc ?_ (by simp; try omega) _))
set_option maxRecDepth 100000 in
set_option maxHeartbeats 4000000 in
theorem fp_sub2 (x y : Int) (w : World) (hx0 : 0 ≤ x) (hy0 : 0 ≤ y) (hy : y < Mp) (hlt : x < y) :
    Calls Tryd.prog 127 #[arr6 x, arr6 y] w fun e w' => e = .returned (arr6 (x - y + Mp)) ∧ Below w.heap.size w w' := by
  have hM := Mp_lo
  have hMw := Mp_words
  have ex := nu6 x hx0 (by omega)
  have ey := nu6 y hy0 (by omega)
  obtain ⟨d0, b0, D0, F0, q0a, q0b, q0c, q0d⟩ := subc_ex (wd x 0) (wd y 0) 0 (wd_lo x 0).1 (wd_lo x 0).2 (wd_lo y 0).1 (wd_lo y 0).2 (by omega) (by omega)
  obtain ⟨d1, b1, D1, F1, q1a, q1b, q1c, q1d⟩ := subc_ex (wd x 1) (wd y 1) b0 (wd_lo x 1).1 (wd_lo x 1).2 (wd_lo y 1).1 (wd_lo y 1).2 q0c q0d
  obtain ⟨d2, b2, D2, F2, q2a, q2b, q2c, q2d⟩ := subc_ex (wd x 2) (wd y 2) b1 (wd_lo x 2).1 (wd_lo x 2).2 (wd_lo y 2).1 (wd_lo y 2).2 q1c q1d
  obtain ⟨d3, b3, D3, F3, q3a, q3b, q3c, q3d⟩ := subc_ex (wd x 3) (wd y 3) b2 (wd_lo x 3).1 (wd_lo x 3).2 (wd_lo y 3).1 (wd_lo y 3).2 q2c q2d
  obtain ⟨d4, b4, D4, F4, q4a, q4b, q4c, q4d⟩ := subc_ex (wd x 4) (wd y 4) b3 (wd_lo x 4).1 (wd_lo x 4).2 (wd_lo y 4).1 (wd_lo y 4).2 q3c q3d
  obtain ⟨d5, b5, D5, F5, q5a, q5b, q5c, q5d⟩ := subc_ex (wd x 5) (wd y 5) b4 (wd_lo x 5).1 (wd_lo x 5).2 (wd_lo y 5).1 (wd_lo y 5).2 q4c q4d
  obtain ⟨s0, k0, C0, E0, p0a, p0b, p0c, p0d⟩ := addc_ex d0 13402431016077863595 0 q0a q0b (by omega) (by simp [Wd]) (by omega) (by omega)
  obtain ⟨s1, k1, C1, E1, p1a, p1b, p1c, p1d⟩ := addc_ex d1 2210141511517208575 k0 q1a q1b (by omega) (by simp [Wd]) p0c p0d
  obtain ⟨s2, k2, C2, E2, p2a, p2b, p2c, p2d⟩ := addc_ex d2 7435674573564081700 k1 q2a q2b (by omega) (by simp [Wd]) p1c p1d
  obtain ⟨s3, k3, C3, E3, p3a, p3b, p3c, p3d⟩ := addc_ex d3 7239337960414712511 k2 q3a q3b (by omega) (by simp [Wd]) p2c p2d
  obtain ⟨s4, k4, C4, E4, p4a, p4b, p4c, p4d⟩ := addc_ex d4 5412103778470702295 k3 q4a q4b (by omega) (by simp [Wd]) p3c p3d
  obtain ⟨s5, k5, C5, E5, p5a, p5b, p5c, p5d⟩ := addc_ex d5 1873798617647539866 k4 q5a q5b (by omega) (by simp [Wd]) p4c p4d
  have f := sub6 _ _ _ _ _ _ _ _ _ _ _ _ _ _ _ _ _ _ _ _ _ _ _ _ F0.out F1.out F2.out F3.out F4.out F5.out
  rw [← ex, ← ey] at f
  have e := add6 _ _ _ _ _ _ _ _ _ _ _ _ _ _ _ _ _ _ _ _ _ _ _ _ 0 E0.out E1.out E2.out E3.out E4.out E5.out
  rw [← hMw, Int.add_zero] at e
  have hb : b5 = 1 := by
    unfold Wd at *
    omega
  have hk : k5 = 1 := by
    rcases (by omega : k5 = 0 ∨ k5 = 1) with h | h
    · subst h hb
      unfold Wd at *
      omega
    · exact h
  have hfin : (.agg #[.int .u64 s0, .int .u64 s1, .int .u64 s2, .int .u64 s3, .int .u64 s4, .int .u64 s5] : Value) = arr6 (x - y + Mp) := by
    refine arr6_of s0 s1 s2 s3 s4 s5 _ ⟨p0a, p0b⟩ ⟨p1a, p1b⟩ ⟨p2a, p2b⟩ ⟨p3a, p3b⟩ ⟨p4a, p4b⟩ ⟨p5a, p5b⟩ ?_
    subst hb hk
    omega
  have FIN := Lib.hid hfin
  obtain ⟨Z, hZ⟩ : ∃ Z, Z = arr6 (x - y + Mp) := ⟨_, rfl⟩
  rw [← hZ] at FIN ⊢
  subst hb
  clear hZ hfin f e hk hM hMw ex ey hx0 hy0 hy hlt q0a q0b q0c q0d F0 p0a p0b p0c p0d E0 q1a q1b q1c q1d F1 p1a p1b p1c p1d E1 q2a q2b q2c q2d F2 p2a p2b p2c p2d E2 q3a q3b q3c q3d F3 p3a p3b p3c p3d E3 q4a q4b q4c q4d F4 p4a p4b p4c p4d E4 q5a q5b q5c q5d F5 p5a p5b p5c p5d E5
  conv => arg 3; unfold arr6
  go_enter Tryd.func127, Tryd.ntmps127
  go_wp2_with (first | rw [D0.out] | rw [D1.out] | rw [D2.out] | rw [D3.out] | rw [D4.out] | rw [D5.out] | rw [C0.out] | rw [C1.out] | rw [C2.out] | rw [C3.out] | rw [C4.out] | rw [C5.out])
  refine bodyPost_ret (v := .agg #[.int .u64 s0, .int .u64 s1, .int .u64 s2, .int .u64 s3, .int .u64 s4, .int .u64 s5]) (by simp [results, Tryd.results127, go_sem]) rfl ⟨by rw [FIN.out], ?_⟩
  repeat (first | (with_reducible exact Below.refl _ _) | (with_reducible refine Below.drew ?_) | (with_reducible refine Below.alloc ?_ (by simp; try omega) _))
theorem fp_add0 (x y : Int) (w : World) (hx0 : 0 ≤ x) (hx : x < Mp) (hy0 : 0 ≤ y) (hy : y < Mp) :
    Calls Tryd.prog 112 #[arr6 x, arr6 y] w fun e w' => e = .returned (arr6 ((x + y) % Mp)) ∧ Below w.heap.size w w' := by
  rcases Int.lt_or_le (x + y) Mp with h | h
  · exact fp_add2 x y w hx0 hx hy0 hy h
  · exact fp_add1 x y w hx0 hx hy0 hy h
theorem fp_sub0 (x y : Int) (w : World) (hx0 : 0 ≤ x) (hx : x < Mp) (hy0 : 0 ≤ y) (hy : y < Mp) :
    Calls Tryd.prog 127 #[arr6 x, arr6 y] w fun e w' => e = .returned (arr6 ((x - y) % Mp)) ∧ Below w.heap.size w w' := by
  rcases Int.lt_or_le x y with h | h
  · rw [show (x - y) % Mp = x - y + Mp by rw [← Int.add_emod_right]; exact Int.emod_eq_of_lt (by omega) (by omega)]
    exact fp_sub2 x y w hx0 hy0 hy h
  · rw [Int.emod_eq_of_lt (by omega : 0 ≤ x - y) (by omega)]
    exact fp_sub1 x y w hx0 hx hy0 h
set_option maxRecDepth 100000 in
set_option maxHeartbeats 4000000 in
theorem fp_reduced1 (s0 s1 s2 s3 s4 s5 S : Int) (w : World) (p0 : 0 ≤ s0 ∧ s0 < Wd) (p1 : 0 ≤ s1 ∧ s1 < Wd) (p2 : 0 ≤ s2 ∧ s2 < Wd) (p3 : 0 ≤ s3 ∧ s3 < Wd) (p4 : 0 ≤ s4 ∧ s4 < Wd) (p5 : 0 ≤ s5 ∧ s5 < Wd) (hS : s0 + Wd * (s1 + Wd * (s2 + Wd * (s3 + Wd * (s4 + Wd * (s5))))) = S) (hx : S < 2 * Mp) (hge : Mp ≤ S) :
    Calls Tryd.prog 146 #[.int .u64 s0, .int .u64 s1, .int .u64 s2, .int .u64 s3, .int .u64 s4, .int .u64 s5] w fun e w' => e = .returned (arr6 (S % Mp)) ∧ Below w.heap.size w w' := by
  have hM := Mp_lo
  have hMw := Mp_words
  obtain ⟨d0, b0, D0, F0, q0a, q0b, q0c, q0d⟩ := subc_ex s0 13402431016077863595 0 p0.1 p0.2 (by omega) (by simp [Wd]) (by omega) (by omega)
  obtain ⟨d1, b1, D1, F1, q1a, q1b, q1c, q1d⟩ := subc_ex s1 2210141511517208575 b0 p1.1 p1.2 (by omega) (by simp [Wd]) q0c q0d
  obtain ⟨d2, b2, D2, F2, q2a, q2b, q2c, q2d⟩ := subc_ex s2 7435674573564081700 b1 p2.1 p2.2 (by omega) (by simp [Wd]) q1c q1d
  obtain ⟨d3, b3, D3, F3, q3a, q3b, q3c, q3d⟩ := subc_ex s3 7239337960414712511 b2 p3.1 p3.2 (by omega) (by simp [Wd]) q2c q2d
  obtain ⟨d4, b4, D4, F4, q4a, q4b, q4c, q4d⟩ := subc_ex s4 5412103778470702295 b3 p4.1 p4.2 (by omega) (by simp [Wd]) q3c q3d
  obtain ⟨d5, b5, D5, F5, q5a, q5b, q5c, q5d⟩ := subc_ex s5 1873798617647539866 b4 p5.1 p5.2 (by omega) (by simp [Wd]) q4c q4d
  have f := sub6 _ _ _ _ _ _ _ _ _ _ _ _ _ _ _ _ _ _ _ _ _ _ _ _ F0.out F1.out F2.out F3.out F4.out F5.out
  rw [← hMw] at f
  rw [hS] at f
  have hb : b5 = 0 := by
    unfold Wd at *
    omega
  have hfin : (.agg #[.int .u64 d0, .int .u64 d1, .int .u64 d2, .int .u64 d3, .int .u64 d4, .int .u64 d5] : Value) = arr6 (S % Mp) := by
    refine arr6_of d0 d1 d2 d3 d4 d5 _ ⟨q0a, q0b⟩ ⟨q1a, q1b⟩ ⟨q2a, q2b⟩ ⟨q3a, q3b⟩ ⟨q4a, q4b⟩ ⟨q5a, q5b⟩ ?_
    subst hb
    have : S % Mp = S - Mp := by
      rw [← Int.sub_emod_right]
      exact Int.emod_eq_of_lt (by omega) (by omega)
    omega
  have FIN := Lib.hid hfin
  obtain ⟨Z, hZ⟩ : ∃ Z, Z = arr6 (S % Mp) := ⟨_, rfl⟩
  rw [← hZ] at FIN ⊢
  subst hb
  clear hZ hfin hS f hM hMw hx hge p0 q0a q0b q0c q0d F0 p1 q1a q1b q1c q1d F1 p2 q2a q2b q2c q2d F2 p3 q3a q3b q3c q3d F3 p4 q4a q4b q4c q4d F4 p5 q5a q5b q5c q5d F5
  go_enter Tryd.func146, Tryd.ntmps146
  go_wp2_with (first | rw [D0.out] | rw [D1.out] | rw [D2.out] | rw [D3.out] | rw [D4.out] | rw [D5.out])
  refine bodyPost_ret (v := .agg #[.int .u64 d0, .int .u64 d1, .int .u64 d2, .int .u64 d3, .int .u64 d4, .int .u64 d5]) (by simp [results, Tryd.results146, go_sem]) rfl ⟨by rw [FIN.out], ?_⟩
  repeat (first | (with_reducible exact Below.refl _ _) | (with_reducible refine Below.drew ?_) | (with_reducible refine Below.alloc ?_ (by simp; try omega) _))
set_option maxRecDepth 100000 in
set_option maxHeartbeats 4000000 in
theorem fp_reduced2 (s0 s1 s2 s3 s4 s5 S : Int) (w : World) (p0 : 0 ≤ s0 ∧ s0 < Wd) (p1 : 0 ≤ s1 ∧ s1 < Wd) (p2 : 0 ≤ s2 ∧ s2 < Wd) (p3 : 0 ≤ s3 ∧ s3 < Wd) (p4 : 0 ≤ s4 ∧ s4 < Wd) (p5 : 0 ≤ s5 ∧ s5 < Wd) (hS : s0 + Wd * (s1 + Wd * (s2 + Wd * (s3 + Wd * (s4 + Wd * (s5))))) = S) (hx0 : 0 ≤ S) (hlt : S < Mp) :
    Calls Tryd.prog 146 #[.int .u64 s0, .int .u64 s1, .int .u64 s2, .int .u64 s3, .int .u64 s4, .int .u64 s5] w fun e w' => e = .returned (arr6 (S % Mp)) ∧ Below w.heap.size w w' := by
  have hM := Mp_lo
  have hMw := Mp_words
  obtain ⟨d0, b0, D0, F0, q0a, q0b, q0c, q0d⟩ := subc_ex s0 13402431016077863595 0 p0.1 p0.2 (by omega) (by simp [Wd]) (by omega) (by omega)
  obtain ⟨d1, b1, D1, F1, q1a, q1b, q1c, q1d⟩ := subc_ex s1 2210141511517208575 b0 p1.1 p1.2 (by omega) (by simp [Wd]) q0c q0d
  obtain ⟨d2, b2, D2, F2, q2a, q2b, q2c, q2d⟩ := subc_ex s2 7435674573564081700 b1 p2.1 p2.2 (by omega) (by simp [Wd]) q1c q1d
  obtain ⟨d3, b3, D3, F3, q3a, q3b, q3c, q3d⟩ := subc_ex s3 7239337960414712511 b2 p3.1 p3.2 (by omega) (by simp [Wd]) q2c q2d
  obtain ⟨d4, b4, D4, F4, q4a, q4b, q4c, q4d⟩ := subc_ex s4 5412103778470702295 b3 p4.1 p4.2 (by omega) (by simp [Wd]) q3c q3d
  obtain ⟨d5, b5, D5, F5, q5a, q5b, q5c, q5d⟩ := subc_ex s5 1873798617647539866 b4 p5.1 p5.2 (by omega) (by simp [Wd]) q4c q4d
  have f := sub6 _ _ _ _ _ _ _ _ _ _ _ _ _ _ _ _ _ _ _ _ _ _ _ _ F0.out F1.out F2.out F3.out F4.out F5.out
  rw [← hMw] at f
  rw [hS] at f
  have hb : b5 = 1 := by
    unfold Wd at *
    omega
  have hfin : (.agg #[.int .u64 s0, .int .u64 s1, .int .u64 s2, .int .u64 s3, .int .u64 s4, .int .u64 s5] : Value) = arr6 (S % Mp) := by
    refine arr6_of s0 s1 s2 s3 s4 s5 _ p0 p1 p2 p3 p4 p5 ?_
    rw [hS, Int.emod_eq_of_lt hx0 hlt]
  have FIN := Lib.hid hfin
  obtain ⟨Z, hZ⟩ : ∃ Z, Z = arr6 (S % Mp) := ⟨_, rfl⟩
  rw [← hZ] at FIN ⊢
  subst hb
  clear hZ hfin hS f hM hMw hx0 hlt p0 q0a q0b q0c q0d F0 p1 q1a q1b q1c q1d F1 p2 q2a q2b q2c q2d F2 p3 q3a q3b q3c q3d F3 p4 q4a q4b q4c q4d F4 p5 q5a q5b q5c q5d F5
  go_enter Tryd.func146, Tryd.ntmps146
  go_wp2_with (first | rw [D0.out] | rw [D1.out] | rw [D2.out] | rw [D3.out] | rw [D4.out] | rw [D5.out])
  refine bodyPost_ret (v := .agg #[.int .u64 s0, .int .u64 s1, .int .u64 s2, .int .u64 s3, .int .u64 s4, .int .u64 s5]) (by simp [results, Tryd.results146, go_sem]) rfl ⟨by rw [FIN.out], ?_⟩
  repeat (first | (with_reducible exact Below.refl _ _) | (with_reducible refine Below.drew ?_) | (with_reducible refine Below.alloc ?_ (by simp; try omega) _))
theorem fp_reduced (s0 s1 s2 s3 s4 s5 S : Int) (w : World) (p0 : 0 ≤ s0 ∧ s0 < Wd) (p1 : 0 ≤ s1 ∧ s1 < Wd) (p2 : 0 ≤ s2 ∧ s2 < Wd) (p3 : 0 ≤ s3 ∧ s3 < Wd) (p4 : 0 ≤ s4 ∧ s4 < Wd) (p5 : 0 ≤ s5 ∧ s5 < Wd) (hS : s0 + Wd * (s1 + Wd * (s2 + Wd * (s3 + Wd * (s4 + Wd * (s5))))) = S) (hx0 : 0 ≤ S) (hx : S < 2 * Mp) :
    Calls Tryd.prog 146 #[.int .u64 s0, .int .u64 s1, .int .u64 s2, .int .u64 s3, .int .u64 s4, .int .u64 s5] w fun e w' => e = .returned (arr6 (S % Mp)) ∧ Below w.heap.size w w' := by
  rcases Int.lt_or_le S Mp with h | h
  · exact fp_reduced2 s0 s1 s2 s3 s4 s5 S w p0 p1 p2 p3 p4 p5 hS hx0 h
  · exact fp_reduced1 s0 s1 s2 s3 s4 s5 S w p0 p1 p2 p3 p4 p5 hS hx h
end Go.Proofs.YtialfoccalobpaaDoor

/-! ## FpM -/
namespace Go.Proofs.YtialfoccalobpaaDoor
open Go.RowKit
/-- What R times is 1. -/
def Rip : Int := 3231460744492646417066832100176244795738767926513225105051837195607029917124509527734802654356338138714468589979680
theorem Rip_ok : Wd ^ 6 * Rip % Mp = 1 := by decide +kernel
set_option maxHeartbeats 4000000 in
/-- One word of a product: the numbers. -/
theorem mont6 (M v y s t z z5 : Int) (y0 m0 s0 H0 L0 c0 a0 P0 Q0 e0 y1 m1 s1 H1 L1 c1 a1 P1 Q1 e1 y2 m2 s2 H2 L2 c2 a2 P2 Q2 e2 y3 m3 s3 H3 L3 c3 a3 P3 Q3 e3 y4 m4 s4 H4 L4 c4 a4 P4 Q4 e4 y5 m5 s5 H5 L5 c5 a5 P5 Q5 e5 b1 d1 b2 d2 b3 d3 b4 d4 b5 d5 f0 g0 k0 f1 g1 k1 f2 g2 k2 f3 g3 k3 f4 g4 k4 : Int)
    (hy : y = y0 + Wd * (y1 + Wd * (y2 + Wd * (y3 + Wd * (y4 + Wd * (y5)))))) (hm : M = m0 + Wd * (m1 + Wd * (m2 + Wd * (m3 + Wd * (m4 + Wd * (m5)))))) (hs : s = s0 + Wd * (s1 + Wd * (s2 + Wd * (s3 + Wd * (s4 + Wd * (s5))))))
    (hA0 : Wd * H0 + L0 = v * y0) (hA1 : Wd * H1 + L1 = v * y1) (hA2 : Wd * H2 + L2 = v * y2) (hA3 : Wd * H3 + L3 = v * y3) (hA4 : Wd * H4 + L4 = v * y4) (hA5 : Wd * H5 + L5 = v * y5) (hB0 : a0 + Wd * c0 = s0 + L0 + 0) (hB1 : a1 + Wd * c1 = s1 + L1 + c0) (hB2 : a2 + Wd * c2 = s2 + L2 + c1) (hB3 : a3 + Wd * c3 = s3 + L3 + c2) (hB4 : a4 + Wd * c4 = s4 + L4 + c3) (hB5 : a5 + Wd * c5 = s5 + L5 + c4) (hD1 : b1 + Wd * d1 = a1 + H0 + 0) (hD2 : b2 + Wd * d2 = a2 + H1 + d1) (hD3 : b3 + Wd * d3 = a3 + H2 + d2) (hD4 : b4 + Wd * d4 = a4 + H3 + d3) (hD5 : b5 + Wd * d5 = a5 + H4 + d4) (hP0 : Wd * P0 + Q0 = t * m0) (hP1 : Wd * P1 + Q1 = t * m1) (hP2 : Wd * P2 + Q2 = t * m2) (hP3 : Wd * P3 + Q3 = t * m3) (hP4 : Wd * P4 + Q4 = t * m4) (hP5 : Wd * P5 + Q5 = t * m5) (hE : z + Wd * e0 = a0 + Q0 + 0) (hz : z = 0) (hF0 : f0 + Wd * e1 = b1 + Q1 + e0) (hF1 : f1 + Wd * e2 = b2 + Q2 + e1) (hF2 : f2 + Wd * e3 = b3 + Q3 + e2) (hF3 : f3 + Wd * e4 = b4 + Q4 + e3) (hF4 : f4 + Wd * e5 = b5 + Q5 + e4) (hG0 : g0 + Wd * k0 = f0 + P0 + 0) (hG1 : g1 + Wd * k1 = f1 + P1 + k0) (hG2 : g2 + Wd * k2 = f2 + P2 + k1) (hG3 : g3 + Wd * k3 = f3 + P3 + k2) (hG4 : g4 + Wd * k4 = f4 + P4 + k3) (h5 : z5 = H5 + c5 + d5 + e5 + (P5 + k4)) :
    (g0 + Wd * (g1 + Wd * (g2 + Wd * (g3 + Wd * (g4 + Wd * (z5)))))) * Wd = s + v * y + t * M := by
  subst hy hm hs hz h5
  obtain rfl : L0 = v * y0 - Wd * H0 := by omega
  obtain rfl : Q0 = t * m0 - Wd * P0 := by omega
  obtain rfl : L1 = v * y1 - Wd * H1 := by omega
  obtain rfl : Q1 = t * m1 - Wd * P1 := by omega
  obtain rfl : L2 = v * y2 - Wd * H2 := by omega
  obtain rfl : Q2 = t * m2 - Wd * P2 := by omega
  obtain rfl : L3 = v * y3 - Wd * H3 := by omega
  obtain rfl : Q3 = t * m3 - Wd * P3 := by omega
  obtain rfl : L4 = v * y4 - Wd * H4 := by omega
  obtain rfl : Q4 = t * m4 - Wd * P4 := by omega
  obtain rfl : L5 = v * y5 - Wd * H5 := by omega
  obtain rfl : Q5 = t * m5 - Wd * P5 := by omega
  obtain rfl : f0 = g0 + Wd * k0 - P0 - 0 := by omega
  obtain rfl : f1 = g1 + Wd * k1 - P1 - k0 := by omega
  obtain rfl : f2 = g2 + Wd * k2 - P2 - k1 := by omega
  obtain rfl : f3 = g3 + Wd * k3 - P3 - k2 := by omega
  obtain rfl : f4 = g4 + Wd * k4 - P4 - k3 := by omega
  obtain rfl : b1 = ((g0 + Wd * k0 - P0 - 0) + Wd * e1 - (t * m1 - Wd * P1) - e0) := by omega
  obtain rfl : b2 = ((g1 + Wd * k1 - P1 - k0) + Wd * e2 - (t * m2 - Wd * P2) - e1) := by omega
  obtain rfl : b3 = ((g2 + Wd * k2 - P2 - k1) + Wd * e3 - (t * m3 - Wd * P3) - e2) := by omega
  obtain rfl : b4 = ((g3 + Wd * k3 - P3 - k2) + Wd * e4 - (t * m4 - Wd * P4) - e3) := by omega
  obtain rfl : b5 = ((g4 + Wd * k4 - P4 - k3) + Wd * e5 - (t * m5 - Wd * P5) - e4) := by omega
  obtain rfl : a0 = (Wd * e0 - (t * m0 - Wd * P0)) := by omega
  obtain rfl : a1 = (((g0 + Wd * k0 - P0 - 0) + Wd * e1 - (t * m1 - Wd * P1) - e0) + Wd * d1 - H0 - 0) := by omega
  obtain rfl : a2 = (((g1 + Wd * k1 - P1 - k0) + Wd * e2 - (t * m2 - Wd * P2) - e1) + Wd * d2 - H1 - d1) := by omega
  obtain rfl : a3 = (((g2 + Wd * k2 - P2 - k1) + Wd * e3 - (t * m3 - Wd * P3) - e2) + Wd * d3 - H2 - d2) := by omega
  obtain rfl : a4 = (((g3 + Wd * k3 - P3 - k2) + Wd * e4 - (t * m4 - Wd * P4) - e3) + Wd * d4 - H3 - d3) := by omega
  obtain rfl : a5 = (((g4 + Wd * k4 - P4 - k3) + Wd * e5 - (t * m5 - Wd * P5) - e4) + Wd * d5 - H4 - d4) := by omega
  obtain rfl : s0 = (Wd * e0 - (t * m0 - Wd * P0)) + Wd * c0 - (v * y0 - Wd * H0) - 0 := by omega
  obtain rfl : s1 = (((g0 + Wd * k0 - P0 - 0) + Wd * e1 - (t * m1 - Wd * P1) - e0) + Wd * d1 - H0 - 0) + Wd * c1 - (v * y1 - Wd * H1) - c0 := by omega
  obtain rfl : s2 = (((g1 + Wd * k1 - P1 - k0) + Wd * e2 - (t * m2 - Wd * P2) - e1) + Wd * d2 - H1 - d1) + Wd * c2 - (v * y2 - Wd * H2) - c1 := by omega
  obtain rfl : s3 = (((g2 + Wd * k2 - P2 - k1) + Wd * e3 - (t * m3 - Wd * P3) - e2) + Wd * d3 - H2 - d2) + Wd * c3 - (v * y3 - Wd * H3) - c2 := by omega
  obtain rfl : s4 = (((g3 + Wd * k3 - P3 - k2) + Wd * e4 - (t * m4 - Wd * P4) - e3) + Wd * d4 - H3 - d3) + Wd * c4 - (v * y4 - Wd * H4) - c3 := by omega
  obtain rfl : s5 = (((g4 + Wd * k4 - P4 - k3) + Wd * e5 - (t * m5 - Wd * P5) - e4) + Wd * d5 - H4 - d4) + Wd * c5 - (v * y5 - Wd * H5) - c4 := by omega
  clear hA0 hB0 hP0 hA1 hB1 hP1 hA2 hB2 hP2 hA3 hB3 hP3 hA4 hB4 hP4 hA5 hB5 hP5 hD1 hD2 hD3 hD4 hD5 hE hF0 hG0 hF1 hG1 hF2 hG2 hF3 hG3 hF4 hG4
  grind
theorem low_noughtP (t l c d : Int) (ht : t = loW (l * 9940570264628428797)) (q : Int) (hq : q = 13402431016077863595) (hl h1 : Int) (hm : Wd * h1 + hl = t * q) (h : d + Wd * c = l + hl + 0) (d0 : 0 ≤ d) (d1 : d < Wd) : d = 0 := by
  subst hq
  unfold loW at ht
  have h2 := Int.mul_ediv_add_emod (l * 9940570264628428797) Wd
  unfold Wd at *
  omega
theorem idx6_0 (a0 a1 a2 a3 a4 a5 : Int) (u : World) : (Instr.index 33 (.agg #[.int .u64 a0, .int .u64 a1, .int .u64 a2, .int .u64 a3, .int .u64 a4, .int .u64 a5]) (.int .i64 0)).run Tryd.prog u = .ok (.int .u64 a0) u := by kernel_rfl
theorem idx6_1 (a0 a1 a2 a3 a4 a5 : Int) (u : World) : (Instr.index 33 (.agg #[.int .u64 a0, .int .u64 a1, .int .u64 a2, .int .u64 a3, .int .u64 a4, .int .u64 a5]) (.int .i64 1)).run Tryd.prog u = .ok (.int .u64 a1) u := by kernel_rfl
theorem idx6_2 (a0 a1 a2 a3 a4 a5 : Int) (u : World) : (Instr.index 33 (.agg #[.int .u64 a0, .int .u64 a1, .int .u64 a2, .int .u64 a3, .int .u64 a4, .int .u64 a5]) (.int .i64 2)).run Tryd.prog u = .ok (.int .u64 a2) u := by kernel_rfl
theorem idx6_3 (a0 a1 a2 a3 a4 a5 : Int) (u : World) : (Instr.index 33 (.agg #[.int .u64 a0, .int .u64 a1, .int .u64 a2, .int .u64 a3, .int .u64 a4, .int .u64 a5]) (.int .i64 3)).run Tryd.prog u = .ok (.int .u64 a3) u := by kernel_rfl
theorem idx6_4 (a0 a1 a2 a3 a4 a5 : Int) (u : World) : (Instr.index 33 (.agg #[.int .u64 a0, .int .u64 a1, .int .u64 a2, .int .u64 a3, .int .u64 a4, .int .u64 a5]) (.int .i64 4)).run Tryd.prog u = .ok (.int .u64 a4) u := by kernel_rfl
theorem idx6_5 (a0 a1 a2 a3 a4 a5 : Int) (u : World) : (Instr.index 33 (.agg #[.int .u64 a0, .int .u64 a1, .int .u64 a2, .int .u64 a3, .int .u64 a4, .int .u64 a5]) (.int .i64 5)).run Tryd.prog u = .ok (.int .u64 a5) u := by kernel_rfl
theorem xk6 (x : Int) (h0 : 0 ≤ x) (h : x < Wd ^ 6) : xk x 6 = x := by
  have := nu6 x h0 h
  simp only [xk]
  grind
/-- The sum behind k words. -/
structure MRp (x y : Int) (k : Nat) (s0 s1 s2 s3 s4 s5 : Int) : Prop where
  b0 : 0 ≤ s0 ∧ s0 < Wd
  b1 : 0 ≤ s1 ∧ s1 < Wd
  b2 : 0 ≤ s2 ∧ s2 < Wd
  b3 : 0 ≤ s3 ∧ s3 < Wd
  b4 : 0 ≤ s4 ∧ s4 < Wd
  b5 : 0 ≤ s5 ∧ s5 < Wd
  lo : 0 ≤ s0 + Wd * (s1 + Wd * (s2 + Wd * (s3 + Wd * (s4 + Wd * (s5))))) ∧ s0 + Wd * (s1 + Wd * (s2 + Wd * (s3 + Wd * (s4 + Wd * (s5))))) < 2 * Mp
  dv : Mp ∣ (s0 + Wd * (s1 + Wd * (s2 + Wd * (s3 + Wd * (s4 + Wd * (s5)))))) * Wd ^ k - xk x k * y
theorem MRp.zero (x y : Int) : MRp x y 0 0 0 0 0 0 0 := by
  have := wd_pos
  refine ⟨⟨by omega, this⟩, ⟨by omega, this⟩, ⟨by omega, this⟩, ⟨by omega, this⟩, ⟨by omega, this⟩, ⟨by omega, this⟩, ?_, ?_⟩
  · simp [Mp]
  · simp [xk]
theorem MRp.step (x y : Int) (k : Nat) (s0 s1 s2 s3 s4 s5 g0 g1 g2 g3 g4 z5 t : Int) (h : MRp x y k s0 s1 s2 s3 s4 s5) (hy0 : 0 ≤ y) (hy : y < Mp) (ht : 0 ≤ t ∧ t < Wd) (q0 : 0 ≤ g0 ∧ g0 < Wd) (q1 : 0 ≤ g1 ∧ g1 < Wd) (q2 : 0 ≤ g2 ∧ g2 < Wd) (q3 : 0 ≤ g3 ∧ g3 < Wd) (q4 : 0 ≤ g4 ∧ g4 < Wd) (hz : 0 ≤ z5)
    (he : (g0 + Wd * (g1 + Wd * (g2 + Wd * (g3 + Wd * (g4 + Wd * (z5)))))) * Wd = s0 + Wd * (s1 + Wd * (s2 + Wd * (s3 + Wd * (s4 + Wd * (s5))))) + wd x k * y + t * Mp) : MRp x y (k + 1) g0 g1 g2 g3 g4 z5 ∧ z5 < Wd := by
  have hb := mont_bound Mp Wd _ (wd x k) y t _ wd_pos h.lo.1 h.lo.2 (wd_lo x k).1 (wd_lo x k).2 hy0 hy ht.1 ht.2 he
  have hz2 : z5 < Wd := by
    have h2 := hb.2
    unfold Wd Mp at *
    omega
  refine ⟨⟨q0, q1, q2, q3, q4, ⟨hz, hz2⟩, hb, ?_⟩, hz2⟩
  rw [Int.pow_succ]
  exact dvd_round _ _ _ _ _ _ _ _ _ h.dv he
set_option maxRecDepth 100000 in
set_option maxHeartbeats 16000000 in
theorem fp_mul0 (x y : Int) (w : World) (hG : GM0 w) (hx0 : 0 ≤ x) (hx : x < Wd ^ 6) (hy0 : 0 ≤ y) (hy : y < Mp) :
    Calls Tryd.prog 111 #[arr6 x, arr6 y] w fun e w' => e = .returned (arr6 (x * y * Rip % Mp)) ∧ Below w.heap.size w w' := by
  have HG := Lib.hid hG
  have HX := Lib.hid hx
  have HY := Lib.hid hy
  have HX0 := Lib.hid hx0
  have HY0 := Lib.hid hy0
  clear hx hy hx0 hy0 hG
  conv => arg 3; unfold arr6
  go_enter Tryd.func111, Tryd.ntmps111
  go_wp2_with fail
  go_loop [5, 6, 7, 8, 9, 10, 11, 13, 14, 15, 16, 17, 18, 19, 20, 21, 22, 23, 24, 25, 26, 27, 30] (fun S0 S1 S2 S3 S4 S5 _ _ _ _ _ _ _ _ _ _ _ _ _ _ _ _ cnt => ∃ (k : Nat) (s0 s1 s2 s3 s4 s5 : Int), k ≤ 6 ∧ cnt = .int .i64 k ∧ S0 = .int .u64 s0 ∧ S1 = .int .u64 s1 ∧ S2 = .int .u64 s2 ∧ S3 = .int .u64 s3 ∧ S4 = .int .u64 s4 ∧ S5 = .int .u64 s5 ∧ MRp x y k s0 s1 s2 s3 s4 s5) (fun _ _ _ _ _ _ _ _ _ _ _ _ _ _ _ _ _ _ _ _ _ _ cnt => 6 - (intOf cnt).toNat)
  case atStart => exact ⟨0, 0, 0, 0, 0, 0, 0, Nat.zero_le _, rfl, rfl, rfl, rfl, rfl, rfl, rfl, MRp.zero x y⟩
  case round =>
    obtain ⟨k, s0, s1, s2, s3, s4, s5, hk, rfl, rfl, rfl, rfl, rfl, rfl, rfl, hR⟩ := hrel
    by_cases hlt : k < 6
    · have hidx : ∀ u : World, (Instr.index 33 (.agg #[.int .u64 (wd x 0), .int .u64 (wd x 1), .int .u64 (wd x 2), .int .u64 (wd x 3), .int .u64 (wd x 4), .int .u64 (wd x 5)]) (.int .i64 (k : Int))).run Tryd.prog u = .ok (.int .u64 (wd x k)) u := by
        intro u
        match k, hlt with
        | 0, _ => exact idx6_0 _ _ _ _ _ _ u
        | 1, _ => exact idx6_1 _ _ _ _ _ _ u
        | 2, _ => exact idx6_2 _ _ _ _ _ _ u
        | 3, _ => exact idx6_3 _ _ _ _ _ _ u
        | 4, _ => exact idx6_4 _ _ _ _ _ _ u
        | 5, _ => exact idx6_5 _ _ _ _ _ _ u
      have v1 := (wd_lo x k).1
      have v2 := (wd_lo x k).2
      have b0 := hR.b0
      have b1 := hR.b1
      have b2 := hR.b2
      have b3 := hR.b3
      have b4 := hR.b4
      have b5 := hR.b5
      obtain ⟨v, hv⟩ : ∃ v, v = wd x k := ⟨_, rfl⟩
      rw [← hv] at hidx v1 v2
      obtain ⟨H0, L0, CA0, hA0, A0a, A0b, A0c, A0d⟩ := mul64_ex v (wd y 0) v1 v2 (wd_lo y 0).1 (wd_lo y 0).2
      obtain ⟨H1, L1, CA1, hA1, A1a, A1b, A1c, A1d⟩ := mul64_ex v (wd y 1) v1 v2 (wd_lo y 1).1 (wd_lo y 1).2
      obtain ⟨H2, L2, CA2, hA2, A2a, A2b, A2c, A2d⟩ := mul64_ex v (wd y 2) v1 v2 (wd_lo y 2).1 (wd_lo y 2).2
      obtain ⟨H3, L3, CA3, hA3, A3a, A3b, A3c, A3d⟩ := mul64_ex v (wd y 3) v1 v2 (wd_lo y 3).1 (wd_lo y 3).2
      obtain ⟨H4, L4, CA4, hA4, A4a, A4b, A4c, A4d⟩ := mul64_ex v (wd y 4) v1 v2 (wd_lo y 4).1 (wd_lo y 4).2
      obtain ⟨H5, L5, CA5, hA5, A5a, A5b, A5c, A5d⟩ := mul64_ex v (wd y 5) v1 v2 (wd_lo y 5).1 (wd_lo y 5).2
      obtain ⟨a0, c0, CB0, hB0, B0a, B0b, B0c, B0d⟩ := addc_ex s0 L0 0 b0.1 b0.2 A0c A0d (by omega) (by omega)
      obtain ⟨a1, c1, CB1, hB1, B1a, B1b, B1c, B1d⟩ := addc_ex s1 L1 c0 b1.1 b1.2 A1c A1d B0c B0d
      obtain ⟨a2, c2, CB2, hB2, B2a, B2b, B2c, B2d⟩ := addc_ex s2 L2 c1 b2.1 b2.2 A2c A2d B1c B1d
      obtain ⟨a3, c3, CB3, hB3, B3a, B3b, B3c, B3d⟩ := addc_ex s3 L3 c2 b3.1 b3.2 A3c A3d B2c B2d
      obtain ⟨a4, c4, CB4, hB4, B4a, B4b, B4c, B4d⟩ := addc_ex s4 L4 c3 b4.1 b4.2 A4c A4d B3c B3d
      obtain ⟨a5, c5, CB5, hB5, B5a, B5b, B5c, B5d⟩ := addc_ex s5 L5 c4 b5.1 b5.2 A5c A5d B4c B4d
      obtain ⟨u1, d1, CD1, hD1, D1a, D1b, D1c, D1d⟩ := addc_ex a1 H0 0 B1a B1b A0a A0b (by omega) (by omega)
      obtain ⟨u2, d2, CD2, hD2, D2a, D2b, D2c, D2d⟩ := addc_ex a2 H1 d1 B2a B2b A1a A1b D1c D1d
      obtain ⟨u3, d3, CD3, hD3, D3a, D3b, D3c, D3d⟩ := addc_ex a3 H2 d2 B3a B3b A2a A2b D2c D2d
      obtain ⟨u4, d4, CD4, hD4, D4a, D4b, D4c, D4d⟩ := addc_ex a4 H3 d3 B4a B4b A3a A3b D3c D3d
      obtain ⟨u5, d5, CD5, hD5, D5a, D5b, D5c, D5d⟩ := addc_ex a5 H4 d4 B5a B5b A4a A4b D4c D4d
      obtain ⟨t, ht⟩ : ∃ t, t = loW (a0 * 9940570264628428797) := ⟨_, rfl⟩
      have t1 : 0 ≤ t := by rw [ht]; exact (loW_in _).1
      have t2 : t < Wd := by rw [ht]; exact (loW_in _).2
      have hwt : IntKind.u64.wrap (a0 * 9940570264628428797) = t := by rw [wrapU, ht]
      obtain ⟨P0, Q0, CP0, hP0, P0a, P0b, P0c, P0d⟩ := mul64_ex t 13402431016077863595 t1 t2 (by omega) (by simp [Wd])
      obtain ⟨P1, Q1, CP1, hP1, P1a, P1b, P1c, P1d⟩ := mul64_ex t 2210141511517208575 t1 t2 (by omega) (by simp [Wd])
      obtain ⟨P2, Q2, CP2, hP2, P2a, P2b, P2c, P2d⟩ := mul64_ex t 7435674573564081700 t1 t2 (by omega) (by simp [Wd])
      obtain ⟨P3, Q3, CP3, hP3, P3a, P3b, P3c, P3d⟩ := mul64_ex t 7239337960414712511 t1 t2 (by omega) (by simp [Wd])
      obtain ⟨P4, Q4, CP4, hP4, P4a, P4b, P4c, P4d⟩ := mul64_ex t 5412103778470702295 t1 t2 (by omega) (by simp [Wd])
      obtain ⟨P5, Q5, CP5, hP5, P5a, P5b, P5c, P5d⟩ := mul64_ex t 1873798617647539866 t1 t2 (by omega) (by simp [Wd])
      obtain ⟨z, e0, CE, hE, Ea, Eb, E0c, E0d⟩ := addc_ex a0 Q0 0 B0a B0b P0c P0d (by omega) (by omega)
      have hz := low_noughtP t a0 e0 z ht _ rfl Q0 P0 hP0.out hE.out Ea Eb
      obtain ⟨f0, e1, CF0, hF0, F0a, F0b, E1c, E1d⟩ := addc_ex u1 Q1 e0 D1a D1b P1c P1d E0c E0d
      obtain ⟨f1, e2, CF1, hF1, F1a, F1b, E2c, E2d⟩ := addc_ex u2 Q2 e1 D2a D2b P2c P2d E1c E1d
      obtain ⟨f2, e3, CF2, hF2, F2a, F2b, E3c, E3d⟩ := addc_ex u3 Q3 e2 D3a D3b P3c P3d E2c E2d
      obtain ⟨f3, e4, CF3, hF3, F3a, F3b, E4c, E4d⟩ := addc_ex u4 Q4 e3 D4a D4b P4c P4d E3c E3d
      obtain ⟨f4, e5, CF4, hF4, F4a, F4b, E5c, E5d⟩ := addc_ex u5 Q5 e4 D5a D5b P5c P5d E4c E4d
      obtain ⟨g0, k0, CG0, hG0, G0a, G0b, G0c, G0d⟩ := addc_ex f0 P0 0 F0a F0b P0a P0b (by omega) (by omega)
      obtain ⟨g1, k1, CG1, hG1, G1a, G1b, G1c, G1d⟩ := addc_ex f1 P1 k0 F1a F1b P1a P1b G0c G0d
      obtain ⟨g2, k2, CG2, hG2, G2a, G2b, G2c, G2d⟩ := addc_ex f2 P2 k1 F2a F2b P2a P2b G1c G1d
      obtain ⟨g3, k3, CG3, hG3, G3a, G3b, G3c, G3d⟩ := addc_ex f3 P3 k2 F3a F3b P3a P3b G2c G2d
      obtain ⟨g4, k4, CG4, hG4, G4a, G4b, G4c, G4d⟩ := addc_ex f4 P4 k3 F4a F4b P4a P4b G3c G3d
      have hst : ∀ z5, 0 ≤ z5 → z5 = H5 + c5 + d5 + e5 + (P5 + k4) → MRp x y (k + 1) g0 g1 g2 g3 g4 z5 ∧ z5 < Wd := fun z5 z0 hz5 => by
        refine hR.step x y k s0 s1 s2 s3 s4 s5 g0 g1 g2 g3 g4 z5 t HY0.out HY.out ⟨t1, t2⟩ ⟨G0a, G0b⟩ ⟨G1a, G1b⟩ ⟨G2a, G2b⟩ ⟨G3a, G3b⟩ ⟨G4a, G4b⟩ z0 ?_
        have hM := Mp_lo
        rw [← hv]
        exact mont6 Mp v y _ t z z5 _ _ _ _ _ _ _ _ _ _ _ _ _ _ _ _ _ _ _ _ _ _ _ _ _ _ _ _ _ _ _ _ _ _ _ _ _ _ _ _ _ _ _ _ _ _ _ _ _ _ _ _ _ _ _ _ _ _ _ _ _ _ _ _ _ _ _ _ _ _ _ _ _ _ _ _ _ _ _ _ _ _ _ _ _ (nu6 y HY0.out (by have := HY.out; omega)) Mp_words rfl hA0.out hA1.out hA2.out hA3.out hA4.out hA5.out hB0.out hB1.out hB2.out hB3.out hB4.out hB5.out hD1.out hD2.out hD3.out hD4.out hD5.out hP0.out hP1.out hP2.out hP3.out hP4.out hP5.out hE.out hz hF0.out hF1.out hF2.out hF3.out hF4.out hG0.out hG1.out hG2.out hG3.out hG4.out hz5
      obtain ⟨z5, hz5⟩ : ∃ z5, z5 = H5 + c5 + d5 + e5 + (P5 + k4) := ⟨_, rfl⟩
      obtain ⟨hst1, hst2⟩ := hst z5 (by omega) hz5
      have w1 : IntKind.u64.wrap (H5 + c5) = H5 + c5 := by rw [wrapU]; exact loW_of (by omega) (by omega)
      have w2 : IntKind.u64.wrap (H5 + c5 + d5) = H5 + c5 + d5 := by rw [wrapU]; exact loW_of (by omega) (by omega)
      have w3 : IntKind.u64.wrap (H5 + c5 + d5 + e5) = H5 + c5 + d5 + e5 := by rw [wrapU]; exact loW_of (by omega) (by omega)
      have w4 : IntKind.u64.wrap (P5 + k4) = P5 + k4 := by rw [wrapU]; exact loW_of (by omega) (by omega)
      have w5 : IntKind.u64.wrap (H5 + c5 + d5 + e5 + (P5 + k4)) = z5 := by rw [wrapU, ← hz5]; exact loW_of (by omega) hst2
      have HR := Lib.hid hst1
      subst hz
      clear hst hst1 hst2 hz5 hv hR ht t1 t2 v1 v2 hk Ea Eb A0a A0b A0c A0d hA0 B0a B0b B0c B0d hB0 P0a P0b P0c P0d hP0 b0 E0c E0d A1a A1b A1c A1d hA1 B1a B1b B1c B1d hB1 P1a P1b P1c P1d hP1 b1 E1c E1d A2a A2b A2c A2d hA2 B2a B2b B2c B2d hB2 P2a P2b P2c P2d hP2 b2 E2c E2d A3a A3b A3c A3d hA3 B3a B3b B3c B3d hB3 P3a P3b P3c P3d hP3 b3 E3c E3d A4a A4b A4c A4d hA4 B4a B4b B4c B4d hB4 P4a P4b P4c P4d hP4 b4 E4c E4d A5a A5b A5c A5d hA5 B5a B5b B5c B5d hB5 P5a P5b P5c P5d hP5 b5 E5c E5d D1a D1b D1c D1d hD1 D2a D2b D2c D2d hD2 D3a D3b D3c D3d hD3 D4a D4b D4c D4d hD4 D5a D5b D5c D5d hD5 hE F0a F0b hF0 G0a G0b G0c G0d hG0 F1a F1b hF1 G1a G1b G1c G1d hG1 F2a F2b hF2 G2a G2b G2c G2d hG2 F3a F3b hF3 G3a G3b G3c G3d hG3 F4a F4b hF4 G4a G4b G4c G4d hG4
      have i1 : (k : Int) < 6 := by omega
      go_wp2_with fail
      refine (CA0.out _).mono ?_
      rintro e w' ⟨rfl, rfl⟩
      go_wp2_with fail
      refine (CA1.out _).mono ?_
      rintro e w' ⟨rfl, rfl⟩
      go_wp2_with fail
      refine (CA2.out _).mono ?_
      rintro e w' ⟨rfl, rfl⟩
      go_wp2_with fail
      refine (CA3.out _).mono ?_
      rintro e w' ⟨rfl, rfl⟩
      go_wp2_with fail
      refine (CA4.out _).mono ?_
      rintro e w' ⟨rfl, rfl⟩
      go_wp2_with fail
      refine (CA5.out _).mono ?_
      rintro e w' ⟨rfl, rfl⟩
      go_wp2_with (first | rw [CB0.out] | rw [CB1.out] | rw [CB2.out] | rw [CB3.out] | rw [CB4.out] | rw [CB5.out] | rw [CD1.out] | rw [CD2.out] | rw [CD3.out] | rw [CD4.out] | rw [CD5.out])
      refine (CP0.out _).mono ?_
      rintro e w' ⟨rfl, rfl⟩
      go_wp2_with fail
      refine (CP1.out _).mono ?_
      rintro e w' ⟨rfl, rfl⟩
      go_wp2_with fail
      refine (CP2.out _).mono ?_
      rintro e w' ⟨rfl, rfl⟩
      go_wp2_with fail
      refine (CP3.out _).mono ?_
      rintro e w' ⟨rfl, rfl⟩
      go_wp2_with fail
      refine (CP4.out _).mono ?_
      rintro e w' ⟨rfl, rfl⟩
      go_wp2_with fail
      refine (CP5.out _).mono ?_
      rintro e w' ⟨rfl, rfl⟩
      go_wp2_with (first | rw [CE.out] | rw [CF0.out] | rw [CF1.out] | rw [CF2.out] | rw [CF3.out] | rw [CF4.out] | rw [CG0.out] | rw [CG1.out] | rw [CG2.out] | rw [CG3.out] | rw [CG4.out])
      exact ⟨⟨k + 1, g0, g1, g2, g3, g4, z5, by omega, by go_num, rfl, rfl, rfl, rfl, rfl, rfl, HR.out⟩, by simp [intOf]; omega⟩
    · obtain rfl : k = 6 := by omega
      obtain ⟨S, hS⟩ : ∃ S, S = s0 + Wd * (s1 + Wd * (s2 + Wd * (s3 + Wd * (s4 + Wd * (s5))))) := ⟨_, rfl⟩
      have BB := Lib.hid (And.intro hR.b0 (And.intro hR.b1 (And.intro hR.b2 (And.intro hR.b3 (And.intro hR.b4 hR.b5)))))
      have HSS := Lib.hid hS
      have hlo := hR.lo
      have hdv := hR.dv
      rw [← hS, xk6 x HX0.out HX.out] at hdv
      rw [← hS] at hlo
      have hfin : S % Mp = x * y * Rip % Mp := by
        have hM := Mp_lo
        refine mont_fin Mp (Wd ^ 6) Rip x y (S % Mp) Rip_ok (Int.emod_nonneg _ (by omega)) (Int.emod_lt_of_pos _ (by omega)) ?_
        obtain ⟨q, hq⟩ := hdv
        have e := Int.mul_ediv_add_emod S Mp
        refine ⟨q - (S / Mp) * Wd ^ 6, ?_⟩
        have e2 : S % Mp = S - Mp * (S / Mp) := by omega
        rw [e2]
        grind
      have FN := Lib.hid hfin
      have LO := Lib.hid hlo
      clear hR hfin hlo hdv hS hk hlt
      have j1 : decide (((6 : Nat) : Int) < 6) = false := by decide
      go_wp2_with fail
      refine (fp_reduced s0 s1 s2 s3 s4 s5 S _ BB.out.1 BB.out.2.1 BB.out.2.2.1 BB.out.2.2.2.1 BB.out.2.2.2.2.1 BB.out.2.2.2.2.2 HSS.out.symm LO.out.1 LO.out.2).mono ?_
      rintro e w1 ⟨rfl, hB⟩
      rw [FN.out]
      obtain ⟨f0, f1, f2, f3, f4, f5, z0, z1, z2, z3, z4, z5, hg⟩ := res6 (t := 35) (c0 := .int .u64 0) (c1 := .int .u64 0) (c2 := .int .u64 0) (c3 := .int .u64 0) (c4 := .int .u64 0) (c5 := .int .u64 0) (bump2 w _ _ _ _) hB
      have hW : Below w.heap.size w w1 := Below.trans (by repeat (first | (with_reducible exact Below.refl _ _) | (with_reducible refine Below.drew ?_) | (with_reducible refine Below.alloc ?_ (by simp; try omega) _))) (hB.mono (by simp; try omega))
      have HW := Lib.hid hW
      clear hB hW
      obtain ⟨Z, hZ⟩ : ∃ Z, Z = x * y * Rip % Mp := ⟨_, rfl⟩
      rw [← hZ]
      have HZ := Lib.hid hZ
      clear hZ
      unfold arr6
      go_wp2_with fail
      refine bodyPost_ret (v := arr6 Z) (by simp [arr6, results, Tryd.results111, go_sem, f0, f1, f2, f3, f4, f5]) rfl ⟨by rw [HZ.out], ?_⟩
      repeat (first | (with_reducible exact HW.out) | (with_reducible refine Below.drew ?_) | (with_reducible refine Below.alloc ?_ (by first | assumption | (simp; done) | (simp; omega)) _) | (with_reducible refine Below.setCell ?_ (by simp; try omega) _))
end Go.Proofs.YtialfoccalobpaaDoor

/-! ## FpE -/
namespace Go.Proofs.YtialfoccalobpaaDoor
open Go.RowKit
set_option maxRecDepth 100000 in
set_option maxHeartbeats 2000000 in
theorem fp_below_lt (x y : Int) (w : World) (hx0 : 0 ≤ x) (hy0 : 0 ≤ y) (hy : y < Wd ^ 6) (h : x < y) :
    Calls Tryd.prog 125 #[arr6 x, arr6 y] w fun e w' => e = .returned (.bool true) ∧ Below w.heap.size w w' := by
  have HY := Lib.hid hy
  clear hy
  conv => arg 3; unfold arr6
  go_enter Tryd.func125, Tryd.ntmps125
  go_wp2_with fail
  refine (fp_minus_lt x y _ hx0 hy0 HY.out h).mono ?_
  rintro e w1 ⟨rfl, hB⟩
  have hW : Below w.heap.size w w1 := Below.trans (by repeat (first | (with_reducible exact Below.refl _ _) | (with_reducible refine Below.drew ?_) | (with_reducible refine Below.alloc ?_ (by simp; try omega) _))) (hB.mono (by simp; try omega))
  have hsz := hW.size
  have HW := Lib.hid hW
  clear hB hW
  unfold arr6
  go_wp2_with fail
  go_ret
  refine ⟨rfl, ?_⟩
  repeat (first | (with_reducible exact HW.out) | (with_reducible refine Below.drew ?_) | (with_reducible refine Below.alloc ?_ (by first | assumption | (simp; done) | (simp; omega)) _) | (with_reducible refine Below.setCell ?_ (by simp; try omega) _))
end Go.Proofs.YtialfoccalobpaaDoor

/-! ## FpF -/
namespace Go.Proofs.YtialfoccalobpaaDoor
open Go.RowKit
/-- The element of a number. -/
def pv (x : Int) : Value := arr6 (fe Mp (Wd ^ 6) x)
theorem pe_in (x : Int) : 0 ≤ fe Mp (Wd ^ 6) x ∧ fe Mp (Wd ^ 6) x < Mp := fe_lo Mp_lo.1 x
theorem pv_cast {x y : Int} (h : x % Mp = y % Mp) : pv x = pv y := by unfold pv; rw [(fe_inj Rip_ok).2 h]
structure GSqp (w : World) : Prop where
  c0 : w.cell? ⟨6, 0, none⟩ = some (.int .u64 (wd (fe Mp (Wd ^ 6) (Wd ^ 6)) 0))
  c1 : w.cell? ⟨6, 1, none⟩ = some (.int .u64 (wd (fe Mp (Wd ^ 6) (Wd ^ 6)) 1))
  c2 : w.cell? ⟨6, 2, none⟩ = some (.int .u64 (wd (fe Mp (Wd ^ 6) (Wd ^ 6)) 2))
  c3 : w.cell? ⟨6, 3, none⟩ = some (.int .u64 (wd (fe Mp (Wd ^ 6) (Wd ^ 6)) 3))
  c4 : w.cell? ⟨6, 4, none⟩ = some (.int .u64 (wd (fe Mp (Wd ^ 6) (Wd ^ 6)) 4))
  c5 : w.cell? ⟨6, 5, none⟩ = some (.int .u64 (wd (fe Mp (Wd ^ 6) (Wd ^ 6)) 5))
theorem GSqp.keep {w w' : World} (h : GSqp w) (hb : Below w.heap.size w w') : GSqp w' := by
  have hl := World.block_lt_of_cell? w _ h.c0
  exact ⟨(hb.cell (p := ⟨_, 0, none⟩) hl).trans h.c0, (hb.cell (p := ⟨_, 1, none⟩) hl).trans h.c1, (hb.cell (p := ⟨_, 2, none⟩) hl).trans h.c2, (hb.cell (p := ⟨_, 3, none⟩) hl).trans h.c3, (hb.cell (p := ⟨_, 4, none⟩) hl).trans h.c4, (hb.cell (p := ⟨_, 5, none⟩) hl).trans h.c5⟩
theorem fp_add (x y : Int) (w : World) (_hG : GM0 w) : Calls Tryd.prog 112 #[pv x, pv y] w fun e w' => e = .returned (pv (x + y)) ∧ Below w.heap.size w w' := by
  have h := fp_add0 _ _ w (pe_in x).1 (pe_in x).2 (pe_in y).1 (pe_in y).2
  rwa [fe_add] at h
theorem fp_sub (x y : Int) (w : World) (_hG : GM0 w) : Calls Tryd.prog 127 #[pv x, pv y] w fun e w' => e = .returned (pv (x - y)) ∧ Below w.heap.size w w' := by
  have h := fp_sub0 _ _ w (pe_in x).1 (pe_in x).2 (pe_in y).1 (pe_in y).2
  rwa [fe_sub] at h
theorem pe_zero : fe Mp (Wd ^ 6) 0 = 0 := by simp [fe]
theorem fp_mul (x y : Int) (w : World) (hG : GM0 w) : Calls Tryd.prog 111 #[pv x, pv y] w fun e w' => e = .returned (pv (x * y)) ∧ Below w.heap.size w w' := by
  have hM := Mp_lo
  have h := fp_mul0 _ _ w hG (pe_in x).1 (by have := (pe_in x).2; omega) (pe_in y).1 (pe_in y).2
  rwa [fe_mul Rip_ok] at h
theorem arr6_small (n : Int) (h0 : 0 ≤ n) (h : n < Wd) : (.agg #[.int .u64 n, .int .u64 0, .int .u64 0, .int .u64 0, .int .u64 0, .int .u64 0] : Value) = arr6 n :=
  arr6_of n 0 0 0 0 0 n ⟨h0, h⟩ ⟨by omega, wd_pos⟩ ⟨by omega, wd_pos⟩ ⟨by omega, wd_pos⟩ ⟨by omega, wd_pos⟩ ⟨by omega, wd_pos⟩ (by omega)
set_option maxRecDepth 100000 in
set_option maxHeartbeats 2000000 in
theorem fp_formed (a : Int) (w : World) (hG : GM0 w) (hS : GSqp w) (ha0 : 0 ≤ a) (ha : a < Wd ^ 6) :
    Calls Tryd.prog 114 #[arr6 a] w fun e w' => e = .returned (pv a) ∧ Below w.heap.size w w' := by
  have HG := Lib.hid hG
  have HA := Lib.hid ha
  have hfin := fe_of (M := Mp) Rip_ok a
  obtain ⟨q, hq⟩ : ∃ q, q = fe Mp (Wd ^ 6) (Wd ^ 6) := ⟨_, rfl⟩
  have q1 : 0 ≤ q ∧ q < Mp := by rw [hq]; exact pe_in _
  rw [← hq] at hfin
  have FN := Lib.hid hfin
  obtain ⟨g0, g1, g2, g3, g4, g5⟩ := hS
  have g9 := World.block_lt_of_cell? w _ g0
  have g10 : 0 < w.heap.size := by omega
  rw [← hq] at g0 g1 g2 g3 g4 g5
  clear hq hfin hG ha
  unfold pv
  obtain ⟨z, hz⟩ : ∃ z, z = fe Mp (Wd ^ 6) a := ⟨_, rfl⟩
  rw [← hz]
  have HZ := Lib.hid hz
  clear hz
  conv => arg 3; unfold arr6
  go_enter Tryd.func114, Tryd.ntmps114
  go_wp2_with fail
  refine (fp_mul0 a q _ (HG.out.keep (by repeat (first | (with_reducible exact Below.refl _ _) | (with_reducible refine Below.drew ?_) | (with_reducible refine Below.alloc ?_ (by simp; try omega) _)))) ha0 HA.out q1.1 q1.2).mono ?_
  rintro e w1 ⟨rfl, hB⟩
  rw [FN.out, ← HZ.out]
  obtain ⟨f0, f1, f2, f3, f4, f5, z0, z1, z2, z3, z4, z5, hg⟩ := res6 (t := 35) (c0 := .int .u64 0) (c1 := .int .u64 0) (c2 := .int .u64 0) (c3 := .int .u64 0) (c4 := .int .u64 0) (c5 := .int .u64 0) (bump1 w _ _ _) hB
  have hW : Below w.heap.size w w1 := Below.trans (by repeat (first | (with_reducible exact Below.refl _ _) | (with_reducible refine Below.drew ?_) | (with_reducible refine Below.alloc ?_ (by simp; try omega) _))) (hB.mono (by simp; try omega))
  have HW := Lib.hid hW
  clear hB hW
  unfold arr6
  go_wp2_with fail
  refine bodyPost_ret (v := arr6 z) (by simp [arr6, results, Tryd.results114, go_sem, f0, f1, f2, f3, f4, f5]) rfl ⟨rfl, ?_⟩
  repeat (first | (with_reducible exact HW.out) | (with_reducible refine Below.drew ?_) | (with_reducible refine Below.alloc ?_ (by first | assumption | (simp; done) | (simp; omega)) _) | (with_reducible refine Below.setCell ?_ (by simp; try omega) _))
set_option maxRecDepth 100000 in
set_option maxHeartbeats 2000000 in
theorem fp_plain (x : Int) (w : World) (hG : GM0 w) :
    Calls Tryd.prog 55 #[pv x] w fun e w' => e = .returned (arr6 (x % Mp)) ∧ Below w.heap.size w w' := by
  have hM := Mp_lo
  have HG := Lib.hid hG
  have hfin := fe_plain (M := Mp) Rip_ok x
  obtain ⟨z, hz⟩ : ∃ z, z = x % Mp := ⟨_, rfl⟩
  rw [← hz] at hfin ⊢
  unfold pv
  have hin := pe_in x
  obtain ⟨q, hq⟩ : ∃ q, q = fe Mp (Wd ^ 6) x := ⟨_, rfl⟩
  rw [← hq] at hfin hin ⊢
  have HA := Lib.hid (show q < Wd ^ 6 by omega)
  have FN := Lib.hid hfin
  have H1 := Lib.hid (show (1 : Int) < Mp by simp [Mp])
  clear hG hz hq hfin hM
  have hfd : ∀ (a b c d m l : Int) (u : World), (Instr.field 35 (.agg #[.int .u64 a, .int .u64 b, .int .u64 c, .int .u64 d, .int .u64 m, .int .u64 l]) 0).run Tryd.prog u = .ok (.agg #[.int .u64 a, .int .u64 b, .int .u64 c, .int .u64 d, .int .u64 m, .int .u64 l]) u := fun _ _ _ _ _ _ _ => by kernel_rfl
  conv => arg 3; unfold arr6
  go_enter Tryd.func55, Tryd.ntmps55
  go_wp2_with fail
  rw [arr6_small 1 (by omega) (by simp [Wd])]
  refine (fp_mul0 q 1 _ (HG.out.keep (by repeat (first | (with_reducible exact Below.refl _ _) | (with_reducible refine Below.drew ?_) | (with_reducible refine Below.alloc ?_ (by simp; try omega) _)))) hin.1 HA.out (by omega) H1.out).mono ?_
  rintro e w1 ⟨rfl, hB⟩
  rw [Int.mul_one, FN.out]
  obtain ⟨f0, f1, f2, f3, f4, f5, z0, z1, z2, z3, z4, z5, hg⟩ := res6 (t := 33) (c0 := .int .u64 0) (c1 := .int .u64 0) (c2 := .int .u64 0) (c3 := .int .u64 0) (c4 := .int .u64 0) (c5 := .int .u64 0) (bump1 w _ _ _) hB
  have hW : Below w.heap.size w w1 := Below.trans (by repeat (first | (with_reducible exact Below.refl _ _) | (with_reducible refine Below.drew ?_) | (with_reducible refine Below.alloc ?_ (by simp; try omega) _))) (hB.mono (by simp; try omega))
  have HW := Lib.hid hW
  clear hB hW
  unfold arr6
  go_wp2_with fail
  refine bodyPost_ret (v := arr6 z) (by simp [arr6, results, Tryd.results55, go_sem, f0, f1, f2, f3, f4, f5]) rfl ⟨rfl, ?_⟩
  repeat (first | (with_reducible exact HW.out) | (with_reducible refine Below.drew ?_) | (with_reducible refine Below.alloc ?_ (by first | assumption | (simp; done) | (simp; omega)) _) | (with_reducible refine Below.setCell ?_ (by simp; try omega) _))
set_option maxRecDepth 100000 in
set_option maxHeartbeats 2000000 in
theorem fp_of (n : Int) (w : World) (hG : GM0 w) (hS : GSqp w) (h0 : 0 ≤ n) (hn : n < Wd) :
    Calls Tryd.prog 120 #[.int .u64 n] w fun e w' => e = .returned (pv n) ∧ Below w.heap.size w w' := by
  have HG := Lib.hid hG
  have HS := Lib.hid hS
  have HN := Lib.hid hn
  have HN6 := Lib.hid (show n < Wd ^ 6 by unfold Wd at *; omega)
  obtain ⟨z, hz⟩ : ∃ z, z = pv n := ⟨_, rfl⟩
  rw [← hz]
  have HZ := Lib.hid hz
  clear hG hS hn hz
  go_enter Tryd.func120, Tryd.ntmps120
  go_wp2_with fail
  rw [arr6_small n h0 HN.out]
  refine (fp_formed n _ (HG.out.keep (by repeat (first | (with_reducible exact Below.refl _ _) | (with_reducible refine Below.drew ?_) | (with_reducible refine Below.alloc ?_ (by simp; try omega) _)))) (HS.out.keep (by repeat (first | (with_reducible exact Below.refl _ _) | (with_reducible refine Below.drew ?_) | (with_reducible refine Below.alloc ?_ (by simp; try omega) _)))) h0 HN6.out).mono ?_
  rintro e w1 ⟨rfl, hB⟩
  obtain ⟨f0, f1, f2, f3, f4, f5, z0, z1, z2, z3, z4, z5, hg⟩ := res6 (t := 35) (c0 := .int .u64 0) (c1 := .int .u64 0) (c2 := .int .u64 0) (c3 := .int .u64 0) (c4 := .int .u64 0) (c5 := .int .u64 0) (Blk.new w _ _) hB
  have hW : Below w.heap.size w w1 := Below.trans (by repeat (first | (with_reducible exact Below.refl _ _) | (with_reducible refine Below.drew ?_) | (with_reducible refine Below.alloc ?_ (by simp; try omega) _))) (hB.mono (by simp; try omega))
  have HW := Lib.hid hW
  clear hB hW
  unfold pv arr6
  go_wp2_with fail
  refine bodyPost_ret (v := pv n) (by simp [pv, arr6, results, Tryd.results120, go_sem, f0, f1, f2, f3, f4, f5]) rfl ⟨by rw [HZ.out], ?_⟩
  repeat (first | (with_reducible exact HW.out) | (with_reducible refine Below.drew ?_) | (with_reducible refine Below.alloc ?_ (by first | assumption | (simp; done) | (simp; omega)) _) | (with_reducible refine Below.setCell ?_ (by simp; try omega) _))
end Go.Proofs.YtialfoccalobpaaDoor

/-! ## FpG -/
namespace Go.Proofs.YtialfoccalobpaaDoor
open Go.RowKit
set_option maxRecDepth 100000 in
set_option maxHeartbeats 1000000 in
theorem fp_number (w : World) (B : Nat) (A : Option Addr) (n c : Nat) (bs : List Int) (hr : Reads w B A n (bs.map (Value.int .u8))) (ho : Oct bs) (hn : n ≤ 8) :
    Calls Tryd.prog 113 #[.slice A n c] w fun e w' => e = .returned (.int .u64 (num bs)) ∧ w = w' := by
  have hl : bs.length = n := by simpa using hr.1
  have HL := Lib.hid hl
  have HR := Lib.hid hr
  clear hr hl
  go_enter Tryd.func113, Tryd.ntmps113
  go_wp2_with fail
  go_loop [3, 5, 8] (fun a _ i => ∃ k : Nat, k ≤ n ∧ i = .int .i64 k ∧ a = .int .u64 (num (bs.take k))) (fun _ _ i => n - (intOf i).toNat)
  case atStart => exact ⟨0, Nat.zero_le _, rfl, rfl⟩
  case round =>
    obtain ⟨k, hk, rfl, rfl⟩ := hrel
    by_cases hlt : k < n
    · obtain ⟨b0, o0, rfl, _, hc⟩ := reads_cell HR.out hlt
      have e := take_snoc bs k (by rw [HL.out]; exact hlt)
      have ha := num_lt (bs.take k) (ho.take k)
      have hb := ho.at_ k
      have hp : (256 : Int) ^ (bs.take k).length ≤ 256 ^ 7 := by
        have : (bs.take k).length ≤ 7 := by simp; omega
        exact_mod_cast Nat.pow_le_pow_right (n := 256) (by omega) this
      obtain ⟨a, hA⟩ : ∃ a, a = num (bs.take k) := ⟨_, rfl⟩
      obtain ⟨b, hB⟩ : ∃ b, b = gt bs k := ⟨_, rfl⟩
      rw [← hB] at e hc hb
      have hs : num (bs.take (k + 1)) = a * 256 + b := by rw [e, num_snoc, hA]
      rw [← hA] at ha ⊢
      have ha9 : a * 256 < 18446744073709551616 := by omega
      have hor := or_shift a b ha.1 ha9 hb.1 hb.2
      have HO := Lib.hid hor
      have HS := Lib.hid hs
      have a1 := ha.1
      have i1 : (k : Int) < n := by omega
      have hwr : IntKind.u64.wrap (a * 256) = a * 256 := by rw [wrapU]; exact loW_of (by omega) (by unfold Wd; omega)
      have hwb : IntKind.u64.wrap b = b := by rw [wrapU]; exact loW_of hb.1 (by unfold Wd; omega)
      clear hor hs ha hb hp ha9 e hA hB
      go_wp2_with fail
      exact ⟨⟨k + 1, by omega, by go_num, by rw [HO.out, HS.out]⟩, by simp [intOf]; omega⟩
    · obtain rfl : k = n := by omega
      have hf : bs.take k = bs := List.take_of_length_le (by rw [HL.out]; omega)
      rw [hf]
      clear hf
      have i1 : ¬ ((k : Int) < k) := by omega
      go_wp2_with fail
      go_ret
      exact ⟨rfl, rfl⟩
end Go.Proofs.YtialfoccalobpaaDoor

/-! ## FpI -/
namespace Go.Proofs.YtialfoccalobpaaDoor
open Go.RowKit
end Go.Proofs.YtialfoccalobpaaDoor

/-! ## FpJ -/
namespace Go.Proofs.YtialfoccalobpaaDoor
open Go.RowKit
end Go.Proofs.YtialfoccalobpaaDoor

/-! ## FpK -/
namespace Go.Proofs.YtialfoccalobpaaDoor
open Go.RowKit
theorem word6_at {w : World} {g : Nat} {t : TypeId} {n : Int} (h : Blk w g t #[.int .u64 (wd n 0), .int .u64 (wd n 1), .int .u64 (wd n 2), .int .u64 (wd n 3), .int .u64 (wd n 4), .int .u64 (wd n 5)]) (k : Nat) (hk : k < 6) : w.cell? ⟨g, k, none⟩ = some (.int .u64 (wd n k)) := by
  match k, hk with
  | 0, _ => exact h.at_ rfl
  | 1, _ => exact h.at_ rfl
  | 2, _ => exact h.at_ rfl
  | 3, _ => exact h.at_ rfl
  | 4, _ => exact h.at_ rfl
  | 5, _ => exact h.at_ rfl
/-- The world in Bytes' rounds. -/
structure BWp (w wr : World) (g4 : Nat) (n : Int) (Z : Array Value) (k : Nat) : Prop where
  be : Below w.heap.size w wr
  br : Blk wr (w.heap.size + 1) 31 Z
  bb : Blk wr (w.heap.size + 1 + 1) 31 (ag8 (List.replicate (48 - k) 0 ++ lo n k))
  b4 : Blk wr g4 33 #[.int .u64 (wd n 0), .int .u64 (wd n 1), .int .u64 (wd n 2), .int .u64 (wd n 3), .int .u64 (wd n 4), .int .u64 (wd n 5)]
  h4 : w.heap.size + 1 + 1 < g4
theorem BWp.step {w wr : World} {g4 : Nat} {n : Int} {Z : Array Value} {k : Nat} (h : BWp w wr g4 n Z k) (hk : k < 48) : BWp w (wr.setCell ⟨w.heap.size + 1 + 1, 47 - k, none⟩ (.int .u8 (n / 256 ^ k % 256))) g4 n Z (k + 1) :=
  ⟨h.be.setCell (by simp; omega) _, h.br.far (by simp) _, (h.bb.set_ _ _).cast (by rw [ag8_set, show 47 - k = 48 - 1 - k by omega, set_lo n 48 k hk]), h.b4.far (by have := h.h4; simp; omega) _, h.h4⟩
theorem zero71 (w : World) : (zeroValue 31).run Tryd.prog w = .ok (.agg (ag8 (List.replicate 48 0))) w := by kernel_rfl
set_option maxRecDepth 100000 in
set_option maxHeartbeats 4000000 in
theorem fp_bytes (x : Int) (w : World) (hG : GM0 w) :
    Calls Tryd.prog 12 #[pv x] w fun e w' => e = .returned (.agg (ag8 (lo (x % Mp) 48))) ∧ Below w.heap.size w w' := by
  have HG := Lib.hid hG
  have hpl := fp_plain x
  have hn0 : 0 ≤ x % Mp := Int.emod_nonneg _ (by simp [Mp])
  obtain ⟨n, hn⟩ : ∃ n, n = x % Mp := ⟨_, rfl⟩
  rw [← hn] at hpl hn0 ⊢
  obtain ⟨m, rfl⟩ := Int.eq_ofNat_of_zero_le hn0
  have hby := byte_words m
  obtain ⟨n, hnn⟩ : ∃ n : Int, n = (m : Int) := ⟨_, rfl⟩
  rw [← hnn] at hpl hby ⊢
  have HBY := Lib.hid hby
  have HPL := Lib.hid hpl
  clear hby hpl hnn hn0 hn hG
  obtain ⟨Z, hZ⟩ : ∃ Z, Z = ag8 (List.replicate 48 0) := ⟨_, rfl⟩
  have hz52 : ∀ W : World, (zeroValue 31).run Tryd.prog W = .ok (.agg Z) W := fun W => by rw [hZ]; exact zero71 W
  have HZ := Lib.hid hZ
  clear hZ
  conv => arg 3; unfold pv arr6
  go_enter Tryd.func12, Tryd.ntmps12
  go_wp2_with fail
  have hpl2 := HPL.out
  unfold pv at hpl2
  refine (hpl2 _ (HG.out.keep (by repeat (first | (with_reducible exact Below.refl _ _) | (with_reducible refine Below.drew ?_) | (with_reducible refine Below.alloc ?_ (by simp; try omega) _))))).mono ?_
  rintro e w1 ⟨rfl, hB⟩
  have hP : BWp w (w1.alloc (.cells #[.int .u64 (wd n 0), .int .u64 (wd n 1), .int .u64 (wd n 2), .int .u64 (wd n 3), .int .u64 (wd n 4), .int .u64 (wd n 5)] 33)) w1.heap.size n Z 0 :=
    ⟨Below.alloc (Below.trans (by repeat (first | (with_reducible exact Below.refl _ _) | (with_reducible refine Below.drew ?_) | (with_reducible refine Below.alloc ?_ (by simp; try omega) _))) (hB.mono (by simp; try omega))) (by have := hB.size; simp at this; omega) _, (((bump1 w _ _ _).alloc _).keep hB).alloc _, (((bump2 w _ _ _ _).keep hB).alloc _).cast (by rw [HZ.out]; simp [lo]), Blk.new w1 _ _, by have := hB.size; simp at this; omega⟩
  have HP := Lib.hid hP
  clear hB hP hpl2 hz52
  unfold arr6
  go_wp2_with fail
  obtain ⟨g4, hg4⟩ : ∃ g, g = w1.heap.size := ⟨_, rfl⟩
  rw [← hg4] at HP ⊢
  clear hg4
  go_loopw [5, 8] (fun _ i wr => ∃ k : Nat, k ≤ 48 ∧ i = .int .i64 (k : Int) ∧ BWp w wr g4 n Z k) (fun _ i _ => 48 - (intOf i).toNat)
  case atStart => exact ⟨0, Nat.zero_le _, rfl, HP.out⟩
  case round =>
    obtain ⟨k, hk, rfl, hW⟩ := hrel
    clear HP
    by_cases hlt : k < 48
    · have hk4 : k / 8 < 6 := by omega
      have cw := word6_at hW.b4 (k / 8) hk4
      have hb := HBY.out k
      obtain ⟨v, hv⟩ : ∃ v, v = wd n (k / 8) := ⟨_, rfl⟩
      rw [← hv] at cw hb
      have cb := hW.bb.at_ (ag8_at _ (47 - k) (by simp [lo_len]; omega))
      have fb := hW.bb.frozen (47 - k)
      obtain ⟨u0, hu0⟩ : ∃ u, u = Value.int .u8 (gt (List.replicate (48 - k) 0 ++ lo n k) (47 - k)) := ⟨_, rfl⟩
      rw [← hu0] at cb
      have W1 := Lib.hid (hW.step hlt)
      have HB := Lib.hid hb
      clear hW hv hb hu0
      have i1 : (k : Int) < 48 := by omega
      have i4 : (k : Int) / 8 < 6 := by omega
      have i5 : 0 ≤ 47 - (k : Int) := by omega
      have i6 : 47 - (k : Int) < 48 := by omega
      go_wp2_with fail
      exact ⟨⟨k + 1, by omega, by go_num, by rw [HB.out]; exact W1.out⟩, by simp [intOf]; omega⟩
    · obtain rfl : k = 48 := by omega
      obtain ⟨D, hD⟩ : ∃ D, D = ag8 (lo n 48) := ⟨_, rfl⟩
      have hDz : D.size = 48 := by rw [hD, ag8_size, lo_len]
      have hZz : Z.size = 48 := by rw [HZ.out, ag8_size]; simp
      have hDi : (Tryd.prog.info? 31).map (·.size) = some D.size := by rw [hDz]; kernel_rfl
      have hDf : 0 + D.size ≤ Z.size := by rw [hDz, hZz]; omega
      have hD1 : D.all (·.oneCell') = true := by rw [hD]; exact ag8_one _
      have X1 : Hid (Blk wr (w.heap.size + 1 + 1) 31 D) := Lib.hid (hW.bb.cast (by rw [hD]; simp))
      have X3 := Lib.hid hW.br
      have X4 := Lib.hid hW.be
      have D1 := Lib.hid hD
      have D2 : Hid (Z.size = D.size) := Lib.hid (by rw [hDz, hZz])
      have D3 := Lib.hid hDi
      have D4 := Lib.hid hDf
      have D5 := Lib.hid hD1
      have hsz := hW.h4
      have hb4 := hW.b4.lt
      clear hW hD hDz hZz hDi hDf hD1
      go_wp2_with (first | ((with_reducible refine wpList_load_at (dst := some 24) (ty := 31) (w.heap.size + 1 + 1) 0 D _ ?_ X1.out.range Tryd.underlying31 ?_ D3.out ?_); exact rfl; exact rfl) | ((with_reducible refine wpList_store_at (ty := 31) (x := .tmp 2) (y := .tmp 24) (w.heap.size + 1) 0 31 _ D ?_ ?_ X3.out D3.out D4.out D5.out ?_); exact rfl; exact rfl; intro w5 HB5 HG5))
      have hB5 : Blk w5 (w.heap.size + 1) 31 D := HB5.out.cast (by rw [splice_all _ _ (by rw [Array.length_toList, Array.length_toList, D2.out]), Array.toArray_toList])
      refine bodyPost_ret (results_cell_row Tryd.results12 _ _ _ _ _ _ _ rfl hB5 Tryd.underlying31 rfl D3.out) rfl ⟨by rw [D1.out], ?_⟩
      exact X4.out.grown HG5.out X4.out.size (fun i hi => by cases hi; omega)
end Go.Proofs.YtialfoccalobpaaDoor

/-! ## FpH -/
namespace Go.Proofs.YtialfoccalobpaaDoor
open Go.RowKit
end Go.Proofs.YtialfoccalobpaaDoor
