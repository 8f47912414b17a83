/-
  fp: six words; the contracts of minus, reduced, below.
-/
import Derived.Test.YtclfmdaafpachaaDoorFrE
namespace Go.Proofs.YtclfmdaafpachaaDoor
open Go.RowKit
/-- A number as six words. -/
def arr6 (x : Int) : Value := .agg #[.int .u64 (wd x 0), .int .u64 (wd x 1), .int .u64 (wd x 2), .int .u64 (wd x 3), .int .u64 (wd x 4), .int .u64 (wd x 5)]
theorem wds6 (x : Int) : wds x 6 = [wd x 0, wd x 1, wd x 2, wd x 3, wd x 4, wd x 5] := rfl
theorem nu6 (x : Int) (h0 : 0 ≤ x) (h : x < Wd ^ 6) : x = wd x 0 + Wd * (wd x 1 + Wd * (wd x 2 + Wd * (wd x 3 + Wd * (wd x 4 + Wd * (wd x 5))))) := by
  have := nu_wds 6 x
  rw [Int.emod_eq_of_lt h0 h, wds6] at this
  simpa [nu] using this.symm
theorem arr6_of (d0 d1 d2 d3 d4 d5 z : Int) (h0 : 0 ≤ d0 ∧ d0 < Wd) (h1 : 0 ≤ d1 ∧ d1 < Wd) (h2 : 0 ≤ d2 ∧ d2 < Wd) (h3 : 0 ≤ d3 ∧ d3 < Wd) (h4 : 0 ≤ d4 ∧ d4 < Wd) (h5 : 0 ≤ d5 ∧ d5 < Wd) (hz : d0 + Wd * (d1 + Wd * (d2 + Wd * (d3 + Wd * (d4 + Wd * (d5))))) = z) :
    (.agg #[.int .u64 d0, .int .u64 d1, .int .u64 d2, .int .u64 d3, .int .u64 d4, .int .u64 d5] : Value) = arr6 z := by
  have h := wds_nu [d0, d1, d2, d3, d4, d5] (by simp [h0, h1, h2, h3, h4, h5])
  have e : nu [d0, d1, d2, d3, d4, d5] = z := by rw [← hz]; simp [nu]
  rw [e] at h
  have h' : [wd z 0, wd z 1, wd z 2, wd z 3, wd z 4, wd z 5] = [d0, d1, d2, d3, d4, d5] := h
  simp only [List.cons.injEq, and_true] at h'
  obtain ⟨e0, e1, e2, e3, e4, e5⟩ := h'
  unfold arr6
  rw [e0, e1, e2, e3, e4, e5]
theorem sub6 (x0 y0 d0 b0 x1 y1 d1 b1 x2 y2 d2 b2 x3 y3 d3 b3 x4 y4 d4 b4 x5 y5 d5 b5 : Int) (e0 : d0 - Wd * b0 = x0 - y0 - 0) (e1 : d1 - Wd * b1 = x1 - y1 - b0) (e2 : d2 - Wd * b2 = x2 - y2 - b1) (e3 : d3 - Wd * b3 = x3 - y3 - b2) (e4 : d4 - Wd * b4 = x4 - y4 - b3) (e5 : d5 - Wd * b5 = x5 - y5 - b4) :
    d0 + Wd * (d1 + Wd * (d2 + Wd * (d3 + Wd * (d4 + Wd * (d5))))) = x0 + Wd * (x1 + Wd * (x2 + Wd * (x3 + Wd * (x4 + Wd * (x5))))) - (y0 + Wd * (y1 + Wd * (y2 + Wd * (y3 + Wd * (y4 + Wd * (y5)))))) + Wd * (Wd * (Wd * (Wd * (Wd * (Wd * b5))))) := by
  obtain rfl : d0 = x0 - y0 + Wd * b0 := by omega
  obtain rfl : d1 = x1 - y1 - b0 + Wd * b1 := by omega
  obtain rfl : d2 = x2 - y2 - b1 + Wd * b2 := by omega
  obtain rfl : d3 = x3 - y3 - b2 + Wd * b3 := by omega
  obtain rfl : d4 = x4 - y4 - b3 + Wd * b4 := by omega
  obtain rfl : d5 = x5 - y5 - b4 + Wd * b5 := by omega
  clear e0 e1 e2 e3 e4 e5
  grind
theorem add6 (x0 y0 s0 k0 x1 y1 s1 k1 x2 y2 s2 k2 x3 y3 s3 k3 x4 y4 s4 k4 x5 y5 s5 k5 c : Int) (e0 : s0 + Wd * k0 = x0 + y0 + c) (e1 : s1 + Wd * k1 = x1 + y1 + k0) (e2 : s2 + Wd * k2 = x2 + y2 + k1) (e3 : s3 + Wd * k3 = x3 + y3 + k2) (e4 : s4 + Wd * k4 = x4 + y4 + k3) (e5 : s5 + Wd * k5 = x5 + y5 + k4) :
    s0 + Wd * (s1 + Wd * (s2 + Wd * (s3 + Wd * (s4 + Wd * (s5))))) + Wd * (Wd * (Wd * (Wd * (Wd * (Wd * k5))))) = x0 + Wd * (x1 + Wd * (x2 + Wd * (x3 + Wd * (x4 + Wd * (x5))))) + (y0 + Wd * (y1 + Wd * (y2 + Wd * (y3 + Wd * (y4 + Wd * (y5)))))) + c := by
  obtain rfl : s0 = x0 + y0 + c - Wd * k0 := by omega
  obtain rfl : s1 = x1 + y1 + k0 - Wd * k1 := by omega
  obtain rfl : s2 = x2 + y2 + k1 - Wd * k2 := by omega
  obtain rfl : s3 = x3 + y3 + k2 - Wd * k3 := by omega
  obtain rfl : s4 = x4 + y4 + k3 - Wd * k4 := by omega
  obtain rfl : s5 = x5 + y5 + k4 - Wd * k5 := by omega
  clear e0 e1 e2 e3 e4 e5
  grind
set_option maxRecDepth 100000 in
set_option maxHeartbeats 4000000 in
theorem fp_minus0 (x0 x1 x2 x3 x4 x5 y0 y1 y2 y3 y4 y5 : Int) (w : World) (hx0 : 0 ≤ x0 ∧ x0 < Wd) (hx1 : 0 ≤ x1 ∧ x1 < Wd) (hx2 : 0 ≤ x2 ∧ x2 < Wd) (hx3 : 0 ≤ x3 ∧ x3 < Wd) (hx4 : 0 ≤ x4 ∧ x4 < Wd) (hx5 : 0 ≤ x5 ∧ x5 < Wd) (hy0 : 0 ≤ y0 ∧ y0 < Wd) (hy1 : 0 ≤ y1 ∧ y1 < Wd) (hy2 : 0 ≤ y2 ∧ y2 < Wd) (hy3 : 0 ≤ y3 ∧ y3 < Wd) (hy4 : 0 ≤ y4 ∧ y4 < Wd) (hy5 : 0 ≤ y5 ∧ y5 < Wd) :
    Calls Tryd.prog 144 #[.agg #[.int .u64 x0, .int .u64 x1, .int .u64 x2, .int .u64 x3, .int .u64 x4, .int .u64 x5], .agg #[.int .u64 y0, .int .u64 y1, .int .u64 y2, .int .u64 y3, .int .u64 y4, .int .u64 y5]] w fun e w' =>
      ∃ d0 d1 d2 d3 d4 d5 b, e = .returned (.tuple #[.agg #[.int .u64 d0, .int .u64 d1, .int .u64 d2, .int .u64 d3, .int .u64 d4, .int .u64 d5], .int .u64 b]) ∧ (0 ≤ d0 ∧ d0 < Wd) ∧ (0 ≤ d1 ∧ d1 < Wd) ∧ (0 ≤ d2 ∧ d2 < Wd) ∧ (0 ≤ d3 ∧ d3 < Wd) ∧ (0 ≤ d4 ∧ d4 < Wd) ∧ (0 ≤ d5 ∧ d5 < Wd) ∧ (0 ≤ b ∧ b ≤ 1) ∧ (d0 + Wd * (d1 + Wd * (d2 + Wd * (d3 + Wd * (d4 + Wd * (d5))))) = x0 + Wd * (x1 + Wd * (x2 + Wd * (x3 + Wd * (x4 + Wd * (x5))))) - (y0 + Wd * (y1 + Wd * (y2 + Wd * (y3 + Wd * (y4 + Wd * (y5)))))) + Wd * (Wd * (Wd * (Wd * (Wd * (Wd * b)))))) ∧ Below w.heap.size w w' := by
  obtain ⟨d0, b0, C0, E0, p1, p2, p3, p4⟩ := subc_ex x0 y0 0 hx0.1 hx0.2 hy0.1 hy0.2 (by omega) (by omega)
  obtain ⟨d1, b1, C1, E1, q1, q2, q3, q4⟩ := subc_ex x1 y1 b0 hx1.1 hx1.2 hy1.1 hy1.2 p3 p4
  obtain ⟨d2, b2, C2, E2, r1, r2, r3, r4⟩ := subc_ex x2 y2 b1 hx2.1 hx2.2 hy2.1 hy2.2 q3 q4
  obtain ⟨d3, b3, C3, E3, s1, s2, s3, s4⟩ := subc_ex x3 y3 b2 hx3.1 hx3.2 hy3.1 hy3.2 r3 r4
  obtain ⟨d4, b4, C4, E4, t1, t2, t3, t4⟩ := subc_ex x4 y4 b3 hx4.1 hx4.2 hy4.1 hy4.2 s3 s4
  obtain ⟨d5, b5, C5, E5, u1, u2, u3, u4⟩ := subc_ex x5 y5 b4 hx5.1 hx5.2 hy5.1 hy5.2 t3 t4
  have hfin : ((0 ≤ d0 ∧ d0 < Wd) ∧ (0 ≤ d1 ∧ d1 < Wd) ∧ (0 ≤ d2 ∧ d2 < Wd) ∧ (0 ≤ d3 ∧ d3 < Wd) ∧ (0 ≤ d4 ∧ d4 < Wd) ∧ (0 ≤ d5 ∧ d5 < Wd)) ∧ (0 ≤ b5 ∧ b5 ≤ 1) ∧ (d0 + Wd * (d1 + Wd * (d2 + Wd * (d3 + Wd * (d4 + Wd * (d5))))) = x0 + Wd * (x1 + Wd * (x2 + Wd * (x3 + Wd * (x4 + Wd * (x5))))) - (y0 + Wd * (y1 + Wd * (y2 + Wd * (y3 + Wd * (y4 + Wd * (y5)))))) + Wd * (Wd * (Wd * (Wd * (Wd * (Wd * b5)))))) :=
    ⟨⟨⟨p1, p2⟩, ⟨q1, q2⟩, ⟨r1, r2⟩, ⟨s1, s2⟩, ⟨t1, t2⟩, ⟨u1, u2⟩⟩, ⟨u3, u4⟩, sub6 _ _ _ _ _ _ _ _ _ _ _ _ _ _ _ _ _ _ _ _ _ _ _ _ E0.out E1.out E2.out E3.out E4.out E5.out⟩
  have FIN := Lib.hid hfin
  clear hfin E0 E1 E2 E3 E4 E5 hx0 hy0 hx1 hy1 hx2 hy2 hx3 hy3 hx4 hy4 hx5 hy5 p1 p2 p3 p4 q1 q2 q3 q4 r1 r2 r3 r4 s1 s2 s3 s4 t1 t2 t3 t4 u1 u2 u3 u4
  have c0 := C0.out
  have c1 := C1.out
  have c2 := C2.out
  have c3 := C3.out
  have c4 := C4.out
  have c5 := C5.out
  clear C0 C1 C2 C3 C4 C5
  go_enter Tryd.func144, Tryd.ntmps144
  go_wp2_with fail
  refine wp_loop_rounds 7 ?_
  rw [rounds_succ]
  go_wp2_with fail
  go_region
  go_wp2_with fail
  rw [rounds_succ]
  go_wp2_with fail
  go_region
  go_wp2_with fail
  rw [rounds_succ]
  go_wp2_with fail
  go_region
  go_wp2_with fail
  rw [rounds_succ]
  go_wp2_with fail
  go_region
  go_wp2_with fail
  rw [rounds_succ]
  go_wp2_with fail
  go_region
  go_wp2_with fail
  rw [rounds_succ]
  go_wp2_with fail
  go_region
  go_wp2_with fail
  rw [rounds_succ]
  go_wp2_with fail
  clear c0 c1 c2 c3 c4 c5
  refine bodyPost_ret (v := .tuple #[.agg #[.int .u64 d0, .int .u64 d1, .int .u64 d2, .int .u64 d3, .int .u64 d4, .int .u64 d5], .int .u64 b5]) (by simp [results, Tryd.results144, go_sem]) rfl ⟨d0, d1, d2, d3, d4, d5, b5, rfl, FIN.out.1.1, FIN.out.1.2.1, FIN.out.1.2.2.1, FIN.out.1.2.2.2.1, FIN.out.1.2.2.2.2.1, FIN.out.1.2.2.2.2.2, FIN.out.2.1, FIN.out.2.2, ?_⟩
  repeat (first | (with_reducible exact Below.refl _ _) | (with_reducible refine Below.drew ?_) | (with_reducible refine Below.alloc ?_ (by simp; try omega) _))
theorem fp_minus_ge (x y : Int) (w : World) (hx0 : 0 ≤ x) (hx : x < Wd ^ 6) (hy0 : 0 ≤ y) (h : y ≤ x) :
    Calls Tryd.prog 144 #[arr6 x, arr6 y] w fun e w' => e = .returned (.tuple #[arr6 (x - y), .int .u64 0]) ∧ Below w.heap.size w w' := by
  have ex := nu6 x hx0 hx
  have ey := nu6 y hy0 (by omega)
  refine (fp_minus0 _ _ _ _ _ _ _ _ _ _ _ _ w (wd_lo x 0) (wd_lo x 1) (wd_lo x 2) (wd_lo x 3) (wd_lo x 4) (wd_lo x 5) (wd_lo y 0) (wd_lo y 1) (wd_lo y 2) (wd_lo y 3) (wd_lo y 4) (wd_lo y 5)).mono ?_
  rintro e w' ⟨d0, d1, d2, d3, d4, d5, b, rfl, h0, h1, h2, h3, h4, h5, hb, he, hB⟩
  rw [← ex, ← ey] at he
  have hb0 : b = 0 := by
    unfold Wd at *
    omega
  subst hb0
  rw [arr6_of d0 d1 d2 d3 d4 d5 (x - y) h0 h1 h2 h3 h4 h5 (by omega)]
  exact ⟨rfl, hB⟩
theorem fp_minus_lt (x y : Int) (w : World) (hx0 : 0 ≤ x) (hy0 : 0 ≤ y) (hy : y < Wd ^ 6) (h : x < y) :
    Calls Tryd.prog 144 #[arr6 x, arr6 y] w fun e w' => e = .returned (.tuple #[arr6 (x - y + Wd ^ 6), .int .u64 1]) ∧ Below w.heap.size w w' := by
  have ex := nu6 x hx0 (by omega)
  have ey := nu6 y hy0 hy
  refine (fp_minus0 _ _ _ _ _ _ _ _ _ _ _ _ w (wd_lo x 0) (wd_lo x 1) (wd_lo x 2) (wd_lo x 3) (wd_lo x 4) (wd_lo x 5) (wd_lo y 0) (wd_lo y 1) (wd_lo y 2) (wd_lo y 3) (wd_lo y 4) (wd_lo y 5)).mono ?_
  rintro e w' ⟨d0, d1, d2, d3, d4, d5, b, rfl, h0, h1, h2, h3, h4, h5, hb, he, hB⟩
  rw [← ex, ← ey] at he
  have hb0 : b = 1 := by
    unfold Wd at *
    omega
  subst hb0
  rw [arr6_of d0 d1 d2 d3 d4 d5 (x - y + Wd ^ 6) h0 h1 h2 h3 h4 h5 (by unfold Wd at *; omega)]
  exact ⟨rfl, hB⟩
/-- The modulus. -/
def Mp : Int := 4002409555221667393417789825735904156556882819939007885332058136124031650490837864442687629129015664037894272559787
theorem Mp_lo : 0 < Mp ∧ 2 * Mp < Wd ^ 6 := by simp [Mp, Wd]
structure GMp (w : World) : Prop where
  c0 : w.cell? ⟨2, 0, none⟩ = some (.int .u64 (wd Mp 0))
  c1 : w.cell? ⟨2, 1, none⟩ = some (.int .u64 (wd Mp 1))
  c2 : w.cell? ⟨2, 2, none⟩ = some (.int .u64 (wd Mp 2))
  c3 : w.cell? ⟨2, 3, none⟩ = some (.int .u64 (wd Mp 3))
  c4 : w.cell? ⟨2, 4, none⟩ = some (.int .u64 (wd Mp 4))
  c5 : w.cell? ⟨2, 5, none⟩ = some (.int .u64 (wd Mp 5))
theorem GMp.keep {w w' : World} (h : GMp w) (hb : Below w.heap.size w w') : GMp w' := by
  have hl := World.block_lt_of_cell? w _ h.c0
  exact ⟨(hb.cell (p := ⟨_, 0, none⟩) hl).trans h.c0, (hb.cell (p := ⟨_, 1, none⟩) hl).trans h.c1, (hb.cell (p := ⟨_, 2, none⟩) hl).trans h.c2, (hb.cell (p := ⟨_, 3, none⟩) hl).trans h.c3, (hb.cell (p := ⟨_, 4, none⟩) hl).trans h.c4, (hb.cell (p := ⟨_, 5, none⟩) hl).trans h.c5⟩
/-- Six cells of the call's own behind a call. -/
theorem res6 {W w1 : World} {g : Nat} {t : TypeId} {c0 c1 c2 c3 c4 c5 : Value} (h : Blk W g t #[c0, c1, c2, c3, c4, c5]) (hB : Below W.heap.size W w1) :
    w1.cell? ⟨g, 0, none⟩ = some c0 ∧ w1.cell? ⟨g, 1, none⟩ = some c1 ∧ w1.cell? ⟨g, 2, none⟩ = some c2 ∧ w1.cell? ⟨g, 3, none⟩ = some c3 ∧ w1.cell? ⟨g, 4, none⟩ = some c4 ∧ w1.cell? ⟨g, 5, none⟩ = some c5 ∧
    w1.frozen? ⟨g, 0, none⟩ = false ∧ w1.frozen? ⟨g, 1, none⟩ = false ∧ w1.frozen? ⟨g, 2, none⟩ = false ∧ w1.frozen? ⟨g, 3, none⟩ = false ∧ w1.frozen? ⟨g, 4, none⟩ = false ∧ w1.frozen? ⟨g, 5, none⟩ = false ∧ g < w1.heap.size := by
  have h1 := h.keep hB
  exact ⟨h1.at_ rfl, h1.at_ rfl, h1.at_ rfl, h1.at_ rfl, h1.at_ rfl, h1.at_ rfl, h1.frozen 0, h1.frozen 1, h1.frozen 2, h1.frozen 3, h1.frozen 4, h1.frozen 5, h1.lt⟩
theorem cells6 {w : World} {g : Nat} {t : TypeId} {a0 a1 a2 a3 a4 a5 : Value} (h : Blk w g t #[a0, a1, a2, a3, a4, a5]) : w.cell? ⟨g, 0, none⟩ = some a0 ∧ w.cell? ⟨g, 1, none⟩ = some a1 ∧ w.cell? ⟨g, 2, none⟩ = some a2 ∧ w.cell? ⟨g, 3, none⟩ = some a3 ∧ w.cell? ⟨g, 4, none⟩ = some a4 ∧ w.cell? ⟨g, 5, none⟩ = some a5 :=
  ⟨h.at_ rfl, h.at_ rfl, h.at_ rfl, h.at_ rfl, h.at_ rfl, h.at_ rfl⟩
theorem und55 : Tryd.prog.underlying 50 = some (.array 6 23) := by kernel_rfl
theorem arr6_zero : arr6 0 = .agg #[.int .u64 0, .int .u64 0, .int .u64 0, .int .u64 0, .int .u64 0, .int .u64 0] := rfl
theorem arr6_eq (x y : Int) (hx0 : 0 ≤ x) (hx : x < Wd ^ 6) (hy0 : 0 ≤ y) (hy : y < Wd ^ 6) (w : World) :
    (Op.equalIn 9999 50 (arr6 x) (arr6 y)).run Tryd.prog w = .ok (decide (x = y)) w := by
  refine run_equalIn_arr 9997 w _ _ 6 .u64 _ _ und55 und23 size23 (fun i hi => ?_) _ ?_
  · match i, hi with
    | 0, _ | 1, _ | 2, _ | 3, _ | 4, _ | 5, _ => exact ⟨_, _, rfl, rfl⟩
  · rw [decide_eq_true_iff]
    constructor
    · rintro rfl i _; rfl
    · intro h
      have h0 := h 0 (by omega)
      have h1 := h 1 (by omega)
      have h2 := h 2 (by omega)
      have h3 := h 3 (by omega)
      have h4 := h 4 (by omega)
      have h5 := h 5 (by omega)
      simp at h0 h1 h2 h3 h4 h5
      rw [nu6 x hx0 hx, nu6 y hy0 hy, h0, h1, h2, h3, h4, h5]
set_option maxRecDepth 100000 in
set_option maxHeartbeats 4000000 in
theorem fp_reduced1 (x : Int) (w : World) (hG : GMp w) (hx0 : 0 ≤ x) (hx : x < 2 * Mp) (hge : Mp ≤ x) :
    Calls Tryd.prog 128 #[arr6 x] w fun e w' => e = .returned (arr6 (x % Mp)) ∧ Below w.heap.size w w' := by
  obtain ⟨g0, g1, g2, g3, g4, g5⟩ := hG
  have hb := World.block_lt_of_cell? w _ g0
  have HX := Lib.hid hx
  have hm : x % Mp = x - Mp := by unfold Mp at *; omega
  have HM := Lib.hid hm
  clear hm hx
  unfold arr6
  go_enter Tryd.func128, Tryd.ntmps128
  go_wp2_with fail
  refine (fp_minus_ge x Mp _ hx0 (by have := HX.out; unfold Mp Wd at *; omega) (by simp [Mp]) hge).mono ?_
  rintro e w1 ⟨rfl, hB⟩
  obtain ⟨f0, f1, f2, f3, f4, f5, z0, z1, z2, z3, z4, z5, hg⟩ := res6 (t := 52) (c0 := .int .u64 0) (c1 := .int .u64 0) (c2 := .int .u64 0) (c3 := .int .u64 0) (c4 := .int .u64 0) (c5 := .int .u64 0) (bump1 w _ _ _) hB
  obtain ⟨p0, p1, p2, p3, p4, p5, y0, y1, y2, y3, y4, y5, hg2⟩ := res6 (t := 50) (c0 := .int .u64 (wd x 0)) (c1 := .int .u64 (wd x 1)) (c2 := .int .u64 (wd x 2)) (c3 := .int .u64 (wd x 3)) (c4 := .int .u64 (wd x 4)) (c5 := .int .u64 (wd x 5)) ((Blk.new w _ _).alloc _) hB
  have hW : Below w.heap.size w w1 := Below.trans (by repeat (first | (with_reducible exact Below.refl _ _) | (with_reducible refine Below.drew ?_) | (with_reducible refine Below.alloc ?_ (by simp; try omega) _))) (hB.mono (by simp; try omega))
  have HW := Lib.hid hW
  clear hB hW g0 g1 g2 g3 g4 g5 y0 y1 y2 y3 y4 y5
  unfold arr6
  go_wp2_with fail
  refine bodyPost_ret (v := arr6 (x - Mp)) (by simp [arr6, results, Tryd.results128, go_sem, f0, f1, f2, f3, f4, f5, hg]) rfl ⟨by rw [HM.out]; rfl, ?_⟩
  repeat (first | (with_reducible exact HW.out) | (with_reducible refine Below.drew ?_) | (with_reducible refine Below.alloc ?_ (by first | assumption | (simp; done) | (simp; omega)) _) | (with_reducible refine Below.setCell ?_ (by simp; try omega) _))
set_option maxRecDepth 100000 in
set_option maxHeartbeats 4000000 in
theorem fp_reduced2 (x : Int) (w : World) (hG : GMp w) (hx0 : 0 ≤ x) (hx : x < 2 * Mp) (hlt : x < Mp) :
    Calls Tryd.prog 128 #[arr6 x] w fun e w' => e = .returned (arr6 (x % Mp)) ∧ Below w.heap.size w w' := by
  obtain ⟨g0, g1, g2, g3, g4, g5⟩ := hG
  have hb := World.block_lt_of_cell? w _ g0
  have HX := Lib.hid hx
  have hm : x % Mp = x := by unfold Mp at *; omega
  have HM := Lib.hid hm
  clear hm hx
  unfold arr6
  go_enter Tryd.func128, Tryd.ntmps128
  go_wp2_with fail
  refine (fp_minus_lt x Mp _ hx0 (by simp [Mp]) (by simp [Mp, Wd]) hlt).mono ?_
  rintro e w1 ⟨rfl, hB⟩
  obtain ⟨f0, f1, f2, f3, f4, f5, z0, z1, z2, z3, z4, z5, hg⟩ := res6 (t := 52) (c0 := .int .u64 0) (c1 := .int .u64 0) (c2 := .int .u64 0) (c3 := .int .u64 0) (c4 := .int .u64 0) (c5 := .int .u64 0) (bump1 w _ _ _) hB
  obtain ⟨p0, p1, p2, p3, p4, p5, y0, y1, y2, y3, y4, y5, hg2⟩ := res6 (t := 50) (c0 := .int .u64 (wd x 0)) (c1 := .int .u64 (wd x 1)) (c2 := .int .u64 (wd x 2)) (c3 := .int .u64 (wd x 3)) (c4 := .int .u64 (wd x 4)) (c5 := .int .u64 (wd x 5)) ((Blk.new w _ _).alloc _) hB
  have hW : Below w.heap.size w w1 := Below.trans (by repeat (first | (with_reducible exact Below.refl _ _) | (with_reducible refine Below.drew ?_) | (with_reducible refine Below.alloc ?_ (by simp; try omega) _))) (hB.mono (by simp; try omega))
  have HW := Lib.hid hW
  clear hB hW g0 g1 g2 g3 g4 g5 y0 y1 y2 y3 y4 y5
  unfold arr6
  go_wp2_with fail
  refine bodyPost_ret (v := arr6 (x)) (by simp [arr6, results, Tryd.results128, go_sem, f0, f1, f2, f3, f4, f5, hg]) rfl ⟨by rw [HM.out]; rfl, ?_⟩
  repeat (first | (with_reducible exact HW.out) | (with_reducible refine Below.drew ?_) | (with_reducible refine Below.alloc ?_ (by first | assumption | (simp; done) | (simp; omega)) _) | (with_reducible refine Below.setCell ?_ (by simp; try omega) _))
theorem fp_reduced (x : Int) (w : World) (hG : GMp w) (hx0 : 0 ≤ x) (hx : x < 2 * Mp) :
    Calls Tryd.prog 128 #[arr6 x] w fun e w' => e = .returned (arr6 (x % Mp)) ∧ Below w.heap.size w w' := by
  rcases Int.lt_or_le x Mp with h | h
  · exact fp_reduced2 x w hG hx0 hx h
  · exact fp_reduced1 x w hG hx0 hx h
end Go.Proofs.YtclfmdaafpachaaDoor
