/-
  fr: the contracts of minus, reduced, below.
-/
import Derived.Test.YtclfmdaafpachaaDoorFrA
import Derived.LoopN
namespace Go.Proofs.YtclfmdaafpachaaDoor
open Go.RowKit
/-- A number as four words. -/
def arr4 (x : Int) : Value := .agg #[.int .u64 (wd x 0), .int .u64 (wd x 1), .int .u64 (wd x 2), .int .u64 (wd x 3)]
theorem wds4 (x : Int) : wds x 4 = [wd x 0, wd x 1, wd x 2, wd x 3] := rfl
theorem nu4 (x : Int) (h0 : 0 ≤ x) (h : x < Wd ^ 4) : x = wd x 0 + Wd * (wd x 1 + Wd * (wd x 2 + Wd * wd x 3)) := by
  have := nu_wds 4 x
  rw [Int.emod_eq_of_lt h0 h, wds4] at this
  simpa [nu] using this.symm
theorem arr4_of (d0 d1 d2 d3 z : Int) (h0 : 0 ≤ d0 ∧ d0 < Wd) (h1 : 0 ≤ d1 ∧ d1 < Wd) (h2 : 0 ≤ d2 ∧ d2 < Wd) (h3 : 0 ≤ d3 ∧ d3 < Wd) (hz : d0 + Wd * (d1 + Wd * (d2 + Wd * d3)) = z) :
    (.agg #[.int .u64 d0, .int .u64 d1, .int .u64 d2, .int .u64 d3] : Value) = arr4 z := by
  have h := wds_nu [d0, d1, d2, d3] (by simp [h0, h1, h2, h3])
  have e : nu [d0, d1, d2, d3] = z := by rw [← hz]; simp [nu]
  rw [e] at h
  have h' : [wd z 0, wd z 1, wd z 2, wd z 3] = [d0, d1, d2, d3] := h
  simp only [List.cons.injEq, and_true] at h'
  obtain ⟨e0, e1, e2, e3⟩ := h'
  unfold arr4
  rw [e0, e1, e2, e3]
set_option maxRecDepth 100000 in
set_option maxHeartbeats 1000000 in
theorem fr_minus0 (x0 x1 x2 x3 y0 y1 y2 y3 : Int) (w : World) (hx0 : 0 ≤ x0 ∧ x0 < Wd) (hx1 : 0 ≤ x1 ∧ x1 < Wd) (hx2 : 0 ≤ x2 ∧ x2 < Wd) (hx3 : 0 ≤ x3 ∧ x3 < Wd)
    (hy0 : 0 ≤ y0 ∧ y0 < Wd) (hy1 : 0 ≤ y1 ∧ y1 < Wd) (hy2 : 0 ≤ y2 ∧ y2 < Wd) (hy3 : 0 ≤ y3 ∧ y3 < Wd) :
    Calls Tryd.prog 120 #[.agg #[.int .u64 x0, .int .u64 x1, .int .u64 x2, .int .u64 x3], .agg #[.int .u64 y0, .int .u64 y1, .int .u64 y2, .int .u64 y3]] w fun e w' =>
      ∃ d0 d1 d2 d3 b, e = .returned (.tuple #[.agg #[.int .u64 d0, .int .u64 d1, .int .u64 d2, .int .u64 d3], .int .u64 b]) ∧ (0 ≤ d0 ∧ d0 < Wd) ∧ (0 ≤ d1 ∧ d1 < Wd) ∧ (0 ≤ d2 ∧ d2 < Wd) ∧ (0 ≤ d3 ∧ d3 < Wd) ∧ (0 ≤ b ∧ b ≤ 1) ∧
        (d0 + Wd * (d1 + Wd * (d2 + Wd * d3)) = x0 + Wd * (x1 + Wd * (x2 + Wd * x3)) - (y0 + Wd * (y1 + Wd * (y2 + Wd * y3))) + Wd * (Wd * (Wd * (Wd * b)))) ∧ Below w.heap.size w w' := by
  obtain ⟨d0, b0, C0, E0, p1, p2, p3, p4⟩ := subc_ex x0 y0 0 hx0.1 hx0.2 hy0.1 hy0.2 (by omega) (by omega)
  obtain ⟨d1, b1, C1, E1, q1, q2, q3, q4⟩ := subc_ex x1 y1 b0 hx1.1 hx1.2 hy1.1 hy1.2 p3 p4
  obtain ⟨d2, b2, C2, E2, r1, r2, r3, r4⟩ := subc_ex x2 y2 b1 hx2.1 hx2.2 hy2.1 hy2.2 q3 q4
  obtain ⟨d3, b3, C3, E3, s1, s2, s3, s4⟩ := subc_ex x3 y3 b2 hx3.1 hx3.2 hy3.1 hy3.2 r3 r4
  have hfin : (0 ≤ d0 ∧ d0 < Wd) ∧ (0 ≤ d1 ∧ d1 < Wd) ∧ (0 ≤ d2 ∧ d2 < Wd) ∧ (0 ≤ d3 ∧ d3 < Wd) ∧ (0 ≤ b3 ∧ b3 ≤ 1) ∧
        (d0 + Wd * (d1 + Wd * (d2 + Wd * d3)) = x0 + Wd * (x1 + Wd * (x2 + Wd * x3)) - (y0 + Wd * (y1 + Wd * (y2 + Wd * y3))) + Wd * (Wd * (Wd * (Wd * b3)))) := by
    refine ⟨⟨p1, p2⟩, ⟨q1, q2⟩, ⟨r1, r2⟩, ⟨s1, s2⟩, ⟨s3, s4⟩, ?_⟩
    have e0 := E0.out
    have e1 := E1.out
    have e2 := E2.out
    have e3 := E3.out
    grind
  have FIN := Lib.hid hfin
  clear hfin E0 E1 E2 E3 hx0 hx1 hx2 hx3 hy0 hy1 hy2 hy3 p1 p2 p3 p4 q1 q2 q3 q4 r1 r2 r3 r4 s1 s2 s3 s4
  have c0 := C0.out
  have c1 := C1.out
  have c2 := C2.out
  have c3 := C3.out
  clear C0 C1 C2 C3
  go_enter Tryd.func120, Tryd.ntmps120
  go_wp2_with fail
  refine wp_loop_rounds 5 ?_
  rw [rounds_succ]
  go_wp2_with fail
  go_region
  go_wp2_with fail
  rw [rounds_succ]
  go_wp2_with fail
  go_region
  go_wp2_with fail
  rw [rounds_succ]
  go_wp2_with fail
  go_region
  go_wp2_with fail
  rw [rounds_succ]
  go_wp2_with fail
  go_region
  go_wp2_with fail
  rw [rounds_succ]
  go_wp2_with fail
  clear c0 c1 c2 c3
  refine bodyPost_ret (v := .tuple #[.agg #[.int .u64 d0, .int .u64 d1, .int .u64 d2, .int .u64 d3], .int .u64 b3]) (by simp [results, Tryd.results120, go_sem]) rfl ⟨d0, d1, d2, d3, b3, rfl, FIN.out.1, FIN.out.2.1, FIN.out.2.2.1, FIN.out.2.2.2.1, FIN.out.2.2.2.2.1, FIN.out.2.2.2.2.2, ?_⟩
  repeat (first | exact Below.refl _ _ | refine Below.drew ?_ | refine Below.alloc ?_ (by simp; try omega) _)
theorem fr_minus_ge (x y : Int) (w : World) (hx0 : 0 ≤ x) (hx : x < Wd ^ 4) (hy0 : 0 ≤ y) (h : y ≤ x) :
    Calls Tryd.prog 120 #[arr4 x, arr4 y] w fun e w' => e = .returned (.tuple #[arr4 (x - y), .int .u64 0]) ∧ Below w.heap.size w w' := by
  have ex := nu4 x hx0 hx
  have ey := nu4 y hy0 (by omega)
  refine (fr_minus0 _ _ _ _ _ _ _ _ w (wd_lo x 0) (wd_lo x 1) (wd_lo x 2) (wd_lo x 3) (wd_lo y 0) (wd_lo y 1) (wd_lo y 2) (wd_lo y 3)).mono ?_
  rintro e w' ⟨d0, d1, d2, d3, b, rfl, h0, h1, h2, h3, hb, he, hB⟩
  rw [← ex, ← ey] at he
  have hb0 : b = 0 := by
    unfold Wd at *
    omega
  subst hb0
  rw [arr4_of d0 d1 d2 d3 (x - y) h0 h1 h2 h3 (by omega)]
  exact ⟨rfl, hB⟩
theorem fr_minus_lt (x y : Int) (w : World) (hx0 : 0 ≤ x) (hy0 : 0 ≤ y) (hy : y < Wd ^ 4) (h : x < y) :
    Calls Tryd.prog 120 #[arr4 x, arr4 y] w fun e w' => e = .returned (.tuple #[arr4 (x - y + Wd ^ 4), .int .u64 1]) ∧ Below w.heap.size w w' := by
  have ex := nu4 x hx0 (by omega)
  have ey := nu4 y hy0 hy
  refine (fr_minus0 _ _ _ _ _ _ _ _ w (wd_lo x 0) (wd_lo x 1) (wd_lo x 2) (wd_lo x 3) (wd_lo y 0) (wd_lo y 1) (wd_lo y 2) (wd_lo y 3)).mono ?_
  rintro e w' ⟨d0, d1, d2, d3, b, rfl, h0, h1, h2, h3, hb, he, hB⟩
  rw [← ex, ← ey] at he
  have hb0 : b = 1 := by
    unfold Wd at *
    omega
  subst hb0
  rw [arr4_of d0 d1 d2 d3 (x - y + Wd ^ 4) h0 h1 h2 h3 (by unfold Wd at *; omega)]
  exact ⟨rfl, hB⟩
theorem bcell {W w1 : World} (hb : Below W.heap.size W w1) : (∀ b o, b < W.heap.size → w1.cell? ⟨b, o, none⟩ = W.cell? ⟨b, o, none⟩) ∧ (∀ b o, b < W.heap.size → w1.frozen? ⟨b, o, none⟩ = W.frozen? ⟨b, o, none⟩) :=
  ⟨fun b o h => hb.cell (p := ⟨b, o, none⟩) h, fun b o h => hb.frozen (p := ⟨b, o, none⟩) h⟩
/-- The modulus. -/
def Mr : Int := 52435875175126190479447740508185965837690552500527637822603658699938581184513
structure GMr (w : World) : Prop where
  c0 : w.cell? ⟨0, 0, none⟩ = some (.int .u64 (wd Mr 0))
  c1 : w.cell? ⟨0, 1, none⟩ = some (.int .u64 (wd Mr 1))
  c2 : w.cell? ⟨0, 2, none⟩ = some (.int .u64 (wd Mr 2))
  c3 : w.cell? ⟨0, 3, none⟩ = some (.int .u64 (wd Mr 3))
set_option maxRecDepth 100000 in
set_option maxHeartbeats 1000000 in
theorem fr_reduced (x : Int) (w : World) (hG : GMr w) (hx0 : 0 ≤ x) (hx : x < 2 * Mr) :
    Calls Tryd.prog 118 #[arr4 x] w fun e w' => e = .returned (arr4 (x % Mr)) ∧ Below w.heap.size w w' := by
  obtain ⟨g0, g1, g2, g3⟩ := hG
  have hb := World.block_lt_of_cell? w _ g0
  have HX := Lib.hid hx
  by_cases hge : Mr ≤ x
  · have hm : x % Mr = x - Mr := by unfold Mr at *; omega
    have HM := Lib.hid hm
    clear hm hx
    unfold arr4
    go_enter Tryd.func118, Tryd.ntmps118
    go_wp2_with fail
    refine (fr_minus_ge x Mr _ hx0 (by have := HX.out; unfold Mr Wd at *; omega) (by simp [Mr]) hge).mono ?_
    rintro e w1 ⟨rfl, hB⟩
    obtain ⟨hc, hf⟩ := bcell hB
    have hz : w.heap.size + 1 < w1.heap.size := by have := hB.size; simp at this; omega
    have hz0 : w.heap.size < w1.heap.size := by omega
    have HB := Lib.hid hB
    clear hB
    unfold arr4
    go_wp2_with fail
    refine bodyPost_ret (v := arr4 (x - Mr)) (by simp [arr4, results, Tryd.results118, go_sem, hc, hz]) rfl ⟨by rw [HM.out]; rfl, ?_⟩
    have hW : Below w.heap.size w w1 := Below.trans (by repeat (first | exact Below.refl _ _ | refine Below.drew ?_ | refine Below.alloc ?_ (by simp; try omega) _)) (HB.out.mono (by simp; try omega))
    repeat (first | exact hW | refine Below.drew ?_ | refine Below.alloc ?_ (by simp; omega) _ | refine Below.setCell ?_ (by simp; try omega) _)
  · have hm : x % Mr = x := by unfold Mr at *; omega
    have HM := Lib.hid hm
    have hlt : x < Mr := by omega
    have HL := Lib.hid hlt
    clear hm hx hge hlt
    unfold arr4
    go_enter Tryd.func118, Tryd.ntmps118
    go_wp2_with fail
    refine (fr_minus_lt x Mr _ hx0 (by simp [Mr]) (by simp [Mr, Wd]) HL.out).mono ?_
    rintro e w1 ⟨rfl, hB⟩
    obtain ⟨hc, hf⟩ := bcell hB
    have hz : w.heap.size + 1 < w1.heap.size := by have := hB.size; simp at this; omega
    have hz0 : w.heap.size < w1.heap.size := by omega
    have HB := Lib.hid hB
    clear hB
    unfold arr4
    go_wp2_with fail
    refine bodyPost_ret (v := arr4 (x)) (by simp [arr4, results, Tryd.results118, go_sem, hc, hz]) rfl ⟨by rw [HM.out]; rfl, ?_⟩
    have hW : Below w.heap.size w w1 := Below.trans (by repeat (first | exact Below.refl _ _ | refine Below.drew ?_ | refine Below.alloc ?_ (by simp; try omega) _)) (HB.out.mono (by simp; try omega))
    repeat (first | exact hW | refine Below.drew ?_ | refine Below.alloc ?_ (by simp; omega) _ | refine Below.setCell ?_ (by simp; try omega) _)
end Go.Proofs.YtclfmdaafpachaaDoor
