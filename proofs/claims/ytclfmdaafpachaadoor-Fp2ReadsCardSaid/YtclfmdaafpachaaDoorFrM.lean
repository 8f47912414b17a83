/-
  fr: the contract of Mul.
-/
import Derived.Test.YtclfmdaafpachaaDoorFrE
namespace Go.Proofs.YtclfmdaafpachaaDoor
open Go.RowKit
theorem mulAdd_ex (x y a b : Int) (hx0 : 0 ≤ x) (hx : x < Wd) (hy0 : 0 ≤ y) (hy : y < Wd) (ha0 : 0 ≤ a) (ha : a < Wd) (hb0 : 0 ≤ b) (hb : b < Wd) :
    ∃ h l, Hid (∀ w, Calls Tryd.prog 121 #[.int .u64 x, .int .u64 y, .int .u64 a, .int .u64 b] w fun e w' => e = .returned (.tuple #[.int .u64 h, .int .u64 l]) ∧ w = w') ∧ Hid (Wd * h + l = x * y + a + b) ∧ 0 ≤ h ∧ h < Wd ∧ 0 ≤ l ∧ l < Wd := by
  have h1 := loW_in (x * y + a + b)
  have h2 := hi2 x y a b hx0 hx hy0 hy ha0 ha hb0 hb
  exact ⟨_, _, Lib.hid (fun w => fr_mulAdd x y a b w hx0 hx hy0 hy ha0 ha hb0 hb), Lib.hid (hilo _), h2.1, h2.2, h1.1, h1.2⟩
/-- What R times is 1. -/
def Rir : Int := 12549076656233958353659347336803947287922716146853412054870763148006372261952
theorem Rir_ok : Wd ^ 4 * Rir % Mr = 1 := by decide +kernel
/-- One word of a product: the numbers. -/
theorem mont_round (M v y s t s' : Int) (y0 y1 y2 y3 m0 m1 m2 m3 s0 s1 s2 s3 h0 l0 h1 l1 h2 l2 h3 l3 c0 d0 c1 d1 c2 d2 c3 d3 : Int)
    (hy : y = y0 + Wd * (y1 + Wd * (y2 + Wd * y3))) (hm : M = m0 + Wd * (m1 + Wd * (m2 + Wd * m3))) (hs : s = s0 + Wd * (s1 + Wd * (s2 + Wd * s3)))
    (e0 : Wd * h0 + l0 = v * y0 + s0 + 0) (f0 : Wd * c0 + d0 = t * m0 + l0 + 0) (hd : d0 = 0)
    (e1 : Wd * h1 + l1 = v * y1 + s1 + h0) (f1 : Wd * c1 + d1 = t * m1 + l1 + c0)
    (e2 : Wd * h2 + l2 = v * y2 + s2 + h1) (f2 : Wd * c2 + d2 = t * m2 + l2 + c1)
    (e3 : Wd * h3 + l3 = v * y3 + s3 + h2) (f3 : Wd * c3 + d3 = t * m3 + l3 + c2) (hs' : s' = d1 + Wd * (d2 + Wd * (d3 + Wd * (h3 + c3)))) :
    s' * Wd = s + v * y + t * M := by
  subst hy hm hs hs' hd
  obtain rfl : l0 = Wd * c0 - t * m0 := by omega
  obtain rfl : l1 = Wd * c1 + d1 - t * m1 - c0 := by omega
  obtain rfl : l2 = Wd * c2 + d2 - t * m2 - c1 := by omega
  obtain rfl : l3 = Wd * c3 + d3 - t * m3 - c2 := by omega
  obtain rfl : s0 = Wd * h0 + (Wd * c0 - t * m0) - v * y0 := by omega
  obtain rfl : s1 = Wd * h1 + (Wd * c1 + d1 - t * m1 - c0) - v * y1 - h0 := by omega
  obtain rfl : s2 = Wd * h2 + (Wd * c2 + d2 - t * m2 - c1) - v * y2 - h1 := by omega
  obtain rfl : s3 = Wd * h3 + (Wd * c3 + d3 - t * m3 - c2) - v * y3 - h2 := by omega
  clear e0 e1 e2 e3 f0 f1 f2 f3
  grind
theorem low_nought (t l c d : Int) (ht : t = loW (l * 18446744069414584319)) (h : Wd * c + d = t * wd Mr 0 + l + 0) (d0 : 0 ≤ d) (d1 : d < Wd) : d = 0 := by
  have hm : wd Mr 0 = 18446744069414584321 := by decide +kernel
  rw [hm] at h
  unfold loW at ht
  have h2 := Int.mul_ediv_add_emod (l * 18446744069414584319) Wd
  unfold Wd at *
  omega
theorem wd_pos : (0 : Int) < Wd := by simp [Wd]
theorem idx4_0 (a b c d : Int) (u : World) : (Instr.index 26 (.agg #[.int .u64 a, .int .u64 b, .int .u64 c, .int .u64 d]) (.int .i64 0)).run Tryd.prog u = .ok (.int .u64 a) u := by kernel_rfl
theorem idx4_1 (a b c d : Int) (u : World) : (Instr.index 26 (.agg #[.int .u64 a, .int .u64 b, .int .u64 c, .int .u64 d]) (.int .i64 1)).run Tryd.prog u = .ok (.int .u64 b) u := by kernel_rfl
theorem idx4_2 (a b c d : Int) (u : World) : (Instr.index 26 (.agg #[.int .u64 a, .int .u64 b, .int .u64 c, .int .u64 d]) (.int .i64 2)).run Tryd.prog u = .ok (.int .u64 c) u := by kernel_rfl
theorem idx4_3 (a b c d : Int) (u : World) : (Instr.index 26 (.agg #[.int .u64 a, .int .u64 b, .int .u64 c, .int .u64 d]) (.int .i64 3)).run Tryd.prog u = .ok (.int .u64 d) u := by kernel_rfl
/-- The world in a product's rounds: the two factors, the result's cells, the sum. -/
structure LW (w : World) (y : Int) (wr : World) (s0 s1 s2 s3 : Int) : Prop where
  be : Below w.heap.size w wr
  by_ : Blk wr (w.heap.size + 1) 28 #[.int .u64 (wd y 0), .int .u64 (wd y 1), .int .u64 (wd y 2), .int .u64 (wd y 3)]
  br : Blk wr (w.heap.size + 1 + 1) 28 #[.int .u64 0, .int .u64 0, .int .u64 0, .int .u64 0]
  bs : Blk wr (w.heap.size + 1 + 1 + 1) 26 #[.int .u64 s0, .int .u64 s1, .int .u64 s2, .int .u64 s3]
theorem LW.drewN {w : World} {y : Int} {wr : World} {s0 s1 s2 s3 : Int} (h : LW w y wr s0 s1 s2 s3) (n : Nat) : LW w y (wr.drewN n) s0 s1 s2 s3 :=
  ⟨below_drewN h.be n, h.by_.drewN n, h.br.drewN n, h.bs.drewN n⟩
theorem LW.set0 {w : World} {y : Int} {wr : World} {s0 s1 s2 s3 : Int} (h : LW w y wr s0 s1 s2 s3) (v : Int) : LW w y (wr.setCell ⟨w.heap.size + 1 + 1 + 1, 0, none⟩ (.int .u64 v)) v s1 s2 s3 :=
  ⟨h.be.setCell (by simp; omega) _, h.by_.far (by simp) _, h.br.far (by simp) _, h.bs.set_ 0 _⟩
theorem LW.set1 {w : World} {y : Int} {wr : World} {s0 s1 s2 s3 : Int} (h : LW w y wr s0 s1 s2 s3) (v : Int) : LW w y (wr.setCell ⟨w.heap.size + 1 + 1 + 1, 1, none⟩ (.int .u64 v)) s0 v s2 s3 :=
  ⟨h.be.setCell (by simp; omega) _, h.by_.far (by simp) _, h.br.far (by simp) _, h.bs.set_ 1 _⟩
theorem LW.set2 {w : World} {y : Int} {wr : World} {s0 s1 s2 s3 : Int} (h : LW w y wr s0 s1 s2 s3) (v : Int) : LW w y (wr.setCell ⟨w.heap.size + 1 + 1 + 1, 2, none⟩ (.int .u64 v)) s0 s1 v s3 :=
  ⟨h.be.setCell (by simp; omega) _, h.by_.far (by simp) _, h.br.far (by simp) _, h.bs.set_ 2 _⟩
theorem LW.set3 {w : World} {y : Int} {wr : World} {s0 s1 s2 s3 : Int} (h : LW w y wr s0 s1 s2 s3) (v : Int) : LW w y (wr.setCell ⟨w.heap.size + 1 + 1 + 1, 3, none⟩ (.int .u64 v)) s0 s1 s2 v :=
  ⟨h.be.setCell (by simp; omega) _, h.by_.far (by simp) _, h.br.far (by simp) _, h.bs.set_ 3 _⟩
/-- The cells of the world, for a walk. -/
theorem LW.cells {w : World} {y : Int} {wr : World} {s0 s1 s2 s3 : Int} (h : LW w y wr s0 s1 s2 s3) (hG : GMr w) :
    (wr.cell? ⟨w.heap.size + 1, 0, none⟩ = some (.int .u64 (wd y 0)) ∧ wr.cell? ⟨w.heap.size + 1, 1, none⟩ = some (.int .u64 (wd y 1)) ∧ wr.cell? ⟨w.heap.size + 1, 2, none⟩ = some (.int .u64 (wd y 2)) ∧ wr.cell? ⟨w.heap.size + 1, 3, none⟩ = some (.int .u64 (wd y 3))) ∧
    (wr.cell? ⟨w.heap.size + 1 + 1 + 1, 0, none⟩ = some (.int .u64 s0) ∧ wr.cell? ⟨w.heap.size + 1 + 1 + 1, 1, none⟩ = some (.int .u64 s1) ∧ wr.cell? ⟨w.heap.size + 1 + 1 + 1, 2, none⟩ = some (.int .u64 s2) ∧ wr.cell? ⟨w.heap.size + 1 + 1 + 1, 3, none⟩ = some (.int .u64 s3)) ∧
    (wr.frozen? ⟨w.heap.size + 1 + 1 + 1, 0, none⟩ = false ∧ wr.frozen? ⟨w.heap.size + 1 + 1 + 1, 1, none⟩ = false ∧ wr.frozen? ⟨w.heap.size + 1 + 1 + 1, 2, none⟩ = false ∧ wr.frozen? ⟨w.heap.size + 1 + 1 + 1, 3, none⟩ = false) ∧
    (wr.cell? ⟨0, 0, none⟩ = some (.int .u64 (wd Mr 0)) ∧ wr.cell? ⟨0, 1, none⟩ = some (.int .u64 (wd Mr 1)) ∧ wr.cell? ⟨0, 2, none⟩ = some (.int .u64 (wd Mr 2)) ∧ wr.cell? ⟨0, 3, none⟩ = some (.int .u64 (wd Mr 3))) :=
  have g := hG.keep h.be
  ⟨⟨h.by_.at_ rfl, h.by_.at_ rfl, h.by_.at_ rfl, h.by_.at_ rfl⟩, ⟨h.bs.at_ rfl, h.bs.at_ rfl, h.bs.at_ rfl, h.bs.at_ rfl⟩, ⟨h.bs.frozen 0, h.bs.frozen 1, h.bs.frozen 2, h.bs.frozen 3⟩, ⟨g.c0, g.c1, g.c2, g.c3⟩⟩
/-- The first k words. -/
def xk (x : Int) : Nat → Int
  | 0 => 0
  | k + 1 => xk x k + Wd ^ k * wd x k
theorem xk4 (x : Int) (h0 : 0 ≤ x) (h : x < Wd ^ 4) : xk x 4 = x := by
  have := nu4 x h0 h
  simp only [xk]
  grind
/-- The sum behind k words. -/
structure MR (x y : Int) (k : Nat) (s0 s1 s2 s3 : Int) : Prop where
  b0 : 0 ≤ s0 ∧ s0 < Wd
  b1 : 0 ≤ s1 ∧ s1 < Wd
  b2 : 0 ≤ s2 ∧ s2 < Wd
  b3 : 0 ≤ s3 ∧ s3 < Wd
  lo : 0 ≤ s0 + Wd * (s1 + Wd * (s2 + Wd * s3)) ∧ s0 + Wd * (s1 + Wd * (s2 + Wd * s3)) < 2 * Mr
  dv : Mr ∣ (s0 + Wd * (s1 + Wd * (s2 + Wd * s3))) * Wd ^ k - xk x k * y
theorem MR.zero (x y : Int) : MR x y 0 0 0 0 0 := by
  have := wd_pos
  refine ⟨⟨by omega, this⟩, ⟨by omega, this⟩, ⟨by omega, this⟩, ⟨by omega, this⟩, ?_, ?_⟩
  · simp [Mr]
  · simp [xk]
theorem dvd_round (M s v y t s' W P X : Int) (h : M ∣ s * P - X * y) (he : s' * W = s + v * y + t * M) : M ∣ s' * (P * W) - (X + P * v) * y := by
  obtain ⟨q, hq⟩ := h
  refine ⟨q + t * P, ?_⟩
  have e1 : s' * (P * W) = P * (s + v * y + t * M) := by rw [← he]; grind
  have e2 : s * P = M * q + X * y := by omega
  rw [e1]
  grind
theorem MR.step (x y : Int) (k : Nat) (s0 s1 s2 s3 d1 d2 d3 z t : Int) (h : MR x y k s0 s1 s2 s3) (hy0 : 0 ≤ y) (hy : y < Mr) (ht : 0 ≤ t ∧ t < Wd) (q1 : 0 ≤ d1 ∧ d1 < Wd) (q2 : 0 ≤ d2 ∧ d2 < Wd) (q3 : 0 ≤ d3 ∧ d3 < Wd) (hz : 0 ≤ z)
    (he : (d1 + Wd * (d2 + Wd * (d3 + Wd * z))) * Wd = s0 + Wd * (s1 + Wd * (s2 + Wd * s3)) + wd x k * y + t * Mr) : MR x y (k + 1) d1 d2 d3 z ∧ z < Wd := by
  have hb := mont_bound Mr Wd _ (wd x k) y t _ wd_pos h.lo.1 h.lo.2 (wd_lo x k).1 (wd_lo x k).2 hy0 hy ht.1 ht.2 he
  have hz2 : z < Wd := by
    have h2 := hb.2
    unfold Wd Mr at *
    omega
  refine ⟨⟨q1, q2, q3, ⟨hz, hz2⟩, hb, ?_⟩, hz2⟩
  rw [Int.pow_succ]
  exact dvd_round _ _ _ _ _ _ _ _ _ h.dv he
set_option maxRecDepth 100000 in
set_option maxHeartbeats 4000000 in
theorem fr_mul0 (x y : Int) (w : World) (hG : GMr w) (hx0 : 0 ≤ x) (hx : x < Wd ^ 4) (hy0 : 0 ≤ y) (hy : y < Mr) :
    Calls Tryd.prog 40 #[arr4 x, arr4 y] w fun e w' => e = .returned (arr4 (x * y * Rir % Mr)) ∧ Below w.heap.size w w' := by
  have HG := Lib.hid hG
  obtain ⟨g0, g1, g2, g3⟩ := hG
  have g9 := World.block_lt_of_cell? w _ g0
  have HX := Lib.hid hx
  have HY := Lib.hid hy
  have HX0 := Lib.hid hx0
  have HY0 := Lib.hid hy0
  clear hx hy hx0 hy0
  conv => arg 3; unfold arr4
  go_enter Tryd.func40, Tryd.ntmps40
  go_wp2_with fail
  have hI : LW w y ((((w.alloc (Obj.cells #[Value.int IntKind.u64 (wd x 0), Value.int IntKind.u64 (wd x 1), Value.int IntKind.u64 (wd x 2), Value.int IntKind.u64 (wd x 3)] 28)).alloc (Obj.cells #[Value.int IntKind.u64 (wd y 0), Value.int IntKind.u64 (wd y 1), Value.int IntKind.u64 (wd y 2), Value.int IntKind.u64 (wd y 3)] 28)).alloc (Obj.cells #[Value.int IntKind.u64 0, Value.int IntKind.u64 0, Value.int IntKind.u64 0, Value.int IntKind.u64 0] 28)).alloc (Obj.cells #[Value.int IntKind.u64 0, Value.int IntKind.u64 0, Value.int IntKind.u64 0, Value.int IntKind.u64 0] 26)) 0 0 0 0 :=
    ⟨by repeat (first | exact Below.refl _ _ | refine Below.drew ?_ | refine Below.alloc ?_ (by simp; try omega) _), ((bump1 w _ _ _).alloc _).alloc _, (bump2 w _ _ _ _).alloc _, bump3 w _ _ _ _ _⟩
  have HI := Lib.hid hI
  clear hI
  go_loopw [7, 8, 9, 10, 11, 12, 13, 16] (fun _ _ _ _ _ _ _ cnt wr => ∃ (k : Nat) (s0 s1 s2 s3 : Int), k ≤ 4 ∧ cnt = .int .i64 k ∧ LW w y wr s0 s1 s2 s3 ∧ MR x y k s0 s1 s2 s3) (fun _ _ _ _ _ _ _ cnt _ => 4 - (intOf cnt).toNat)
  case atStart => exact ⟨0, 0, 0, 0, 0, Nat.zero_le _, rfl, HI.out, MR.zero x y⟩
  case round =>
    obtain ⟨k, s0, s1, s2, s3, hk, rfl, hL, hR⟩ := hrel
    clear HI g0 g1 g2 g3 g9
    have L0 := Lib.hid hL
    clear hL
    by_cases hlt : k < 4
    · have hidx : ∀ u : World, (Instr.index 26 (.agg #[.int .u64 (wd x 0), .int .u64 (wd x 1), .int .u64 (wd x 2), .int .u64 (wd x 3)]) (.int .i64 (k : Int))).run Tryd.prog u = .ok (.int .u64 (wd x k)) u := by
        intro u
        match k, hlt with
        | 0, _ => exact idx4_0 _ _ _ _ u
        | 1, _ => exact idx4_1 _ _ _ _ u
        | 2, _ => exact idx4_2 _ _ _ _ u
        | 3, _ => exact idx4_3 _ _ _ _ u
      have v1 := (wd_lo x k).1
      have v2 := (wd_lo x k).2
      have b0 := hR.b0
      have b1 := hR.b1
      have b2 := hR.b2
      have b3 := hR.b3
      obtain ⟨v, hv⟩ : ∃ v, v = wd x k := ⟨_, rfl⟩
      rw [← hv] at hidx v1 v2
      obtain ⟨h0, l0, A0, E0, a1, a2, a3, a4⟩ := mulAdd_ex v (wd y 0) s0 0 v1 v2 (wd_lo y 0).1 (wd_lo y 0).2 b0.1 b0.2 (by omega) wd_pos
      obtain ⟨t, ht⟩ : ∃ t, t = loW (l0 * 18446744069414584319) := ⟨_, rfl⟩
      have t1 : 0 ≤ t := by rw [ht]; exact (loW_in _).1
      have t2 : t < Wd := by rw [ht]; exact (loW_in _).2
      have hwt : IntKind.u64.wrap (l0 * 18446744069414584319) = t := by rw [wrapU, ht]
      obtain ⟨c0, d0, B0, F0, a5, a6, a7, a8⟩ := mulAdd_ex t (wd Mr 0) l0 0 t1 t2 (wd_lo Mr 0).1 (wd_lo Mr 0).2 a3 a4 (by omega) wd_pos
      have hd0 : d0 = 0 := low_nought t l0 c0 d0 ht F0.out a7 a8
      obtain ⟨h1, l1, A1, E1, h11, h12, h13, h14⟩ := mulAdd_ex v (wd y 1) s1 h0 v1 v2 (wd_lo y 1).1 (wd_lo y 1).2 b1.1 b1.2 a1 a2
      obtain ⟨c1, d1, B1, F1, k11, k12, k13, k14⟩ := mulAdd_ex t (wd Mr 1) l1 c0 t1 t2 (wd_lo Mr 1).1 (wd_lo Mr 1).2 h13 h14 a5 a6
      obtain ⟨h2, l2, A2, E2, h21, h22, h23, h24⟩ := mulAdd_ex v (wd y 2) s2 h1 v1 v2 (wd_lo y 2).1 (wd_lo y 2).2 b2.1 b2.2 h11 h12
      obtain ⟨c2, d2, B2, F2, k21, k22, k23, k24⟩ := mulAdd_ex t (wd Mr 2) l2 c1 t1 t2 (wd_lo Mr 2).1 (wd_lo Mr 2).2 h23 h24 k11 k12
      obtain ⟨h3, l3, A3, E3, h31, h32, h33, h34⟩ := mulAdd_ex v (wd y 3) s3 h2 v1 v2 (wd_lo y 3).1 (wd_lo y 3).2 b3.1 b3.2 h21 h22
      obtain ⟨c3, d3, B3, F3, k31, k32, k33, k34⟩ := mulAdd_ex t (wd Mr 3) l3 c2 t1 t2 (wd_lo Mr 3).1 (wd_lo Mr 3).2 h33 h34 k21 k22

      have hst : ∀ z, 0 ≤ z → z = h3 + c3 → MR x y (k + 1) d1 d2 d3 z ∧ z < Wd := fun z z0 hz => by
        refine hR.step x y k s0 s1 s2 s3 d1 d2 d3 z t HY0.out HY.out ⟨t1, t2⟩ ⟨k13, k14⟩ ⟨k23, k24⟩ ⟨k33, k34⟩ z0 ?_
        have hM := Mr_lo
        rw [← hv]
        exact mont_round Mr v y _ t _ _ _ _ _ _ _ _ _ s0 s1 s2 s3 _ _ _ _ _ _ _ _ _ _ _ _ _ _ _ _ (nu4 y HY0.out (by have := HY.out; omega)) (nu4 Mr (by omega) (by omega)) rfl E0.out F0.out hd0 E1.out F1.out E2.out F2.out E3.out F3.out (by rw [hz])
      obtain ⟨hst1, hst2⟩ := hst (h3 + c3) (by omega) rfl
      have hwa : IntKind.u64.wrap (h3 + c3) = h3 + c3 := by rw [wrapU]; exact loW_of (by omega) hst2
      obtain ⟨z, hz⟩ : ∃ z, z = h3 + c3 := ⟨_, rfl⟩
      have hwz : IntKind.u64.wrap (h3 + c3) = z := by rw [hwa, hz]
      rw [← hz] at hst1
      subst hd0
      have HR := Lib.hid hst1
      clear hst hst1 hst2 hwa hz hv hR E0 E1 E2 E3 F0 F1 F2 F3 hk a1 a2 a3 a4 a5 a6 a7 a8 t1 t2 v1 v2 b0 b1 b2 b3 ht h11 h12 h13 h14 k11 k12 k13 k14 h21 h22 h23 h24 k21 k22 k23 k24 h31 h32 h33 h34 k31 k32 k33 k34
      have i1 : (k : Int) < 4 := by omega
      obtain ⟨w0, hw0⟩ : ∃ W, W = wr := ⟨_, rfl⟩
      subst hw0
      obtain ⟨⟨y0, y1, y2, y3⟩, ⟨r0, r1, r2, r3⟩, ⟨z0, z1, z2, z3⟩, ⟨g0, g1, g2, g3⟩⟩ := L0.out.cells HG.out
      go_wp2_with fail
      refine (A0.out _).mono ?_
      rintro e w' ⟨rfl, rfl⟩
      go_wp2_with fail
      refine (B0.out _).mono ?_
      rintro e w' ⟨rfl, rfl⟩
      go_wp2_with fail
      refine wp_loop_rounds 4 ?_
      rw [rounds_succ]
      go_wp2_with fail
      go_quiet ((go_at_call 121; exact quiet_left (A1.out _)))
      go_wp2_with fail
      refine (B1.out _).mono ?_
      rintro e w' ⟨rfl, rfl⟩
      go_wp2_with fail
      have L1 := Lib.hid ((L0.out.drewN nq).set0 d1)
      obtain ⟨w1, hw1⟩ : ∃ W, W = (w0.drewN nq).setCell ⟨w.heap.size + 1 + 1 + 1, 0, none⟩ (.int .u64 d1) := ⟨_, rfl⟩
      rw [← hw1] at L1 ⊢
      clear hw1 L0 y0 y1 y2 y3 r0 r1 r2 r3 z0 z1 z2 z3 g0 g1 g2 g3
      obtain ⟨⟨y0, y1, y2, y3⟩, ⟨r0, r1, r2, r3⟩, ⟨z0, z1, z2, z3⟩, ⟨g0, g1, g2, g3⟩⟩ := L1.out.cells HG.out
      rw [rounds_succ]
      go_wp2_with fail
      go_quiet ((go_at_call 121; exact quiet_left (A2.out _)))
      go_wp2_with fail
      refine (B2.out _).mono ?_
      rintro e w' ⟨rfl, rfl⟩
      go_wp2_with fail
      have L2 := Lib.hid ((L1.out.drewN nq).set1 d2)
      obtain ⟨w2, hw2⟩ : ∃ W, W = (w1.drewN nq).setCell ⟨w.heap.size + 1 + 1 + 1, 1, none⟩ (.int .u64 d2) := ⟨_, rfl⟩
      rw [← hw2] at L2 ⊢
      clear hw2 L1 y0 y1 y2 y3 r0 r1 r2 r3 z0 z1 z2 z3 g0 g1 g2 g3
      obtain ⟨⟨y0, y1, y2, y3⟩, ⟨r0, r1, r2, r3⟩, ⟨z0, z1, z2, z3⟩, ⟨g0, g1, g2, g3⟩⟩ := L2.out.cells HG.out
      rw [rounds_succ]
      go_wp2_with fail
      go_quiet ((go_at_call 121; exact quiet_left (A3.out _)))
      go_wp2_with fail
      refine (B3.out _).mono ?_
      rintro e w' ⟨rfl, rfl⟩
      go_wp2_with fail
      have L3 := Lib.hid ((L2.out.drewN nq).set2 d3)
      obtain ⟨w3, hw3⟩ : ∃ W, W = (w2.drewN nq).setCell ⟨w.heap.size + 1 + 1 + 1, 2, none⟩ (.int .u64 d3) := ⟨_, rfl⟩
      rw [← hw3] at L3 ⊢
      clear hw3 L2 y0 y1 y2 y3 r0 r1 r2 r3 z0 z1 z2 z3 g0 g1 g2 g3
      obtain ⟨⟨y0, y1, y2, y3⟩, ⟨r0, r1, r2, r3⟩, ⟨z0, z1, z2, z3⟩, ⟨g0, g1, g2, g3⟩⟩ := L3.out.cells HG.out
      rw [rounds_succ]
      go_wp2_with fail
      exact ⟨⟨k + 1, d1, d2, d3, z, by omega, by go_num, L3.out.set3 z, HR.out⟩, by simp [intOf]; omega⟩
    · obtain rfl : k = 4 := by omega
      obtain ⟨S, hS⟩ : ∃ S, S = s0 + Wd * (s1 + Wd * (s2 + Wd * s3)) := ⟨_, rfl⟩
      have hagg := arr4_of s0 s1 s2 s3 S hR.b0 hR.b1 hR.b2 hR.b3 hS.symm
      have hlo := hR.lo
      have hdv := hR.dv
      rw [← hS, xk4 x HX0.out HX.out] at hdv
      rw [← hS] at hlo
      have hfin : S % Mr = x * y * Rir % Mr := by
        have hM := Mr_lo
        refine mont_fin Mr (Wd ^ 4) Rir x y (S % Mr) Rir_ok (Int.emod_nonneg _ (by omega)) (Int.emod_lt_of_pos _ (by omega)) ?_
        obtain ⟨q, hq⟩ := hdv
        have e := Int.mul_ediv_add_emod S Mr
        refine ⟨q - (S / Mr) * Wd ^ 4, ?_⟩
        have e2 : S % Mr = S - Mr * (S / Mr) := by omega
        rw [e2]
        grind
      have AG := Lib.hid hagg
      have FN := Lib.hid hfin
      have LO := Lib.hid hlo
      clear hR hagg hfin hlo hdv hS hk hlt
      obtain ⟨⟨y0, y1, y2, y3⟩, ⟨r0, r1, r2, r3⟩, ⟨z0, z1, z2, z3⟩, ⟨g0, g1, g2, g3⟩⟩ := L0.out.cells HG.out
      have j1 : decide (((4 : Nat) : Int) < 4) = false := by decide
      go_wp2_with fail
      rw [AG.out]
      refine (fr_reduced S _ (HG.out.keep L0.out.be) LO.out.1 LO.out.2).mono ?_
      rintro e w1 ⟨rfl, hB⟩
      rw [FN.out]
      clear y0 y1 y2 y3 r0 r1 r2 r3 z0 z1 z2 z3 g0 g1 g2 g3
      obtain ⟨f0, f1, f2, f3, z0, z1, z2, z3, hg⟩ := res4 L0.out.br hB
      have hW : Below w.heap.size w w1 := L0.out.be.trans (hB.mono L0.out.be.size)
      have HW := Lib.hid hW
      clear hB hW
      obtain ⟨Z, hZ⟩ : ∃ Z, Z = x * y * Rir % Mr := ⟨_, rfl⟩
      rw [← hZ]
      have HZ := Lib.hid hZ
      clear hZ
      unfold arr4
      go_wp2_with fail
      refine bodyPost_ret (v := arr4 Z) (by simp [arr4, results, Tryd.results40, go_sem, f0, f1, f2, f3]) rfl ⟨by rw [HZ.out], ?_⟩
      repeat (first | exact HW.out | refine Below.drew ?_ | refine Below.alloc ?_ (by first | assumption | (simp; done) | (simp; omega)) _ | refine Below.setCell ?_ (by simp; try omega) _)
end Go.Proofs.YtclfmdaafpachaaDoor
