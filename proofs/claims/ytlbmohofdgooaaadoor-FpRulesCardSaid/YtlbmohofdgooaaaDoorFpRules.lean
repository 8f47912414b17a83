/-
  FpRules: the walk.
-/
import Derived.Test.YtlbmohofdgooaaaDoorA1b
namespace Go.Proofs.YtlbmohofdgooaaaDoor
open Go.RowKit
set_option maxRecDepth 100000 in
set_option maxHeartbeats 8000000 in
theorem rulesp_all (w : World) (hG : GM0 w) (hS : GSqp w) (hH : GShp w) (hQ : GQp w) (hU : GUp w) (A0 : Option Addr) (L0 c0 : Nat) (bs0 : List Int) (A1 : Option Addr) (L1 c1 : Nat) (bs1 : List Int) (A2 : Option Addr) (L2 c2 : Nat) (bs2 : List Int) (hr0 : Reads w w.heap.size A0 L0 (bs0.map (Value.int .u8))) (ho0 : Oct bs0) (hr1 : Reads w w.heap.size A1 L1 (bs1.map (Value.int .u8))) (ho1 : Oct bs1) (hr2 : Reads w w.heap.size A2 L2 (bs2.map (Value.int .u8))) (ho2 : Oct bs2) (h0 : L0 ≤ 400) (h1 : L1 ≤ 400) (h2 : L2 ≤ 400) :
    Calls Tryd.prog 7 #[.slice A0 L0 c0, .slice A1 L1 c1, .slice A2 L2 c2] w fun e w' => e = .returned (.bool true) ∧ Below w.heap.size w w' := by
  have HG := Lib.hid hG
  have HS := Lib.hid hS
  have HH := Lib.hid hH
  have HQ := Lib.hid hQ
  have HU := Lib.hid hU
  have HR0 := Lib.hid hr0
  have HO0 := Lib.hid ho0
  have HL0 := Lib.hid (show bs0.length = L0 by simpa using hr0.1)
  obtain ⟨X0, hX0⟩ : ∃ X, X = num bs0 := ⟨_, rfl⟩
  have HR1 := Lib.hid hr1
  have HO1 := Lib.hid ho1
  have HL1 := Lib.hid (show bs1.length = L1 by simpa using hr1.1)
  obtain ⟨X1, hX1⟩ : ∃ X, X = num bs1 := ⟨_, rfl⟩
  have HR2 := Lib.hid hr2
  have HO2 := Lib.hid ho2
  have HL2 := Lib.hid (show bs2.length = L2 by simpa using hr2.1)
  obtain ⟨X2, hX2⟩ : ∃ X, X = num bs2 := ⟨_, rfl⟩
  have q1 := pv_same (X0 + X1) (X1 + X0) (by rw [Int.add_comm])
  have q2 := pv_same (X0 * X1) (X1 * X0) (by rw [Int.mul_comm])
  have q3 := pv_same (X0 + X1 + X2) (X0 + (X1 + X2)) (by rw [Int.add_assoc])
  have q4 := pv_same (X0 * X1 * X2) (X0 * (X1 * X2)) (by rw [Int.mul_assoc])
  have q5 := pv_same ((X0 + X1) * X2) (X0 * X2 + X1 * X2) (by rw [Int.add_mul])
  obtain ⟨D, hD⟩ : ∃ D, D = X0 - X1 := ⟨_, rfl⟩
  obtain ⟨N, hN⟩ : ∃ N, N = -X0 := ⟨_, rfl⟩
  have q6 := pv_same (D + X1) X0 (by rw [hD, Int.sub_add_cancel])
  have q9 := pv_same X0 X0 rfl
  have q7 := pv_same (X0 * X0) (X0 * X0) rfl
  have hz : decide ((X0 + N) % Mp = 0) = true := by rw [hN, Int.add_right_neg]; rfl
  have HZ := Lib.hid hz
  have HD := Lib.hid hD
  have HN := Lib.hid hN
  clear hz hD hN
  have HX0 := Lib.hid hX0
  clear hX0 hr0 ho0
  have HX1 := Lib.hid hX1
  clear hX1 hr1 ho1
  have HX2 := Lib.hid hX2
  clear hX2 hr2 ho2
  clear hG hS hH hQ hU
  have B0 : Hid (Below w.heap.size w w) := Lib.hid (Below.refl _ _)
  go_enter Tryd.func7, Tryd.ntmps7
  go_wp2_with fail
  refine (fp_head _ (HG.out.keep B0.out) (HS.out.keep B0.out) (HQ.out.keep B0.out) (HU.out.keep B0.out)).mono ?_
  rintro e w1 ⟨rfl, hb⟩
  have B1 := Lib.hid (B0.out.trans (hb.mono B0.out.size))
  clear hb B0 
  go_wp2_with fail
  refine (copy_any w1 A0 L0 c0 bs0 ((HR0.out.below B1.out).more B1.out.size) (by omega)).mono ?_
  rintro e w2 ⟨gc0, rfl, -, hBc, hb⟩
  have RC0 := Lib.hid (copy_reads hBc HL0.out)
  have B2 := Lib.hid (B1.out.trans (hb.mono B1.out.size))
  clear hb hBc B1 
  go_wp2_with fail
  refine (fp_wide _ (HG.out.keep B2.out) (HS.out.keep B2.out) (HH.out.keep B2.out) (some ⟨gc0, 0, none⟩) L0 L0 bs0 RC0.out HO0.out (Nat.le_refl _) (by omega)).mono ?_
  rintro e w3 ⟨rfl, hb⟩
  have B3 := Lib.hid (B2.out.trans (hb.mono B2.out.size))
  clear hb B2 
  rw [← HX0.out]
  unfold pv arr6
  go_wp2_with fail
  have B4 := Lib.hid (B3.out.alloc B3.out.size (Obj.cells #[.int .u64 (wd (fe Mp (Wd ^ 6) X0) 0), .int .u64 (wd (fe Mp (Wd ^ 6) X0) 1), .int .u64 (wd (fe Mp (Wd ^ 6) X0) 2), .int .u64 (wd (fe Mp (Wd ^ 6) X0) 3), .int .u64 (wd (fe Mp (Wd ^ 6) X0) 4), .int .u64 (wd (fe Mp (Wd ^ 6) X0) 5)] 28))
  have Kx_4 := Lib.hid (Blk.new w3 28 #[.int .u64 (wd (fe Mp (Wd ^ 6) X0) 0), .int .u64 (wd (fe Mp (Wd ^ 6) X0) 1), .int .u64 (wd (fe Mp (Wd ^ 6) X0) 2), .int .u64 (wd (fe Mp (Wd ^ 6) X0) 3), .int .u64 (wd (fe Mp (Wd ^ 6) X0) 4), .int .u64 (wd (fe Mp (Wd ^ 6) X0) 5)])
  obtain ⟨gx, hgx⟩ : ∃ g, g = w3.heap.size := ⟨_, rfl⟩
  obtain ⟨w4, hw4⟩ : ∃ W, W = w3.alloc (Obj.cells #[.int .u64 (wd (fe Mp (Wd ^ 6) X0) 0), .int .u64 (wd (fe Mp (Wd ^ 6) X0) 1), .int .u64 (wd (fe Mp (Wd ^ 6) X0) 2), .int .u64 (wd (fe Mp (Wd ^ 6) X0) 3), .int .u64 (wd (fe Mp (Wd ^ 6) X0) 4), .int .u64 (wd (fe Mp (Wd ^ 6) X0) 5)] 28) := ⟨_, rfl⟩
  rw [← hgx] at Kx_4
  simp only [← hw4] at B4 Kx_4
  rw [← hw4, ← hgx]
  clear hw4 hgx B3 
  obtain ⟨cx0, cx1, cx2, cx3, cx4, cx5⟩ := cells6 Kx_4.out
  have zx := Kx_4.out.lt
  refine (copy_any w4 A1 L1 c1 bs1 ((HR1.out.below B4.out).more B4.out.size) (by omega)).mono ?_
  rintro e w5 ⟨gc1, rfl, -, hBc, hb⟩
  clear cx0 cx1 cx2 cx3 cx4 cx5 zx
  have RC1 := Lib.hid (copy_reads hBc HL1.out)
  have B5 := Lib.hid (B4.out.trans (hb.mono B4.out.size))
  have Kx_5 := Lib.hid (Kx_4.out.keep hb)
  clear hb hBc B4 Kx_4
  go_wp2_with fail
  refine (fp_wide _ (HG.out.keep B5.out) (HS.out.keep B5.out) (HH.out.keep B5.out) (some ⟨gc1, 0, none⟩) L1 L1 bs1 RC1.out HO1.out (Nat.le_refl _) (by omega)).mono ?_
  rintro e w6 ⟨rfl, hb⟩
  have B6 := Lib.hid (B5.out.trans (hb.mono B5.out.size))
  have Kx_6 := Lib.hid (Kx_5.out.keep hb)
  clear hb B5 Kx_5
  obtain ⟨cx0, cx1, cx2, cx3, cx4, cx5⟩ := cells6 Kx_6.out
  have zx := Kx_6.out.lt
  rw [← HX1.out]
  unfold pv arr6
  go_wp2_with fail
  clear cx0 cx1 cx2 cx3 cx4 cx5 zx
  have B7 := Lib.hid (B6.out.alloc B6.out.size (Obj.cells #[.int .u64 (wd (fe Mp (Wd ^ 6) X1) 0), .int .u64 (wd (fe Mp (Wd ^ 6) X1) 1), .int .u64 (wd (fe Mp (Wd ^ 6) X1) 2), .int .u64 (wd (fe Mp (Wd ^ 6) X1) 3), .int .u64 (wd (fe Mp (Wd ^ 6) X1) 4), .int .u64 (wd (fe Mp (Wd ^ 6) X1) 5)] 28))
  have Kx_7 := Lib.hid (Kx_6.out.alloc (Obj.cells #[.int .u64 (wd (fe Mp (Wd ^ 6) X1) 0), .int .u64 (wd (fe Mp (Wd ^ 6) X1) 1), .int .u64 (wd (fe Mp (Wd ^ 6) X1) 2), .int .u64 (wd (fe Mp (Wd ^ 6) X1) 3), .int .u64 (wd (fe Mp (Wd ^ 6) X1) 4), .int .u64 (wd (fe Mp (Wd ^ 6) X1) 5)] 28))
  have Ky_7 := Lib.hid (Blk.new w6 28 #[.int .u64 (wd (fe Mp (Wd ^ 6) X1) 0), .int .u64 (wd (fe Mp (Wd ^ 6) X1) 1), .int .u64 (wd (fe Mp (Wd ^ 6) X1) 2), .int .u64 (wd (fe Mp (Wd ^ 6) X1) 3), .int .u64 (wd (fe Mp (Wd ^ 6) X1) 4), .int .u64 (wd (fe Mp (Wd ^ 6) X1) 5)])
  obtain ⟨gy, hgy⟩ : ∃ g, g = w6.heap.size := ⟨_, rfl⟩
  obtain ⟨w7, hw7⟩ : ∃ W, W = w6.alloc (Obj.cells #[.int .u64 (wd (fe Mp (Wd ^ 6) X1) 0), .int .u64 (wd (fe Mp (Wd ^ 6) X1) 1), .int .u64 (wd (fe Mp (Wd ^ 6) X1) 2), .int .u64 (wd (fe Mp (Wd ^ 6) X1) 3), .int .u64 (wd (fe Mp (Wd ^ 6) X1) 4), .int .u64 (wd (fe Mp (Wd ^ 6) X1) 5)] 28) := ⟨_, rfl⟩
  rw [← hgy] at Ky_7
  simp only [← hw7] at B7 Kx_7 Ky_7
  rw [← hw7, ← hgy]
  clear hw7 hgy B6 Kx_6
  obtain ⟨cx0, cx1, cx2, cx3, cx4, cx5⟩ := cells6 Kx_7.out
  have zx := Kx_7.out.lt
  obtain ⟨cy0, cy1, cy2, cy3, cy4, cy5⟩ := cells6 Ky_7.out
  have zy := Ky_7.out.lt
  refine (copy_any w7 A2 L2 c2 bs2 ((HR2.out.below B7.out).more B7.out.size) (by omega)).mono ?_
  rintro e w8 ⟨gc2, rfl, -, hBc, hb⟩
  clear cx0 cx1 cx2 cx3 cx4 cx5 zx cy0 cy1 cy2 cy3 cy4 cy5 zy
  have RC2 := Lib.hid (copy_reads hBc HL2.out)
  have B8 := Lib.hid (B7.out.trans (hb.mono B7.out.size))
  have Kx_8 := Lib.hid (Kx_7.out.keep hb)
  have Ky_8 := Lib.hid (Ky_7.out.keep hb)
  clear hb hBc B7 Kx_7 Ky_7
  go_wp2_with fail
  refine (fp_wide _ (HG.out.keep B8.out) (HS.out.keep B8.out) (HH.out.keep B8.out) (some ⟨gc2, 0, none⟩) L2 L2 bs2 RC2.out HO2.out (Nat.le_refl _) (by omega)).mono ?_
  rintro e w9 ⟨rfl, hb⟩
  have B9 := Lib.hid (B8.out.trans (hb.mono B8.out.size))
  have Kx_9 := Lib.hid (Kx_8.out.keep hb)
  have Ky_9 := Lib.hid (Ky_8.out.keep hb)
  clear hb B8 Kx_8 Ky_8
  obtain ⟨cx0, cx1, cx2, cx3, cx4, cx5⟩ := cells6 Kx_9.out
  have zx := Kx_9.out.lt
  obtain ⟨cy0, cy1, cy2, cy3, cy4, cy5⟩ := cells6 Ky_9.out
  have zy := Ky_9.out.lt
  rw [← HX2.out]
  unfold pv arr6
  go_wp2_with fail
  clear cx0 cx1 cx2 cx3 cx4 cx5 zx cy0 cy1 cy2 cy3 cy4 cy5 zy
  have B10 := Lib.hid (B9.out.alloc B9.out.size (Obj.cells #[.int .u64 (wd (fe Mp (Wd ^ 6) X2) 0), .int .u64 (wd (fe Mp (Wd ^ 6) X2) 1), .int .u64 (wd (fe Mp (Wd ^ 6) X2) 2), .int .u64 (wd (fe Mp (Wd ^ 6) X2) 3), .int .u64 (wd (fe Mp (Wd ^ 6) X2) 4), .int .u64 (wd (fe Mp (Wd ^ 6) X2) 5)] 28))
  have Kx_10 := Lib.hid (Kx_9.out.alloc (Obj.cells #[.int .u64 (wd (fe Mp (Wd ^ 6) X2) 0), .int .u64 (wd (fe Mp (Wd ^ 6) X2) 1), .int .u64 (wd (fe Mp (Wd ^ 6) X2) 2), .int .u64 (wd (fe Mp (Wd ^ 6) X2) 3), .int .u64 (wd (fe Mp (Wd ^ 6) X2) 4), .int .u64 (wd (fe Mp (Wd ^ 6) X2) 5)] 28))
  have Ky_10 := Lib.hid (Ky_9.out.alloc (Obj.cells #[.int .u64 (wd (fe Mp (Wd ^ 6) X2) 0), .int .u64 (wd (fe Mp (Wd ^ 6) X2) 1), .int .u64 (wd (fe Mp (Wd ^ 6) X2) 2), .int .u64 (wd (fe Mp (Wd ^ 6) X2) 3), .int .u64 (wd (fe Mp (Wd ^ 6) X2) 4), .int .u64 (wd (fe Mp (Wd ^ 6) X2) 5)] 28))
  have Kz_10 := Lib.hid (Blk.new w9 28 #[.int .u64 (wd (fe Mp (Wd ^ 6) X2) 0), .int .u64 (wd (fe Mp (Wd ^ 6) X2) 1), .int .u64 (wd (fe Mp (Wd ^ 6) X2) 2), .int .u64 (wd (fe Mp (Wd ^ 6) X2) 3), .int .u64 (wd (fe Mp (Wd ^ 6) X2) 4), .int .u64 (wd (fe Mp (Wd ^ 6) X2) 5)])
  obtain ⟨gz, hgz⟩ : ∃ g, g = w9.heap.size := ⟨_, rfl⟩
  obtain ⟨w10, hw10⟩ : ∃ W, W = w9.alloc (Obj.cells #[.int .u64 (wd (fe Mp (Wd ^ 6) X2) 0), .int .u64 (wd (fe Mp (Wd ^ 6) X2) 1), .int .u64 (wd (fe Mp (Wd ^ 6) X2) 2), .int .u64 (wd (fe Mp (Wd ^ 6) X2) 3), .int .u64 (wd (fe Mp (Wd ^ 6) X2) 4), .int .u64 (wd (fe Mp (Wd ^ 6) X2) 5)] 28) := ⟨_, rfl⟩
  rw [← hgz] at Kz_10
  simp only [← hw10] at B10 Kx_10 Ky_10 Kz_10
  rw [← hw10, ← hgz]
  clear hw10 hgz B9 Kx_9 Ky_9
  obtain ⟨cx0, cx1, cx2, cx3, cx4, cx5⟩ := cells6 Kx_10.out
  have zx := Kx_10.out.lt
  obtain ⟨cy0, cy1, cy2, cy3, cy4, cy5⟩ := cells6 Ky_10.out
  have zy := Ky_10.out.lt
  obtain ⟨cz0, cz1, cz2, cz3, cz4, cz5⟩ := cells6 Kz_10.out
  have zz := Kz_10.out.lt
  have GV1 := Lib.hid (HG.out.keep B10.out)
  have h1_0 := based_addp w10 GV1.out (X0) (X1)
  unfold pv arr6 at h1_0
  have A1_0 := Lib.hid h1_0
  clear h1_0
  have h1_1 := based_addp w10 GV1.out (X1) (X0)
  unfold pv arr6 at h1_1
  have A1_1 := Lib.hid h1_1
  clear h1_1
  have h1_2 := based_mulp w10 GV1.out (X0) (X1)
  unfold pv arr6 at h1_2
  have A1_2 := Lib.hid h1_2
  clear h1_2
  have h1_3 := based_mulp w10 GV1.out (X1) (X0)
  unfold pv arr6 at h1_3
  have A1_3 := Lib.hid h1_3
  clear h1_3
  have h1_4 := based_addp w10 GV1.out (X0 + X1) (X2)
  unfold pv arr6 at h1_4
  have A1_4 := Lib.hid h1_4
  clear h1_4
  have h1_5 := based_addp w10 GV1.out (X1) (X2)
  unfold pv arr6 at h1_5
  have A1_5 := Lib.hid h1_5
  clear h1_5
  have h1_6 := based_addp w10 GV1.out (X0) (X1 + X2)
  unfold pv arr6 at h1_6
  have A1_6 := Lib.hid h1_6
  clear h1_6
  have h1_7 := based_mulp w10 GV1.out (X0 * X1) (X2)
  unfold pv arr6 at h1_7
  have A1_7 := Lib.hid h1_7
  clear h1_7
  have h1_8 := based_mulp w10 GV1.out (X1) (X2)
  unfold pv arr6 at h1_8
  have A1_8 := Lib.hid h1_8
  clear h1_8
  have h1_9 := based_mulp w10 GV1.out (X0) (X1 * X2)
  unfold pv arr6 at h1_9
  have A1_9 := Lib.hid h1_9
  clear h1_9
  clear cx0 cx1 cx2 cx3 cx4 cx5 zx cy0 cy1 cy2 cy3 cy4 cy5 zy cz0 cz1 cz2 cz3 cz4 cz5 zz
  have D10 := hid_drew w10
  have SS10 : Hid (∀ W, Hid (Below w10.heap.size w10 W) → W.cell? ⟨gx, 0, none⟩ = some (.int .u64 (wd (fe Mp (Wd ^ 6) X0) 0)) ∧ W.cell? ⟨gx, 1, none⟩ = some (.int .u64 (wd (fe Mp (Wd ^ 6) X0) 1)) ∧ W.cell? ⟨gx, 2, none⟩ = some (.int .u64 (wd (fe Mp (Wd ^ 6) X0) 2)) ∧ W.cell? ⟨gx, 3, none⟩ = some (.int .u64 (wd (fe Mp (Wd ^ 6) X0) 3)) ∧ W.cell? ⟨gx, 4, none⟩ = some (.int .u64 (wd (fe Mp (Wd ^ 6) X0) 4)) ∧ W.cell? ⟨gx, 5, none⟩ = some (.int .u64 (wd (fe Mp (Wd ^ 6) X0) 5)) ∧ W.cell? ⟨gy, 0, none⟩ = some (.int .u64 (wd (fe Mp (Wd ^ 6) X1) 0)) ∧ W.cell? ⟨gy, 1, none⟩ = some (.int .u64 (wd (fe Mp (Wd ^ 6) X1) 1)) ∧ W.cell? ⟨gy, 2, none⟩ = some (.int .u64 (wd (fe Mp (Wd ^ 6) X1) 2)) ∧ W.cell? ⟨gy, 3, none⟩ = some (.int .u64 (wd (fe Mp (Wd ^ 6) X1) 3)) ∧ W.cell? ⟨gy, 4, none⟩ = some (.int .u64 (wd (fe Mp (Wd ^ 6) X1) 4)) ∧ W.cell? ⟨gy, 5, none⟩ = some (.int .u64 (wd (fe Mp (Wd ^ 6) X1) 5)) ∧ W.cell? ⟨gz, 0, none⟩ = some (.int .u64 (wd (fe Mp (Wd ^ 6) X2) 0)) ∧ W.cell? ⟨gz, 1, none⟩ = some (.int .u64 (wd (fe Mp (Wd ^ 6) X2) 1)) ∧ W.cell? ⟨gz, 2, none⟩ = some (.int .u64 (wd (fe Mp (Wd ^ 6) X2) 2)) ∧ W.cell? ⟨gz, 3, none⟩ = some (.int .u64 (wd (fe Mp (Wd ^ 6) X2) 3)) ∧ W.cell? ⟨gz, 4, none⟩ = some (.int .u64 (wd (fe Mp (Wd ^ 6) X2) 4)) ∧ W.cell? ⟨gz, 5, none⟩ = some (.int .u64 (wd (fe Mp (Wd ^ 6) X2) 5)) ∧ Hid (Below w10.heap.size w10 W)) := Lib.hid (fun W hW => by
    obtain ⟨qx0, qx1, qx2, qx3, qx4, qx5⟩ := cells6 (Kx_10.out.keep hW.out)
    obtain ⟨qy0, qy1, qy2, qy3, qy4, qy5⟩ := cells6 (Ky_10.out.keep hW.out)
    obtain ⟨qz0, qz1, qz2, qz3, qz4, qz5⟩ := cells6 (Kz_10.out.keep hW.out)
    exact ⟨qx0, qx1, qx2, qx3, qx4, qx5, qy0, qy1, qy2, qy3, qy4, qy5, qz0, qz1, qz2, qz3, qz4, qz5, hW⟩)
  go_region_held3 (fun W => W.cell? ⟨gx, 0, none⟩ = some (.int .u64 (wd (fe Mp (Wd ^ 6) X0) 0)) ∧ W.cell? ⟨gx, 1, none⟩ = some (.int .u64 (wd (fe Mp (Wd ^ 6) X0) 1)) ∧ W.cell? ⟨gx, 2, none⟩ = some (.int .u64 (wd (fe Mp (Wd ^ 6) X0) 2)) ∧ W.cell? ⟨gx, 3, none⟩ = some (.int .u64 (wd (fe Mp (Wd ^ 6) X0) 3)) ∧ W.cell? ⟨gx, 4, none⟩ = some (.int .u64 (wd (fe Mp (Wd ^ 6) X0) 4)) ∧ W.cell? ⟨gx, 5, none⟩ = some (.int .u64 (wd (fe Mp (Wd ^ 6) X0) 5)) ∧ W.cell? ⟨gy, 0, none⟩ = some (.int .u64 (wd (fe Mp (Wd ^ 6) X1) 0)) ∧ W.cell? ⟨gy, 1, none⟩ = some (.int .u64 (wd (fe Mp (Wd ^ 6) X1) 1)) ∧ W.cell? ⟨gy, 2, none⟩ = some (.int .u64 (wd (fe Mp (Wd ^ 6) X1) 2)) ∧ W.cell? ⟨gy, 3, none⟩ = some (.int .u64 (wd (fe Mp (Wd ^ 6) X1) 3)) ∧ W.cell? ⟨gy, 4, none⟩ = some (.int .u64 (wd (fe Mp (Wd ^ 6) X1) 4)) ∧ W.cell? ⟨gy, 5, none⟩ = some (.int .u64 (wd (fe Mp (Wd ^ 6) X1) 5)) ∧ W.cell? ⟨gz, 0, none⟩ = some (.int .u64 (wd (fe Mp (Wd ^ 6) X2) 0)) ∧ W.cell? ⟨gz, 1, none⟩ = some (.int .u64 (wd (fe Mp (Wd ^ 6) X2) 1)) ∧ W.cell? ⟨gz, 2, none⟩ = some (.int .u64 (wd (fe Mp (Wd ^ 6) X2) 2)) ∧ W.cell? ⟨gz, 3, none⟩ = some (.int .u64 (wd (fe Mp (Wd ^ 6) X2) 3)) ∧ W.cell? ⟨gz, 4, none⟩ = some (.int .u64 (wd (fe Mp (Wd ^ 6) X2) 4)) ∧ W.cell? ⟨gz, 5, none⟩ = some (.int .u64 (wd (fe Mp (Wd ^ 6) X2) 5)) ∧ Hid (Below w10.heap.size w10 W)) (first | exact SS10.out _ D10 | exact SS10.out _ (by with_reducible assumption)) (first
    | (go_at_call 25; (with_reducible refine (A1_0.out _ (by first | exact D10 | with_reducible assumption)).mono ?_); rintro e w11 ⟨rfl, HB11⟩)
    | (go_at_call 25; (with_reducible refine (A1_1.out _ (by first | exact D10 | with_reducible assumption)).mono ?_); rintro e w11 ⟨rfl, HB11⟩)
    | (go_at_call 29; (with_reducible refine (A1_2.out _ (by first | exact D10 | with_reducible assumption)).mono ?_); rintro e w11 ⟨rfl, HB11⟩)
    | (go_at_call 29; (with_reducible refine (A1_3.out _ (by first | exact D10 | with_reducible assumption)).mono ?_); rintro e w11 ⟨rfl, HB11⟩)
    | (go_at_call 25; (with_reducible refine (A1_4.out _ (by first | exact D10 | with_reducible assumption)).mono ?_); rintro e w11 ⟨rfl, HB11⟩)
    | (go_at_call 25; (with_reducible refine (A1_5.out _ (by first | exact D10 | with_reducible assumption)).mono ?_); rintro e w11 ⟨rfl, HB11⟩)
    | (go_at_call 25; (with_reducible refine (A1_6.out _ (by first | exact D10 | with_reducible assumption)).mono ?_); rintro e w11 ⟨rfl, HB11⟩)
    | (go_at_call 29; (with_reducible refine (A1_7.out _ (by first | exact D10 | with_reducible assumption)).mono ?_); rintro e w11 ⟨rfl, HB11⟩)
    | (go_at_call 29; (with_reducible refine (A1_8.out _ (by first | exact D10 | with_reducible assumption)).mono ?_); rintro e w11 ⟨rfl, HB11⟩)
    | (go_at_call 29; (with_reducible refine (A1_9.out _ (by first | exact D10 | with_reducible assumption)).mono ?_); rintro e w11 ⟨rfl, HB11⟩))
  have B11 := Lib.hid (B10.out.trans (HB11.out.mono B10.out.size))
  have Kx_11 := Lib.hid (Kx_10.out.keep HB11.out)
  have Ky_11 := Lib.hid (Ky_10.out.keep HB11.out)
  have Kz_11 := Lib.hid (Kz_10.out.keep HB11.out)
  clear B10 SS10 D10 HB11 Kx_10 Ky_10 Kz_10 A1_0 A1_1 A1_2 A1_3 A1_4 A1_5 A1_6 A1_7 A1_8 A1_9
  obtain ⟨cx0, cx1, cx2, cx3, cx4, cx5⟩ := cells6 Kx_11.out
  have zx := Kx_11.out.lt
  obtain ⟨cy0, cy1, cy2, cy3, cy4, cy5⟩ := cells6 Ky_11.out
  have zy := Ky_11.out.lt
  obtain ⟨cz0, cz1, cz2, cz3, cz4, cz5⟩ := cells6 Kz_11.out
  have zz := Kz_11.out.lt
  go_wp2_with fail
  have GV2 := Lib.hid (HG.out.keep B11.out)
  have h2_0 := based_addp w11 GV2.out (X0) (X1)
  unfold pv arr6 at h2_0
  have A2_0 := Lib.hid h2_0
  clear h2_0
  have h2_1 := based_mulp w11 GV2.out (X0 + X1) (X2)
  unfold pv arr6 at h2_1
  have A2_1 := Lib.hid h2_1
  clear h2_1
  have h2_2 := based_mulp w11 GV2.out (X0) (X2)
  unfold pv arr6 at h2_2
  have A2_2 := Lib.hid h2_2
  clear h2_2
  have h2_3 := based_mulp w11 GV2.out (X1) (X2)
  unfold pv arr6 at h2_3
  have A2_3 := Lib.hid h2_3
  clear h2_3
  have h2_4 := based_addp w11 GV2.out (X0 * X2) (X1 * X2)
  unfold pv arr6 at h2_4
  have A2_4 := Lib.hid h2_4
  clear h2_4
  have h2_5 := based_subp w11 GV2.out (X0) (X1)
  rw [← HD.out] at h2_5
  unfold pv arr6 at h2_5
  have A2_5 := Lib.hid h2_5
  clear h2_5
  have h2_6 := based_addp w11 GV2.out (D) (X1)
  unfold pv arr6 at h2_6
  have A2_6 := Lib.hid h2_6
  clear h2_6
  have h2_7 := based_negp w11 GV2.out (X0)
  rw [← HN.out] at h2_7
  unfold pv arr6 at h2_7
  have A2_7 := Lib.hid h2_7
  clear h2_7
  have h2_8 := based_addp w11 GV2.out (X0) (N)
  unfold pv arr6 at h2_8
  have A2_8 := Lib.hid h2_8
  clear h2_8
  have h2_9 := based_zerop w11  (X0 + N)
  rw [HZ.out] at h2_9
  unfold pv arr6 at h2_9
  have A2_9 := Lib.hid h2_9
  clear h2_9
  have h2_10 := based_squarep w11 GV2.out (X0)
  unfold pv arr6 at h2_10
  have A2_10 := Lib.hid h2_10
  clear h2_10
  have h2_11 := based_mulp w11 GV2.out (X0) (X0)
  unfold pv arr6 at h2_11
  have A2_11 := Lib.hid h2_11
  clear h2_11
  clear cx0 cx1 cx2 cx3 cx4 cx5 zx cy0 cy1 cy2 cy3 cy4 cy5 zy cz0 cz1 cz2 cz3 cz4 cz5 zz
  have D11 := hid_drew w11
  have SS11 : Hid (∀ W, Hid (Below w11.heap.size w11 W) → W.cell? ⟨gx, 0, none⟩ = some (.int .u64 (wd (fe Mp (Wd ^ 6) X0) 0)) ∧ W.cell? ⟨gx, 1, none⟩ = some (.int .u64 (wd (fe Mp (Wd ^ 6) X0) 1)) ∧ W.cell? ⟨gx, 2, none⟩ = some (.int .u64 (wd (fe Mp (Wd ^ 6) X0) 2)) ∧ W.cell? ⟨gx, 3, none⟩ = some (.int .u64 (wd (fe Mp (Wd ^ 6) X0) 3)) ∧ W.cell? ⟨gx, 4, none⟩ = some (.int .u64 (wd (fe Mp (Wd ^ 6) X0) 4)) ∧ W.cell? ⟨gx, 5, none⟩ = some (.int .u64 (wd (fe Mp (Wd ^ 6) X0) 5)) ∧ W.cell? ⟨gy, 0, none⟩ = some (.int .u64 (wd (fe Mp (Wd ^ 6) X1) 0)) ∧ W.cell? ⟨gy, 1, none⟩ = some (.int .u64 (wd (fe Mp (Wd ^ 6) X1) 1)) ∧ W.cell? ⟨gy, 2, none⟩ = some (.int .u64 (wd (fe Mp (Wd ^ 6) X1) 2)) ∧ W.cell? ⟨gy, 3, none⟩ = some (.int .u64 (wd (fe Mp (Wd ^ 6) X1) 3)) ∧ W.cell? ⟨gy, 4, none⟩ = some (.int .u64 (wd (fe Mp (Wd ^ 6) X1) 4)) ∧ W.cell? ⟨gy, 5, none⟩ = some (.int .u64 (wd (fe Mp (Wd ^ 6) X1) 5)) ∧ W.cell? ⟨gz, 0, none⟩ = some (.int .u64 (wd (fe Mp (Wd ^ 6) X2) 0)) ∧ W.cell? ⟨gz, 1, none⟩ = some (.int .u64 (wd (fe Mp (Wd ^ 6) X2) 1)) ∧ W.cell? ⟨gz, 2, none⟩ = some (.int .u64 (wd (fe Mp (Wd ^ 6) X2) 2)) ∧ W.cell? ⟨gz, 3, none⟩ = some (.int .u64 (wd (fe Mp (Wd ^ 6) X2) 3)) ∧ W.cell? ⟨gz, 4, none⟩ = some (.int .u64 (wd (fe Mp (Wd ^ 6) X2) 4)) ∧ W.cell? ⟨gz, 5, none⟩ = some (.int .u64 (wd (fe Mp (Wd ^ 6) X2) 5)) ∧ Hid (Below w11.heap.size w11 W)) := Lib.hid (fun W hW => by
    obtain ⟨qx0, qx1, qx2, qx3, qx4, qx5⟩ := cells6 (Kx_11.out.keep hW.out)
    obtain ⟨qy0, qy1, qy2, qy3, qy4, qy5⟩ := cells6 (Ky_11.out.keep hW.out)
    obtain ⟨qz0, qz1, qz2, qz3, qz4, qz5⟩ := cells6 (Kz_11.out.keep hW.out)
    exact ⟨qx0, qx1, qx2, qx3, qx4, qx5, qy0, qy1, qy2, qy3, qy4, qy5, qz0, qz1, qz2, qz3, qz4, qz5, hW⟩)
  go_region_held3 (fun W => W.cell? ⟨gx, 0, none⟩ = some (.int .u64 (wd (fe Mp (Wd ^ 6) X0) 0)) ∧ W.cell? ⟨gx, 1, none⟩ = some (.int .u64 (wd (fe Mp (Wd ^ 6) X0) 1)) ∧ W.cell? ⟨gx, 2, none⟩ = some (.int .u64 (wd (fe Mp (Wd ^ 6) X0) 2)) ∧ W.cell? ⟨gx, 3, none⟩ = some (.int .u64 (wd (fe Mp (Wd ^ 6) X0) 3)) ∧ W.cell? ⟨gx, 4, none⟩ = some (.int .u64 (wd (fe Mp (Wd ^ 6) X0) 4)) ∧ W.cell? ⟨gx, 5, none⟩ = some (.int .u64 (wd (fe Mp (Wd ^ 6) X0) 5)) ∧ W.cell? ⟨gy, 0, none⟩ = some (.int .u64 (wd (fe Mp (Wd ^ 6) X1) 0)) ∧ W.cell? ⟨gy, 1, none⟩ = some (.int .u64 (wd (fe Mp (Wd ^ 6) X1) 1)) ∧ W.cell? ⟨gy, 2, none⟩ = some (.int .u64 (wd (fe Mp (Wd ^ 6) X1) 2)) ∧ W.cell? ⟨gy, 3, none⟩ = some (.int .u64 (wd (fe Mp (Wd ^ 6) X1) 3)) ∧ W.cell? ⟨gy, 4, none⟩ = some (.int .u64 (wd (fe Mp (Wd ^ 6) X1) 4)) ∧ W.cell? ⟨gy, 5, none⟩ = some (.int .u64 (wd (fe Mp (Wd ^ 6) X1) 5)) ∧ W.cell? ⟨gz, 0, none⟩ = some (.int .u64 (wd (fe Mp (Wd ^ 6) X2) 0)) ∧ W.cell? ⟨gz, 1, none⟩ = some (.int .u64 (wd (fe Mp (Wd ^ 6) X2) 1)) ∧ W.cell? ⟨gz, 2, none⟩ = some (.int .u64 (wd (fe Mp (Wd ^ 6) X2) 2)) ∧ W.cell? ⟨gz, 3, none⟩ = some (.int .u64 (wd (fe Mp (Wd ^ 6) X2) 3)) ∧ W.cell? ⟨gz, 4, none⟩ = some (.int .u64 (wd (fe Mp (Wd ^ 6) X2) 4)) ∧ W.cell? ⟨gz, 5, none⟩ = some (.int .u64 (wd (fe Mp (Wd ^ 6) X2) 5)) ∧ Hid (Below w11.heap.size w11 W)) (first | exact SS11.out _ D11 | exact SS11.out _ (by with_reducible assumption)) (first
    | (go_at_call 25; (with_reducible refine (A2_0.out _ (by first | exact D11 | with_reducible assumption)).mono ?_); rintro e w12 ⟨rfl, HB12⟩)
    | (go_at_call 29; (with_reducible refine (A2_1.out _ (by first | exact D11 | with_reducible assumption)).mono ?_); rintro e w12 ⟨rfl, HB12⟩)
    | (go_at_call 29; (with_reducible refine (A2_2.out _ (by first | exact D11 | with_reducible assumption)).mono ?_); rintro e w12 ⟨rfl, HB12⟩)
    | (go_at_call 29; (with_reducible refine (A2_3.out _ (by first | exact D11 | with_reducible assumption)).mono ?_); rintro e w12 ⟨rfl, HB12⟩)
    | (go_at_call 25; (with_reducible refine (A2_4.out _ (by first | exact D11 | with_reducible assumption)).mono ?_); rintro e w12 ⟨rfl, HB12⟩)
    | (go_at_call 27; (with_reducible refine (A2_5.out _ (by first | exact D11 | with_reducible assumption)).mono ?_); rintro e w12 ⟨rfl, HB12⟩)
    | (go_at_call 25; (with_reducible refine (A2_6.out _ (by first | exact D11 | with_reducible assumption)).mono ?_); rintro e w12 ⟨rfl, HB12⟩)
    | (go_at_call 32; (with_reducible refine (A2_7.out _ (by first | exact D11 | with_reducible assumption)).mono ?_); rintro e w12 ⟨rfl, HB12⟩)
    | (go_at_call 25; (with_reducible refine (A2_8.out _ (by first | exact D11 | with_reducible assumption)).mono ?_); rintro e w12 ⟨rfl, HB12⟩)
    | (go_at_call 18; (with_reducible refine (A2_9.out _ (by first | exact D11 | with_reducible assumption)).mono ?_); rintro e w12 ⟨rfl, HB12⟩)
    | (go_at_call 31; (with_reducible refine (A2_10.out _ (by first | exact D11 | with_reducible assumption)).mono ?_); rintro e w12 ⟨rfl, HB12⟩)
    | (go_at_call 29; (with_reducible refine (A2_11.out _ (by first | exact D11 | with_reducible assumption)).mono ?_); rintro e w12 ⟨rfl, HB12⟩))
  have B12 := Lib.hid (B11.out.trans (HB12.out.mono B11.out.size))
  have Kx_12 := Lib.hid (Kx_11.out.keep HB12.out)
  have Ky_12 := Lib.hid (Ky_11.out.keep HB12.out)
  have Kz_12 := Lib.hid (Kz_11.out.keep HB12.out)
  clear B11 SS11 D11 HB12 Kx_11 Ky_11 Kz_11 A2_0 A2_1 A2_2 A2_3 A2_4 A2_5 A2_6 A2_7 A2_8 A2_9 A2_10 A2_11
  obtain ⟨cx0, cx1, cx2, cx3, cx4, cx5⟩ := cells6 Kx_12.out
  have zx := Kx_12.out.lt
  obtain ⟨cy0, cy1, cy2, cy3, cy4, cy5⟩ := cells6 Ky_12.out
  have zy := Ky_12.out.lt
  obtain ⟨cz0, cz1, cz2, cz3, cz4, cz5⟩ := cells6 Kz_12.out
  have zz := Kz_12.out.lt
  go_wp2_with fail
  go_ret
  exact ⟨rfl, B12.out⟩
set_option maxRecDepth 100000 in
set_option maxHeartbeats 8000000 in
theorem rulesp_big0 (w : World) (hG : GM0 w) (hS : GSqp w) (hH : GShp w) (hQ : GQp w) (hU : GUp w) (A0 : Option Addr) (L0 c0 : Nat) (bs0 : List Int) (A1 : Option Addr) (L1 c1 : Nat) (bs1 : List Int) (A2 : Option Addr) (L2 c2 : Nat) (bs2 : List Int) (hr0 : Reads w w.heap.size A0 L0 (bs0.map (Value.int .u8))) (ho0 : Oct bs0) (hr1 : Reads w w.heap.size A1 L1 (bs1.map (Value.int .u8))) (ho1 : Oct bs1) (hr2 : Reads w w.heap.size A2 L2 (bs2.map (Value.int .u8))) (ho2 : Oct bs2) (h0 : 400 < L0) :
    Calls Tryd.prog 7 #[.slice A0 L0 c0, .slice A1 L1 c1, .slice A2 L2 c2] w fun e w' => e = .returned (.bool true) ∧ Below w.heap.size w w' := by
  have HG := Lib.hid hG
  have HS := Lib.hid hS
  have HH := Lib.hid hH
  have HQ := Lib.hid hQ
  have HU := Lib.hid hU
  have HR0 := Lib.hid hr0
  have HO0 := Lib.hid ho0
  have HL0 := Lib.hid (show bs0.length = L0 by simpa using hr0.1)
  obtain ⟨X0, hX0⟩ : ∃ X, X = num bs0 := ⟨_, rfl⟩
  have HR1 := Lib.hid hr1
  have HO1 := Lib.hid ho1
  have HL1 := Lib.hid (show bs1.length = L1 by simpa using hr1.1)
  obtain ⟨X1, hX1⟩ : ∃ X, X = num bs1 := ⟨_, rfl⟩
  have HR2 := Lib.hid hr2
  have HO2 := Lib.hid ho2
  have HL2 := Lib.hid (show bs2.length = L2 by simpa using hr2.1)
  obtain ⟨X2, hX2⟩ : ∃ X, X = num bs2 := ⟨_, rfl⟩
  clear HR0 HR1 HR2 HO0 HO1 HO2 HL0 HL1 HL2 hX0 hX1 hX2 hr0 hr1 hr2 ho0 ho1 ho2 HH hH hQ hU
  clear hG hS
  have B0 : Hid (Below w.heap.size w w) := Lib.hid (Below.refl _ _)
  go_enter Tryd.func7, Tryd.ntmps7
  go_wp2_with fail
  refine (fp_head _ (HG.out.keep B0.out) (HS.out.keep B0.out) (HQ.out.keep B0.out) (HU.out.keep B0.out)).mono ?_
  rintro e w1 ⟨rfl, hb⟩
  have B1 := Lib.hid (B0.out.trans (hb.mono B0.out.size))
  clear hb B0 
  go_wp2_with fail
  go_ret
  exact ⟨rfl, B1.out⟩
set_option maxRecDepth 100000 in
set_option maxHeartbeats 8000000 in
theorem rulesp_big1 (w : World) (hG : GM0 w) (hS : GSqp w) (hH : GShp w) (hQ : GQp w) (hU : GUp w) (A0 : Option Addr) (L0 c0 : Nat) (bs0 : List Int) (A1 : Option Addr) (L1 c1 : Nat) (bs1 : List Int) (A2 : Option Addr) (L2 c2 : Nat) (bs2 : List Int) (hr0 : Reads w w.heap.size A0 L0 (bs0.map (Value.int .u8))) (ho0 : Oct bs0) (hr1 : Reads w w.heap.size A1 L1 (bs1.map (Value.int .u8))) (ho1 : Oct bs1) (hr2 : Reads w w.heap.size A2 L2 (bs2.map (Value.int .u8))) (ho2 : Oct bs2) (h0 : L0 ≤ 400) (h1 : 400 < L1) :
    Calls Tryd.prog 7 #[.slice A0 L0 c0, .slice A1 L1 c1, .slice A2 L2 c2] w fun e w' => e = .returned (.bool true) ∧ Below w.heap.size w w' := by
  have HG := Lib.hid hG
  have HS := Lib.hid hS
  have HH := Lib.hid hH
  have HQ := Lib.hid hQ
  have HU := Lib.hid hU
  have HR0 := Lib.hid hr0
  have HO0 := Lib.hid ho0
  have HL0 := Lib.hid (show bs0.length = L0 by simpa using hr0.1)
  obtain ⟨X0, hX0⟩ : ∃ X, X = num bs0 := ⟨_, rfl⟩
  have HR1 := Lib.hid hr1
  have HO1 := Lib.hid ho1
  have HL1 := Lib.hid (show bs1.length = L1 by simpa using hr1.1)
  obtain ⟨X1, hX1⟩ : ∃ X, X = num bs1 := ⟨_, rfl⟩
  have HR2 := Lib.hid hr2
  have HO2 := Lib.hid ho2
  have HL2 := Lib.hid (show bs2.length = L2 by simpa using hr2.1)
  obtain ⟨X2, hX2⟩ : ∃ X, X = num bs2 := ⟨_, rfl⟩
  clear HR0 HR1 HR2 HO0 HO1 HO2 HL0 HL1 HL2 hX0 hX1 hX2 hr0 hr1 hr2 ho0 ho1 ho2 HH hH hQ hU
  clear hG hS
  have B0 : Hid (Below w.heap.size w w) := Lib.hid (Below.refl _ _)
  go_enter Tryd.func7, Tryd.ntmps7
  go_wp2_with fail
  refine (fp_head _ (HG.out.keep B0.out) (HS.out.keep B0.out) (HQ.out.keep B0.out) (HU.out.keep B0.out)).mono ?_
  rintro e w1 ⟨rfl, hb⟩
  have B1 := Lib.hid (B0.out.trans (hb.mono B0.out.size))
  clear hb B0 
  go_wp2_with fail
  go_ret
  exact ⟨rfl, B1.out⟩
set_option maxRecDepth 100000 in
set_option maxHeartbeats 8000000 in
theorem rulesp_big2 (w : World) (hG : GM0 w) (hS : GSqp w) (hH : GShp w) (hQ : GQp w) (hU : GUp w) (A0 : Option Addr) (L0 c0 : Nat) (bs0 : List Int) (A1 : Option Addr) (L1 c1 : Nat) (bs1 : List Int) (A2 : Option Addr) (L2 c2 : Nat) (bs2 : List Int) (hr0 : Reads w w.heap.size A0 L0 (bs0.map (Value.int .u8))) (ho0 : Oct bs0) (hr1 : Reads w w.heap.size A1 L1 (bs1.map (Value.int .u8))) (ho1 : Oct bs1) (hr2 : Reads w w.heap.size A2 L2 (bs2.map (Value.int .u8))) (ho2 : Oct bs2) (h0 : L0 ≤ 400) (h1 : L1 ≤ 400) (h2 : 400 < L2) :
    Calls Tryd.prog 7 #[.slice A0 L0 c0, .slice A1 L1 c1, .slice A2 L2 c2] w fun e w' => e = .returned (.bool true) ∧ Below w.heap.size w w' := by
  have HG := Lib.hid hG
  have HS := Lib.hid hS
  have HH := Lib.hid hH
  have HQ := Lib.hid hQ
  have HU := Lib.hid hU
  have HR0 := Lib.hid hr0
  have HO0 := Lib.hid ho0
  have HL0 := Lib.hid (show bs0.length = L0 by simpa using hr0.1)
  obtain ⟨X0, hX0⟩ : ∃ X, X = num bs0 := ⟨_, rfl⟩
  have HR1 := Lib.hid hr1
  have HO1 := Lib.hid ho1
  have HL1 := Lib.hid (show bs1.length = L1 by simpa using hr1.1)
  obtain ⟨X1, hX1⟩ : ∃ X, X = num bs1 := ⟨_, rfl⟩
  have HR2 := Lib.hid hr2
  have HO2 := Lib.hid ho2
  have HL2 := Lib.hid (show bs2.length = L2 by simpa using hr2.1)
  obtain ⟨X2, hX2⟩ : ∃ X, X = num bs2 := ⟨_, rfl⟩
  clear HR0 HR1 HR2 HO0 HO1 HO2 HL0 HL1 HL2 hX0 hX1 hX2 hr0 hr1 hr2 ho0 ho1 ho2 HH hH hQ hU
  clear hG hS
  have B0 : Hid (Below w.heap.size w w) := Lib.hid (Below.refl _ _)
  go_enter Tryd.func7, Tryd.ntmps7
  go_wp2_with fail
  refine (fp_head _ (HG.out.keep B0.out) (HS.out.keep B0.out) (HQ.out.keep B0.out) (HU.out.keep B0.out)).mono ?_
  rintro e w1 ⟨rfl, hb⟩
  have B1 := Lib.hid (B0.out.trans (hb.mono B0.out.size))
  clear hb B0 
  go_wp2_with fail
  go_ret
  exact ⟨rfl, B1.out⟩
theorem rulesp_any (w : World) (hG : GM0 w) (hS : GSqp w) (hH : GShp w) (hQ : GQp w) (hU : GUp w) (A0 : Option Addr) (L0 c0 : Nat) (bs0 : List Int) (A1 : Option Addr) (L1 c1 : Nat) (bs1 : List Int) (A2 : Option Addr) (L2 c2 : Nat) (bs2 : List Int) (hr0 : Reads w w.heap.size A0 L0 (bs0.map (Value.int .u8))) (ho0 : Oct bs0) (hr1 : Reads w w.heap.size A1 L1 (bs1.map (Value.int .u8))) (ho1 : Oct bs1) (hr2 : Reads w w.heap.size A2 L2 (bs2.map (Value.int .u8))) (ho2 : Oct bs2) :
    Calls Tryd.prog 7 #[.slice A0 L0 c0, .slice A1 L1 c1, .slice A2 L2 c2] w fun e w' => e = .returned (.bool true) ∧ Below w.heap.size w w' := by
  rcases Nat.lt_or_ge 400 L0 with h0 | h0
  · exact rulesp_big0 w hG hS hH hQ hU A0 L0 c0 bs0 A1 L1 c1 bs1 A2 L2 c2 bs2 hr0 ho0 hr1 ho1 hr2 ho2 h0
  rcases Nat.lt_or_ge 400 L1 with h1 | h1
  · exact rulesp_big1 w hG hS hH hQ hU A0 L0 c0 bs0 A1 L1 c1 bs1 A2 L2 c2 bs2 hr0 ho0 hr1 ho1 hr2 ho2 h0 h1
  rcases Nat.lt_or_ge 400 L2 with h2 | h2
  · exact rulesp_big2 w hG hS hH hQ hU A0 L0 c0 bs0 A1 L1 c1 bs1 A2 L2 c2 bs2 hr0 ho0 hr1 ho1 hr2 ho2 h0 h1 h2
  · exact rulesp_all w hG hS hH hQ hU A0 L0 c0 bs0 A1 L1 c1 bs1 A2 L2 c2 bs2 hr0 ho0 hr1 ho1 hr2 ho2 h0 h1 h2
end Go.Proofs.YtlbmohofdgooaaaDoor
