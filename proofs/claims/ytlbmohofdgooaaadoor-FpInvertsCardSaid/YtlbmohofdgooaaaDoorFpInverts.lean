/-
  FpInverts: the walk.
-/
import Derived.Test.YtlbmohofdgooaaaDoorA1b
namespace Go.Proofs.YtlbmohofdgooaaaDoor
open Go.RowKit
set_option maxRecDepth 100000 in
set_option maxHeartbeats 8000000 in
theorem invertsp_yy (w : World) (hG : GMp w) (hS : GSqp w) (hH : GShp w) (hQ : GQp w) (hU : GUp w) (A0 : Option Addr) (L0 c0 : Nat) (bs0 : List Int) (A1 : Option Addr) (L1 c1 : Nat) (bs1 : List Int) (hr0 : Reads w w.heap.size A0 L0 (bs0.map (Value.int .u8))) (ho0 : Oct bs0) (hr1 : Reads w w.heap.size A1 L1 (bs1.map (Value.int .u8))) (ho1 : Oct bs1) (h0 : L0 ≤ 400) (h1 : L1 ≤ 400) (hx : ¬ num bs0 % Mp = 0) (hy : ¬ num bs1 % Mp = 0) :
    Calls Tryd.prog 6 #[.slice A0 L0 c0, .slice A1 L1 c1] w fun e w' => e = .returned (.bool true) ∧ Below w.heap.size w w' := by
  have HG := Lib.hid hG
  have HS := Lib.hid hS
  have HH := Lib.hid hH
  have HQ := Lib.hid hQ
  have HU := Lib.hid hU
  have HR0 := Lib.hid hr0
  have HO0 := Lib.hid ho0
  have HL0 := Lib.hid (show bs0.length = L0 by simpa using hr0.1)
  obtain ⟨X0, hX0⟩ : ∃ X, X = num bs0 := ⟨_, rfl⟩
  have HR1 := Lib.hid hr1
  have HO1 := Lib.hid ho1
  have HL1 := Lib.hid (show bs1.length = L1 by simpa using hr1.1)
  obtain ⟨X1, hX1⟩ : ∃ X, X = num bs1 := ⟨_, rfl⟩
  rw [← hX0] at hx
  rw [← hX1] at hy
  obtain ⟨Ix, hIx⟩ : ∃ i, i = X0 ^ Ep := ⟨_, rfl⟩
  obtain ⟨Ixx, hIxx⟩ : ∃ i, i = Ix ^ Ep := ⟨_, rfl⟩
  obtain ⟨Iy, hIy⟩ : ∃ i, i = X1 ^ Ep := ⟨_, rfl⟩
  obtain ⟨Ip, hIp⟩ : ∃ i, i = (X0 * X1) ^ Ep := ⟨_, rfl⟩
  have q1 := pv_same (X0 * Ix) 1 (by rw [hIx]; exact invp_ok X0 hx)
  have q2 := pv_same Ixx X0 (by rw [hIxx, hIx]; exact invp_inv X0 hx)
  have q3 := pv_same Ip (Ix * Iy) (by rw [hIp, hIx, hIy, Int.mul_pow])
  have hzx : decide (X0 % Mp = 0) = false := by simpa using hx
  have hzy : decide (X1 % Mp = 0) = false := by simpa using hy
  have HI_Ix := Lib.hid hIx
  have HI_Ixx := Lib.hid hIxx
  have HI_Iy := Lib.hid hIy
  have HI_Ip := Lib.hid hIp
  have HZX := Lib.hid hzx
  have HZY := Lib.hid hzy
  clear hIx hIxx hIy hIp hzx hzy hx hy
  have HX0 := Lib.hid hX0
  clear hX0 hr0 ho0
  have HX1 := Lib.hid hX1
  clear hX1 hr1 ho1
  clear hG hS hH hQ hU
  have B0 : Hid (Below w.heap.size w w) := Lib.hid (Below.refl _ _)
  go_enter Tryd.func6, Tryd.ntmps6
  go_wp2_with fail
  refine (fp_head _ (HG.out.keep B0.out) (HS.out.keep B0.out) (HQ.out.keep B0.out) (HU.out.keep B0.out)).mono ?_
  rintro e w1 ⟨rfl, hb⟩
  have B1 := Lib.hid (B0.out.trans (hb.mono B0.out.size))
  clear hb B0 
  go_wp2_with fail
  refine (copy_any w1 A0 L0 c0 bs0 ((HR0.out.below B1.out).more B1.out.size) (by omega)).mono ?_
  rintro e w2 ⟨gc0, rfl, -, hBc, hb⟩
  have RC0 := Lib.hid (copy_reads hBc HL0.out)
  have B2 := Lib.hid (B1.out.trans (hb.mono B1.out.size))
  clear hb hBc B1 
  go_wp2_with fail
  refine (fp_wide _ (HG.out.keep B2.out) (HS.out.keep B2.out) (HH.out.keep B2.out) (some ⟨gc0, 0, none⟩) L0 L0 bs0 RC0.out HO0.out (Nat.le_refl _) (by omega)).mono ?_
  rintro e w3 ⟨rfl, hb⟩
  have B3 := Lib.hid (B2.out.trans (hb.mono B2.out.size))
  clear hb B2 
  rw [← HX0.out]
  unfold pv arr6
  go_wp2_with fail
  have B4 := Lib.hid (B3.out.alloc B3.out.size (Obj.cells #[.int .u64 (wd (fe Mp (Wd ^ 6) X0) 0), .int .u64 (wd (fe Mp (Wd ^ 6) X0) 1), .int .u64 (wd (fe Mp (Wd ^ 6) X0) 2), .int .u64 (wd (fe Mp (Wd ^ 6) X0) 3), .int .u64 (wd (fe Mp (Wd ^ 6) X0) 4), .int .u64 (wd (fe Mp (Wd ^ 6) X0) 5)] 28))
  have Kx_4 := Lib.hid (Blk.new w3 28 #[.int .u64 (wd (fe Mp (Wd ^ 6) X0) 0), .int .u64 (wd (fe Mp (Wd ^ 6) X0) 1), .int .u64 (wd (fe Mp (Wd ^ 6) X0) 2), .int .u64 (wd (fe Mp (Wd ^ 6) X0) 3), .int .u64 (wd (fe Mp (Wd ^ 6) X0) 4), .int .u64 (wd (fe Mp (Wd ^ 6) X0) 5)])
  obtain ⟨gx, hgx⟩ : ∃ g, g = w3.heap.size := ⟨_, rfl⟩
  obtain ⟨w4, hw4⟩ : ∃ W, W = w3.alloc (Obj.cells #[.int .u64 (wd (fe Mp (Wd ^ 6) X0) 0), .int .u64 (wd (fe Mp (Wd ^ 6) X0) 1), .int .u64 (wd (fe Mp (Wd ^ 6) X0) 2), .int .u64 (wd (fe Mp (Wd ^ 6) X0) 3), .int .u64 (wd (fe Mp (Wd ^ 6) X0) 4), .int .u64 (wd (fe Mp (Wd ^ 6) X0) 5)] 28) := ⟨_, rfl⟩
  rw [← hgx] at Kx_4
  simp only [← hw4] at B4 Kx_4
  rw [← hw4, ← hgx]
  clear hw4 hgx B3 
  obtain ⟨cx0, cx1, cx2, cx3, cx4, cx5⟩ := cells6 Kx_4.out
  have zx := Kx_4.out.lt
  refine (copy_any w4 A1 L1 c1 bs1 ((HR1.out.below B4.out).more B4.out.size) (by omega)).mono ?_
  rintro e w5 ⟨gc1, rfl, -, hBc, hb⟩
  clear cx0 cx1 cx2 cx3 cx4 cx5 zx
  have RC1 := Lib.hid (copy_reads hBc HL1.out)
  have B5 := Lib.hid (B4.out.trans (hb.mono B4.out.size))
  have Kx_5 := Lib.hid (Kx_4.out.keep hb)
  clear hb hBc B4 Kx_4
  go_wp2_with fail
  refine (fp_wide _ (HG.out.keep B5.out) (HS.out.keep B5.out) (HH.out.keep B5.out) (some ⟨gc1, 0, none⟩) L1 L1 bs1 RC1.out HO1.out (Nat.le_refl _) (by omega)).mono ?_
  rintro e w6 ⟨rfl, hb⟩
  have B6 := Lib.hid (B5.out.trans (hb.mono B5.out.size))
  have Kx_6 := Lib.hid (Kx_5.out.keep hb)
  clear hb B5 Kx_5
  obtain ⟨cx0, cx1, cx2, cx3, cx4, cx5⟩ := cells6 Kx_6.out
  have zx := Kx_6.out.lt
  rw [← HX1.out]
  unfold pv arr6
  go_wp2_with fail
  clear cx0 cx1 cx2 cx3 cx4 cx5 zx
  have B7 := Lib.hid (B6.out.alloc B6.out.size (Obj.cells #[.int .u64 (wd (fe Mp (Wd ^ 6) X1) 0), .int .u64 (wd (fe Mp (Wd ^ 6) X1) 1), .int .u64 (wd (fe Mp (Wd ^ 6) X1) 2), .int .u64 (wd (fe Mp (Wd ^ 6) X1) 3), .int .u64 (wd (fe Mp (Wd ^ 6) X1) 4), .int .u64 (wd (fe Mp (Wd ^ 6) X1) 5)] 28))
  have Kx_7 := Lib.hid (Kx_6.out.alloc (Obj.cells #[.int .u64 (wd (fe Mp (Wd ^ 6) X1) 0), .int .u64 (wd (fe Mp (Wd ^ 6) X1) 1), .int .u64 (wd (fe Mp (Wd ^ 6) X1) 2), .int .u64 (wd (fe Mp (Wd ^ 6) X1) 3), .int .u64 (wd (fe Mp (Wd ^ 6) X1) 4), .int .u64 (wd (fe Mp (Wd ^ 6) X1) 5)] 28))
  have Ky_7 := Lib.hid (Blk.new w6 28 #[.int .u64 (wd (fe Mp (Wd ^ 6) X1) 0), .int .u64 (wd (fe Mp (Wd ^ 6) X1) 1), .int .u64 (wd (fe Mp (Wd ^ 6) X1) 2), .int .u64 (wd (fe Mp (Wd ^ 6) X1) 3), .int .u64 (wd (fe Mp (Wd ^ 6) X1) 4), .int .u64 (wd (fe Mp (Wd ^ 6) X1) 5)])
  obtain ⟨gy, hgy⟩ : ∃ g, g = w6.heap.size := ⟨_, rfl⟩
  obtain ⟨w7, hw7⟩ : ∃ W, W = w6.alloc (Obj.cells #[.int .u64 (wd (fe Mp (Wd ^ 6) X1) 0), .int .u64 (wd (fe Mp (Wd ^ 6) X1) 1), .int .u64 (wd (fe Mp (Wd ^ 6) X1) 2), .int .u64 (wd (fe Mp (Wd ^ 6) X1) 3), .int .u64 (wd (fe Mp (Wd ^ 6) X1) 4), .int .u64 (wd (fe Mp (Wd ^ 6) X1) 5)] 28) := ⟨_, rfl⟩
  rw [← hgy] at Ky_7
  simp only [← hw7] at B7 Kx_7 Ky_7
  rw [← hw7, ← hgy]
  clear hw7 hgy B6 Kx_6
  obtain ⟨cx0, cx1, cx2, cx3, cx4, cx5⟩ := cells6 Kx_7.out
  have zx := Kx_7.out.lt
  obtain ⟨cy0, cy1, cy2, cy3, cy4, cy5⟩ := cells6 Ky_7.out
  have zy := Ky_7.out.lt
  refine (fp_zero X0 _).mono ?_
  rintro e w8 ⟨rfl, hb⟩
  clear cx0 cx1 cx2 cx3 cx4 cx5 zx cy0 cy1 cy2 cy3 cy4 cy5 zy
  have B8 := Lib.hid (B7.out.trans (hb.mono B7.out.size))
  have Kx_8 := Lib.hid (Kx_7.out.keep hb)
  have Ky_8 := Lib.hid (Ky_7.out.keep hb)
  clear hb B7 Kx_7 Ky_7
  obtain ⟨cx0, cx1, cx2, cx3, cx4, cx5⟩ := cells6 Kx_8.out
  have zx := Kx_8.out.lt
  obtain ⟨cy0, cy1, cy2, cy3, cy4, cy5⟩ := cells6 Ky_8.out
  have zy := Ky_8.out.lt
  rw [HZX.out]
  go_wp2_with fail
  have GV1 := Lib.hid (HG.out.keep B8.out)
  have SV1 := Lib.hid (HS.out.keep B8.out)
  have h1_0 := based_invp w8 GV1.out SV1.out (X0)
  rw [← HI_Ix.out] at h1_0
  unfold pv arr6 at h1_0
  have A1_0 := Lib.hid h1_0
  clear h1_0
  have h1_1 := based_mulp w8 GV1.out (X0) (Ix)
  unfold pv arr6 at h1_1
  have A1_1 := Lib.hid h1_1
  clear h1_1
  have h1_2 := based_ofp w8 GV1.out SV1.out (1) (by omega) (by simp [Wd])
  unfold pv arr6 at h1_2
  have A1_2 := Lib.hid h1_2
  clear h1_2
  have h1_3 := based_invp w8 GV1.out SV1.out (Ix)
  rw [← HI_Ixx.out] at h1_3
  unfold pv arr6 at h1_3
  have A1_3 := Lib.hid h1_3
  clear h1_3
  clear cx0 cx1 cx2 cx3 cx4 cx5 zx cy0 cy1 cy2 cy3 cy4 cy5 zy
  have D8 := hid_drew w8
  have SS8 : Hid (∀ W, Hid (Below w8.heap.size w8 W) → W.cell? ⟨gx, 0, none⟩ = some (.int .u64 (wd (fe Mp (Wd ^ 6) X0) 0)) ∧ W.cell? ⟨gx, 1, none⟩ = some (.int .u64 (wd (fe Mp (Wd ^ 6) X0) 1)) ∧ W.cell? ⟨gx, 2, none⟩ = some (.int .u64 (wd (fe Mp (Wd ^ 6) X0) 2)) ∧ W.cell? ⟨gx, 3, none⟩ = some (.int .u64 (wd (fe Mp (Wd ^ 6) X0) 3)) ∧ W.cell? ⟨gx, 4, none⟩ = some (.int .u64 (wd (fe Mp (Wd ^ 6) X0) 4)) ∧ W.cell? ⟨gx, 5, none⟩ = some (.int .u64 (wd (fe Mp (Wd ^ 6) X0) 5)) ∧ W.cell? ⟨gy, 0, none⟩ = some (.int .u64 (wd (fe Mp (Wd ^ 6) X1) 0)) ∧ W.cell? ⟨gy, 1, none⟩ = some (.int .u64 (wd (fe Mp (Wd ^ 6) X1) 1)) ∧ W.cell? ⟨gy, 2, none⟩ = some (.int .u64 (wd (fe Mp (Wd ^ 6) X1) 2)) ∧ W.cell? ⟨gy, 3, none⟩ = some (.int .u64 (wd (fe Mp (Wd ^ 6) X1) 3)) ∧ W.cell? ⟨gy, 4, none⟩ = some (.int .u64 (wd (fe Mp (Wd ^ 6) X1) 4)) ∧ W.cell? ⟨gy, 5, none⟩ = some (.int .u64 (wd (fe Mp (Wd ^ 6) X1) 5)) ∧ Hid (Below w8.heap.size w8 W)) := Lib.hid (fun W hW => by
    obtain ⟨qx0, qx1, qx2, qx3, qx4, qx5⟩ := cells6 (Kx_8.out.keep hW.out)
    obtain ⟨qy0, qy1, qy2, qy3, qy4, qy5⟩ := cells6 (Ky_8.out.keep hW.out)
    exact ⟨qx0, qx1, qx2, qx3, qx4, qx5, qy0, qy1, qy2, qy3, qy4, qy5, hW⟩)
  go_region_held3 (fun W => W.cell? ⟨gx, 0, none⟩ = some (.int .u64 (wd (fe Mp (Wd ^ 6) X0) 0)) ∧ W.cell? ⟨gx, 1, none⟩ = some (.int .u64 (wd (fe Mp (Wd ^ 6) X0) 1)) ∧ W.cell? ⟨gx, 2, none⟩ = some (.int .u64 (wd (fe Mp (Wd ^ 6) X0) 2)) ∧ W.cell? ⟨gx, 3, none⟩ = some (.int .u64 (wd (fe Mp (Wd ^ 6) X0) 3)) ∧ W.cell? ⟨gx, 4, none⟩ = some (.int .u64 (wd (fe Mp (Wd ^ 6) X0) 4)) ∧ W.cell? ⟨gx, 5, none⟩ = some (.int .u64 (wd (fe Mp (Wd ^ 6) X0) 5)) ∧ W.cell? ⟨gy, 0, none⟩ = some (.int .u64 (wd (fe Mp (Wd ^ 6) X1) 0)) ∧ W.cell? ⟨gy, 1, none⟩ = some (.int .u64 (wd (fe Mp (Wd ^ 6) X1) 1)) ∧ W.cell? ⟨gy, 2, none⟩ = some (.int .u64 (wd (fe Mp (Wd ^ 6) X1) 2)) ∧ W.cell? ⟨gy, 3, none⟩ = some (.int .u64 (wd (fe Mp (Wd ^ 6) X1) 3)) ∧ W.cell? ⟨gy, 4, none⟩ = some (.int .u64 (wd (fe Mp (Wd ^ 6) X1) 4)) ∧ W.cell? ⟨gy, 5, none⟩ = some (.int .u64 (wd (fe Mp (Wd ^ 6) X1) 5)) ∧ Hid (Below w8.heap.size w8 W)) (first | exact SS8.out _ D8 | exact SS8.out _ (by with_reducible assumption)) (first
    | (go_at_call 33; (with_reducible refine (A1_0.out _ (by first | exact D8 | with_reducible assumption)).mono ?_); rintro e w9 ⟨rfl, HB9⟩)
    | (go_at_call 29; (with_reducible refine (A1_1.out _ (by first | exact D8 | with_reducible assumption)).mono ?_); rintro e w9 ⟨rfl, HB9⟩)
    | (go_at_call 13; (with_reducible refine (A1_2.out _ (by first | exact D8 | with_reducible assumption)).mono ?_); rintro e w9 ⟨rfl, HB9⟩)
    | (go_at_call 33; (with_reducible refine (A1_3.out _ (by first | exact D8 | with_reducible assumption)).mono ?_); rintro e w9 ⟨rfl, HB9⟩))
  have B9 := Lib.hid (B8.out.trans (HB9.out.mono B8.out.size))
  have Kx_9 := Lib.hid (Kx_8.out.keep HB9.out)
  have Ky_9 := Lib.hid (Ky_8.out.keep HB9.out)
  clear B8 SS8 D8 HB9 Kx_8 Ky_8 A1_0 A1_1 A1_2 A1_3
  obtain ⟨cx0, cx1, cx2, cx3, cx4, cx5⟩ := cells6 Kx_9.out
  have zx := Kx_9.out.lt
  obtain ⟨cy0, cy1, cy2, cy3, cy4, cy5⟩ := cells6 Ky_9.out
  have zy := Ky_9.out.lt
  go_wp2_with fail
  have GV2 := Lib.hid (HG.out.keep B9.out)
  have SV2 := Lib.hid (HS.out.keep B9.out)
  have h2_0 := based_zerop w9  (X1)
  rw [HZY.out] at h2_0
  unfold pv arr6 at h2_0
  have A2_0 := Lib.hid h2_0
  clear h2_0
  have h2_1 := based_mulp w9 GV2.out (X0) (X1)
  unfold pv arr6 at h2_1
  have A2_1 := Lib.hid h2_1
  clear h2_1
  have h2_2 := based_invp w9 GV2.out SV2.out (X0 * X1)
  rw [← HI_Ip.out] at h2_2
  unfold pv arr6 at h2_2
  have A2_2 := Lib.hid h2_2
  clear h2_2
  have h2_3 := based_invp w9 GV2.out SV2.out (X0)
  rw [← HI_Ix.out] at h2_3
  unfold pv arr6 at h2_3
  have A2_3 := Lib.hid h2_3
  clear h2_3
  have h2_4 := based_invp w9 GV2.out SV2.out (X1)
  rw [← HI_Iy.out] at h2_4
  unfold pv arr6 at h2_4
  have A2_4 := Lib.hid h2_4
  clear h2_4
  have h2_5 := based_mulp w9 GV2.out (Ix) (Iy)
  unfold pv arr6 at h2_5
  have A2_5 := Lib.hid h2_5
  clear h2_5
  clear cx0 cx1 cx2 cx3 cx4 cx5 zx cy0 cy1 cy2 cy3 cy4 cy5 zy
  have D9 := hid_drew w9
  have SS9 : Hid (∀ W, Hid (Below w9.heap.size w9 W) → W.cell? ⟨gx, 0, none⟩ = some (.int .u64 (wd (fe Mp (Wd ^ 6) X0) 0)) ∧ W.cell? ⟨gx, 1, none⟩ = some (.int .u64 (wd (fe Mp (Wd ^ 6) X0) 1)) ∧ W.cell? ⟨gx, 2, none⟩ = some (.int .u64 (wd (fe Mp (Wd ^ 6) X0) 2)) ∧ W.cell? ⟨gx, 3, none⟩ = some (.int .u64 (wd (fe Mp (Wd ^ 6) X0) 3)) ∧ W.cell? ⟨gx, 4, none⟩ = some (.int .u64 (wd (fe Mp (Wd ^ 6) X0) 4)) ∧ W.cell? ⟨gx, 5, none⟩ = some (.int .u64 (wd (fe Mp (Wd ^ 6) X0) 5)) ∧ W.cell? ⟨gy, 0, none⟩ = some (.int .u64 (wd (fe Mp (Wd ^ 6) X1) 0)) ∧ W.cell? ⟨gy, 1, none⟩ = some (.int .u64 (wd (fe Mp (Wd ^ 6) X1) 1)) ∧ W.cell? ⟨gy, 2, none⟩ = some (.int .u64 (wd (fe Mp (Wd ^ 6) X1) 2)) ∧ W.cell? ⟨gy, 3, none⟩ = some (.int .u64 (wd (fe Mp (Wd ^ 6) X1) 3)) ∧ W.cell? ⟨gy, 4, none⟩ = some (.int .u64 (wd (fe Mp (Wd ^ 6) X1) 4)) ∧ W.cell? ⟨gy, 5, none⟩ = some (.int .u64 (wd (fe Mp (Wd ^ 6) X1) 5)) ∧ Hid (Below w9.heap.size w9 W)) := Lib.hid (fun W hW => by
    obtain ⟨qx0, qx1, qx2, qx3, qx4, qx5⟩ := cells6 (Kx_9.out.keep hW.out)
    obtain ⟨qy0, qy1, qy2, qy3, qy4, qy5⟩ := cells6 (Ky_9.out.keep hW.out)
    exact ⟨qx0, qx1, qx2, qx3, qx4, qx5, qy0, qy1, qy2, qy3, qy4, qy5, hW⟩)
  go_region_held3 (fun W => W.cell? ⟨gx, 0, none⟩ = some (.int .u64 (wd (fe Mp (Wd ^ 6) X0) 0)) ∧ W.cell? ⟨gx, 1, none⟩ = some (.int .u64 (wd (fe Mp (Wd ^ 6) X0) 1)) ∧ W.cell? ⟨gx, 2, none⟩ = some (.int .u64 (wd (fe Mp (Wd ^ 6) X0) 2)) ∧ W.cell? ⟨gx, 3, none⟩ = some (.int .u64 (wd (fe Mp (Wd ^ 6) X0) 3)) ∧ W.cell? ⟨gx, 4, none⟩ = some (.int .u64 (wd (fe Mp (Wd ^ 6) X0) 4)) ∧ W.cell? ⟨gx, 5, none⟩ = some (.int .u64 (wd (fe Mp (Wd ^ 6) X0) 5)) ∧ W.cell? ⟨gy, 0, none⟩ = some (.int .u64 (wd (fe Mp (Wd ^ 6) X1) 0)) ∧ W.cell? ⟨gy, 1, none⟩ = some (.int .u64 (wd (fe Mp (Wd ^ 6) X1) 1)) ∧ W.cell? ⟨gy, 2, none⟩ = some (.int .u64 (wd (fe Mp (Wd ^ 6) X1) 2)) ∧ W.cell? ⟨gy, 3, none⟩ = some (.int .u64 (wd (fe Mp (Wd ^ 6) X1) 3)) ∧ W.cell? ⟨gy, 4, none⟩ = some (.int .u64 (wd (fe Mp (Wd ^ 6) X1) 4)) ∧ W.cell? ⟨gy, 5, none⟩ = some (.int .u64 (wd (fe Mp (Wd ^ 6) X1) 5)) ∧ Hid (Below w9.heap.size w9 W)) (first | exact SS9.out _ D9 | exact SS9.out _ (by with_reducible assumption)) (first
    | (go_at_call 18; (with_reducible refine (A2_0.out _ (by first | exact D9 | with_reducible assumption)).mono ?_); rintro e w10 ⟨rfl, HB10⟩)
    | (go_at_call 29; (with_reducible refine (A2_1.out _ (by first | exact D9 | with_reducible assumption)).mono ?_); rintro e w10 ⟨rfl, HB10⟩)
    | (go_at_call 33; (with_reducible refine (A2_2.out _ (by first | exact D9 | with_reducible assumption)).mono ?_); rintro e w10 ⟨rfl, HB10⟩)
    | (go_at_call 33; (with_reducible refine (A2_3.out _ (by first | exact D9 | with_reducible assumption)).mono ?_); rintro e w10 ⟨rfl, HB10⟩)
    | (go_at_call 33; (with_reducible refine (A2_4.out _ (by first | exact D9 | with_reducible assumption)).mono ?_); rintro e w10 ⟨rfl, HB10⟩)
    | (go_at_call 29; (with_reducible refine (A2_5.out _ (by first | exact D9 | with_reducible assumption)).mono ?_); rintro e w10 ⟨rfl, HB10⟩))
  have B10 := Lib.hid (B9.out.trans (HB10.out.mono B9.out.size))
  have Kx_10 := Lib.hid (Kx_9.out.keep HB10.out)
  have Ky_10 := Lib.hid (Ky_9.out.keep HB10.out)
  clear B9 SS9 D9 HB10 Kx_9 Ky_9 A2_0 A2_1 A2_2 A2_3 A2_4 A2_5
  obtain ⟨cx0, cx1, cx2, cx3, cx4, cx5⟩ := cells6 Kx_10.out
  have zx := Kx_10.out.lt
  obtain ⟨cy0, cy1, cy2, cy3, cy4, cy5⟩ := cells6 Ky_10.out
  have zy := Ky_10.out.lt
  go_wp2_with fail
  go_ret
  exact ⟨rfl, B10.out⟩
set_option maxRecDepth 100000 in
set_option maxHeartbeats 8000000 in
theorem invertsp_yn (w : World) (hG : GMp w) (hS : GSqp w) (hH : GShp w) (hQ : GQp w) (hU : GUp w) (A0 : Option Addr) (L0 c0 : Nat) (bs0 : List Int) (A1 : Option Addr) (L1 c1 : Nat) (bs1 : List Int) (hr0 : Reads w w.heap.size A0 L0 (bs0.map (Value.int .u8))) (ho0 : Oct bs0) (hr1 : Reads w w.heap.size A1 L1 (bs1.map (Value.int .u8))) (ho1 : Oct bs1) (h0 : L0 ≤ 400) (h1 : L1 ≤ 400) (hx : ¬ num bs0 % Mp = 0) (hy : num bs1 % Mp = 0) :
    Calls Tryd.prog 6 #[.slice A0 L0 c0, .slice A1 L1 c1] w fun e w' => e = .returned (.bool true) ∧ Below w.heap.size w w' := by
  have HG := Lib.hid hG
  have HS := Lib.hid hS
  have HH := Lib.hid hH
  have HQ := Lib.hid hQ
  have HU := Lib.hid hU
  have HR0 := Lib.hid hr0
  have HO0 := Lib.hid ho0
  have HL0 := Lib.hid (show bs0.length = L0 by simpa using hr0.1)
  obtain ⟨X0, hX0⟩ : ∃ X, X = num bs0 := ⟨_, rfl⟩
  have HR1 := Lib.hid hr1
  have HO1 := Lib.hid ho1
  have HL1 := Lib.hid (show bs1.length = L1 by simpa using hr1.1)
  obtain ⟨X1, hX1⟩ : ∃ X, X = num bs1 := ⟨_, rfl⟩
  rw [← hX0] at hx
  rw [← hX1] at hy
  obtain ⟨Ix, hIx⟩ : ∃ i, i = X0 ^ Ep := ⟨_, rfl⟩
  obtain ⟨Ixx, hIxx⟩ : ∃ i, i = Ix ^ Ep := ⟨_, rfl⟩
  have q1 := pv_same (X0 * Ix) 1 (by rw [hIx]; exact invp_ok X0 hx)
  have q2 := pv_same Ixx X0 (by rw [hIxx, hIx]; exact invp_inv X0 hx)
  have hzx : decide (X0 % Mp = 0) = false := by simpa using hx
  have hzy : decide (X1 % Mp = 0) = true := by simpa using hy
  have HI_Ix := Lib.hid hIx
  have HI_Ixx := Lib.hid hIxx
  have HZX := Lib.hid hzx
  have HZY := Lib.hid hzy
  clear hIx hIxx hzx hzy hx hy
  have HX0 := Lib.hid hX0
  clear hX0 hr0 ho0
  have HX1 := Lib.hid hX1
  clear hX1 hr1 ho1
  clear hG hS hH hQ hU
  have B0 : Hid (Below w.heap.size w w) := Lib.hid (Below.refl _ _)
  go_enter Tryd.func6, Tryd.ntmps6
  go_wp2_with fail
  refine (fp_head _ (HG.out.keep B0.out) (HS.out.keep B0.out) (HQ.out.keep B0.out) (HU.out.keep B0.out)).mono ?_
  rintro e w1 ⟨rfl, hb⟩
  have B1 := Lib.hid (B0.out.trans (hb.mono B0.out.size))
  clear hb B0 
  go_wp2_with fail
  refine (copy_any w1 A0 L0 c0 bs0 ((HR0.out.below B1.out).more B1.out.size) (by omega)).mono ?_
  rintro e w2 ⟨gc0, rfl, -, hBc, hb⟩
  have RC0 := Lib.hid (copy_reads hBc HL0.out)
  have B2 := Lib.hid (B1.out.trans (hb.mono B1.out.size))
  clear hb hBc B1 
  go_wp2_with fail
  refine (fp_wide _ (HG.out.keep B2.out) (HS.out.keep B2.out) (HH.out.keep B2.out) (some ⟨gc0, 0, none⟩) L0 L0 bs0 RC0.out HO0.out (Nat.le_refl _) (by omega)).mono ?_
  rintro e w3 ⟨rfl, hb⟩
  have B3 := Lib.hid (B2.out.trans (hb.mono B2.out.size))
  clear hb B2 
  rw [← HX0.out]
  unfold pv arr6
  go_wp2_with fail
  have B4 := Lib.hid (B3.out.alloc B3.out.size (Obj.cells #[.int .u64 (wd (fe Mp (Wd ^ 6) X0) 0), .int .u64 (wd (fe Mp (Wd ^ 6) X0) 1), .int .u64 (wd (fe Mp (Wd ^ 6) X0) 2), .int .u64 (wd (fe Mp (Wd ^ 6) X0) 3), .int .u64 (wd (fe Mp (Wd ^ 6) X0) 4), .int .u64 (wd (fe Mp (Wd ^ 6) X0) 5)] 28))
  have Kx_4 := Lib.hid (Blk.new w3 28 #[.int .u64 (wd (fe Mp (Wd ^ 6) X0) 0), .int .u64 (wd (fe Mp (Wd ^ 6) X0) 1), .int .u64 (wd (fe Mp (Wd ^ 6) X0) 2), .int .u64 (wd (fe Mp (Wd ^ 6) X0) 3), .int .u64 (wd (fe Mp (Wd ^ 6) X0) 4), .int .u64 (wd (fe Mp (Wd ^ 6) X0) 5)])
  obtain ⟨gx, hgx⟩ : ∃ g, g = w3.heap.size := ⟨_, rfl⟩
  obtain ⟨w4, hw4⟩ : ∃ W, W = w3.alloc (Obj.cells #[.int .u64 (wd (fe Mp (Wd ^ 6) X0) 0), .int .u64 (wd (fe Mp (Wd ^ 6) X0) 1), .int .u64 (wd (fe Mp (Wd ^ 6) X0) 2), .int .u64 (wd (fe Mp (Wd ^ 6) X0) 3), .int .u64 (wd (fe Mp (Wd ^ 6) X0) 4), .int .u64 (wd (fe Mp (Wd ^ 6) X0) 5)] 28) := ⟨_, rfl⟩
  rw [← hgx] at Kx_4
  simp only [← hw4] at B4 Kx_4
  rw [← hw4, ← hgx]
  clear hw4 hgx B3 
  obtain ⟨cx0, cx1, cx2, cx3, cx4, cx5⟩ := cells6 Kx_4.out
  have zx := Kx_4.out.lt
  refine (copy_any w4 A1 L1 c1 bs1 ((HR1.out.below B4.out).more B4.out.size) (by omega)).mono ?_
  rintro e w5 ⟨gc1, rfl, -, hBc, hb⟩
  clear cx0 cx1 cx2 cx3 cx4 cx5 zx
  have RC1 := Lib.hid (copy_reads hBc HL1.out)
  have B5 := Lib.hid (B4.out.trans (hb.mono B4.out.size))
  have Kx_5 := Lib.hid (Kx_4.out.keep hb)
  clear hb hBc B4 Kx_4
  go_wp2_with fail
  refine (fp_wide _ (HG.out.keep B5.out) (HS.out.keep B5.out) (HH.out.keep B5.out) (some ⟨gc1, 0, none⟩) L1 L1 bs1 RC1.out HO1.out (Nat.le_refl _) (by omega)).mono ?_
  rintro e w6 ⟨rfl, hb⟩
  have B6 := Lib.hid (B5.out.trans (hb.mono B5.out.size))
  have Kx_6 := Lib.hid (Kx_5.out.keep hb)
  clear hb B5 Kx_5
  obtain ⟨cx0, cx1, cx2, cx3, cx4, cx5⟩ := cells6 Kx_6.out
  have zx := Kx_6.out.lt
  rw [← HX1.out]
  unfold pv arr6
  go_wp2_with fail
  clear cx0 cx1 cx2 cx3 cx4 cx5 zx
  have B7 := Lib.hid (B6.out.alloc B6.out.size (Obj.cells #[.int .u64 (wd (fe Mp (Wd ^ 6) X1) 0), .int .u64 (wd (fe Mp (Wd ^ 6) X1) 1), .int .u64 (wd (fe Mp (Wd ^ 6) X1) 2), .int .u64 (wd (fe Mp (Wd ^ 6) X1) 3), .int .u64 (wd (fe Mp (Wd ^ 6) X1) 4), .int .u64 (wd (fe Mp (Wd ^ 6) X1) 5)] 28))
  have Kx_7 := Lib.hid (Kx_6.out.alloc (Obj.cells #[.int .u64 (wd (fe Mp (Wd ^ 6) X1) 0), .int .u64 (wd (fe Mp (Wd ^ 6) X1) 1), .int .u64 (wd (fe Mp (Wd ^ 6) X1) 2), .int .u64 (wd (fe Mp (Wd ^ 6) X1) 3), .int .u64 (wd (fe Mp (Wd ^ 6) X1) 4), .int .u64 (wd (fe Mp (Wd ^ 6) X1) 5)] 28))
  have Ky_7 := Lib.hid (Blk.new w6 28 #[.int .u64 (wd (fe Mp (Wd ^ 6) X1) 0), .int .u64 (wd (fe Mp (Wd ^ 6) X1) 1), .int .u64 (wd (fe Mp (Wd ^ 6) X1) 2), .int .u64 (wd (fe Mp (Wd ^ 6) X1) 3), .int .u64 (wd (fe Mp (Wd ^ 6) X1) 4), .int .u64 (wd (fe Mp (Wd ^ 6) X1) 5)])
  obtain ⟨gy, hgy⟩ : ∃ g, g = w6.heap.size := ⟨_, rfl⟩
  obtain ⟨w7, hw7⟩ : ∃ W, W = w6.alloc (Obj.cells #[.int .u64 (wd (fe Mp (Wd ^ 6) X1) 0), .int .u64 (wd (fe Mp (Wd ^ 6) X1) 1), .int .u64 (wd (fe Mp (Wd ^ 6) X1) 2), .int .u64 (wd (fe Mp (Wd ^ 6) X1) 3), .int .u64 (wd (fe Mp (Wd ^ 6) X1) 4), .int .u64 (wd (fe Mp (Wd ^ 6) X1) 5)] 28) := ⟨_, rfl⟩
  rw [← hgy] at Ky_7
  simp only [← hw7] at B7 Kx_7 Ky_7
  rw [← hw7, ← hgy]
  clear hw7 hgy B6 Kx_6
  obtain ⟨cx0, cx1, cx2, cx3, cx4, cx5⟩ := cells6 Kx_7.out
  have zx := Kx_7.out.lt
  obtain ⟨cy0, cy1, cy2, cy3, cy4, cy5⟩ := cells6 Ky_7.out
  have zy := Ky_7.out.lt
  refine (fp_zero X0 _).mono ?_
  rintro e w8 ⟨rfl, hb⟩
  clear cx0 cx1 cx2 cx3 cx4 cx5 zx cy0 cy1 cy2 cy3 cy4 cy5 zy
  have B8 := Lib.hid (B7.out.trans (hb.mono B7.out.size))
  have Kx_8 := Lib.hid (Kx_7.out.keep hb)
  have Ky_8 := Lib.hid (Ky_7.out.keep hb)
  clear hb B7 Kx_7 Ky_7
  obtain ⟨cx0, cx1, cx2, cx3, cx4, cx5⟩ := cells6 Kx_8.out
  have zx := Kx_8.out.lt
  obtain ⟨cy0, cy1, cy2, cy3, cy4, cy5⟩ := cells6 Ky_8.out
  have zy := Ky_8.out.lt
  rw [HZX.out]
  go_wp2_with fail
  have GV1 := Lib.hid (HG.out.keep B8.out)
  have SV1 := Lib.hid (HS.out.keep B8.out)
  have h1_0 := based_invp w8 GV1.out SV1.out (X0)
  rw [← HI_Ix.out] at h1_0
  unfold pv arr6 at h1_0
  have A1_0 := Lib.hid h1_0
  clear h1_0
  have h1_1 := based_mulp w8 GV1.out (X0) (Ix)
  unfold pv arr6 at h1_1
  have A1_1 := Lib.hid h1_1
  clear h1_1
  have h1_2 := based_ofp w8 GV1.out SV1.out (1) (by omega) (by simp [Wd])
  unfold pv arr6 at h1_2
  have A1_2 := Lib.hid h1_2
  clear h1_2
  have h1_3 := based_invp w8 GV1.out SV1.out (Ix)
  rw [← HI_Ixx.out] at h1_3
  unfold pv arr6 at h1_3
  have A1_3 := Lib.hid h1_3
  clear h1_3
  clear cx0 cx1 cx2 cx3 cx4 cx5 zx cy0 cy1 cy2 cy3 cy4 cy5 zy
  have D8 := hid_drew w8
  have SS8 : Hid (∀ W, Hid (Below w8.heap.size w8 W) → W.cell? ⟨gx, 0, none⟩ = some (.int .u64 (wd (fe Mp (Wd ^ 6) X0) 0)) ∧ W.cell? ⟨gx, 1, none⟩ = some (.int .u64 (wd (fe Mp (Wd ^ 6) X0) 1)) ∧ W.cell? ⟨gx, 2, none⟩ = some (.int .u64 (wd (fe Mp (Wd ^ 6) X0) 2)) ∧ W.cell? ⟨gx, 3, none⟩ = some (.int .u64 (wd (fe Mp (Wd ^ 6) X0) 3)) ∧ W.cell? ⟨gx, 4, none⟩ = some (.int .u64 (wd (fe Mp (Wd ^ 6) X0) 4)) ∧ W.cell? ⟨gx, 5, none⟩ = some (.int .u64 (wd (fe Mp (Wd ^ 6) X0) 5)) ∧ W.cell? ⟨gy, 0, none⟩ = some (.int .u64 (wd (fe Mp (Wd ^ 6) X1) 0)) ∧ W.cell? ⟨gy, 1, none⟩ = some (.int .u64 (wd (fe Mp (Wd ^ 6) X1) 1)) ∧ W.cell? ⟨gy, 2, none⟩ = some (.int .u64 (wd (fe Mp (Wd ^ 6) X1) 2)) ∧ W.cell? ⟨gy, 3, none⟩ = some (.int .u64 (wd (fe Mp (Wd ^ 6) X1) 3)) ∧ W.cell? ⟨gy, 4, none⟩ = some (.int .u64 (wd (fe Mp (Wd ^ 6) X1) 4)) ∧ W.cell? ⟨gy, 5, none⟩ = some (.int .u64 (wd (fe Mp (Wd ^ 6) X1) 5)) ∧ Hid (Below w8.heap.size w8 W)) := Lib.hid (fun W hW => by
    obtain ⟨qx0, qx1, qx2, qx3, qx4, qx5⟩ := cells6 (Kx_8.out.keep hW.out)
    obtain ⟨qy0, qy1, qy2, qy3, qy4, qy5⟩ := cells6 (Ky_8.out.keep hW.out)
    exact ⟨qx0, qx1, qx2, qx3, qx4, qx5, qy0, qy1, qy2, qy3, qy4, qy5, hW⟩)
  go_region_held3 (fun W => W.cell? ⟨gx, 0, none⟩ = some (.int .u64 (wd (fe Mp (Wd ^ 6) X0) 0)) ∧ W.cell? ⟨gx, 1, none⟩ = some (.int .u64 (wd (fe Mp (Wd ^ 6) X0) 1)) ∧ W.cell? ⟨gx, 2, none⟩ = some (.int .u64 (wd (fe Mp (Wd ^ 6) X0) 2)) ∧ W.cell? ⟨gx, 3, none⟩ = some (.int .u64 (wd (fe Mp (Wd ^ 6) X0) 3)) ∧ W.cell? ⟨gx, 4, none⟩ = some (.int .u64 (wd (fe Mp (Wd ^ 6) X0) 4)) ∧ W.cell? ⟨gx, 5, none⟩ = some (.int .u64 (wd (fe Mp (Wd ^ 6) X0) 5)) ∧ W.cell? ⟨gy, 0, none⟩ = some (.int .u64 (wd (fe Mp (Wd ^ 6) X1) 0)) ∧ W.cell? ⟨gy, 1, none⟩ = some (.int .u64 (wd (fe Mp (Wd ^ 6) X1) 1)) ∧ W.cell? ⟨gy, 2, none⟩ = some (.int .u64 (wd (fe Mp (Wd ^ 6) X1) 2)) ∧ W.cell? ⟨gy, 3, none⟩ = some (.int .u64 (wd (fe Mp (Wd ^ 6) X1) 3)) ∧ W.cell? ⟨gy, 4, none⟩ = some (.int .u64 (wd (fe Mp (Wd ^ 6) X1) 4)) ∧ W.cell? ⟨gy, 5, none⟩ = some (.int .u64 (wd (fe Mp (Wd ^ 6) X1) 5)) ∧ Hid (Below w8.heap.size w8 W)) (first | exact SS8.out _ D8 | exact SS8.out _ (by with_reducible assumption)) (first
    | (go_at_call 33; (with_reducible refine (A1_0.out _ (by first | exact D8 | with_reducible assumption)).mono ?_); rintro e w9 ⟨rfl, HB9⟩)
    | (go_at_call 29; (with_reducible refine (A1_1.out _ (by first | exact D8 | with_reducible assumption)).mono ?_); rintro e w9 ⟨rfl, HB9⟩)
    | (go_at_call 13; (with_reducible refine (A1_2.out _ (by first | exact D8 | with_reducible assumption)).mono ?_); rintro e w9 ⟨rfl, HB9⟩)
    | (go_at_call 33; (with_reducible refine (A1_3.out _ (by first | exact D8 | with_reducible assumption)).mono ?_); rintro e w9 ⟨rfl, HB9⟩))
  have B9 := Lib.hid (B8.out.trans (HB9.out.mono B8.out.size))
  have Kx_9 := Lib.hid (Kx_8.out.keep HB9.out)
  have Ky_9 := Lib.hid (Ky_8.out.keep HB9.out)
  clear B8 SS8 D8 HB9 Kx_8 Ky_8 A1_0 A1_1 A1_2 A1_3
  obtain ⟨cx0, cx1, cx2, cx3, cx4, cx5⟩ := cells6 Kx_9.out
  have zx := Kx_9.out.lt
  obtain ⟨cy0, cy1, cy2, cy3, cy4, cy5⟩ := cells6 Ky_9.out
  have zy := Ky_9.out.lt
  go_wp2_with fail
  have GV2 := Lib.hid (HG.out.keep B9.out)
  have h2_0 := based_zerop w9  (X1)
  rw [HZY.out] at h2_0
  unfold pv arr6 at h2_0
  have A2_0 := Lib.hid h2_0
  clear h2_0
  try go_frame
  refine wp_region_any (by kernel_rfl) ?_
  change wpAny _ _ _ _ _ _ _ (World.drew _)
  have D9 := hid_drew w9
  refine wpAny_ready (rs := [0]) (by kernel_rfl) (by simp) ?_
  refine AllReady.cons rfl (fun K hK => ?_) AllReady.nil
  go_simp
  refine hK _ _ ?_
  clear hK K
  try go_frame
  refine wpAny_ready (rs := [1]) (by kernel_rfl) (by simp) ?_
  refine AllReady.cons rfl (fun K hK => ?_) AllReady.nil
  go_simp
  refine (A2_0.out _ D9).mono ?_
  rintro e w10 ⟨rfl, HB10⟩
  go_simp
  refine hK _ _ ?_
  clear hK K
  try go_frame
  refine wpAny_ready (rs := [2]) (by kernel_rfl) (by simp) ?_
  refine AllReady.cons rfl (fun K hK => ?_) AllReady.nil
  go_simp
  refine hK _ _ ?_
  clear hK K
  try go_frame
  refine wpAny_skip (i := 3) 49 rfl (by kernel_rfl) (by kernel_rfl) (by kernel_rfl) (fun _ _ _ h => h) rfl (by rfl) ?_
  try go_frame
  refine wpAny_skip (i := 4) 50 rfl (by kernel_rfl) (by kernel_rfl) (by kernel_rfl) (fun _ _ _ h => h) rfl (by rfl) ?_
  try go_frame
  refine wpAny_skip (i := 5) 51 rfl (by kernel_rfl) (by kernel_rfl) (by kernel_rfl) (fun _ _ _ h => h) rfl (by rfl) ?_
  try go_frame
  refine wpAny_skip (i := 6) 52 rfl (by kernel_rfl) (by kernel_rfl) (by kernel_rfl) (fun _ _ _ h => h) rfl (by rfl) ?_
  try go_frame
  refine wpAny_skip (i := 7) 53 rfl (by kernel_rfl) (by kernel_rfl) (by kernel_rfl) (fun _ _ _ h => h) rfl (by rfl) ?_
  try go_frame
  refine wpAny_skip (i := 8) 54 rfl (by kernel_rfl) (by kernel_rfl) (by kernel_rfl) (fun _ _ _ h => h) rfl (by rfl) ?_
  try go_frame
  refine wpAny_skip (i := 9) 55 rfl (by kernel_rfl) (by kernel_rfl) (by kernel_rfl) (fun _ _ _ h => h) rfl (by rfl) ?_
  try go_frame
  refine wpAny_skip (i := 10) 56 rfl (by kernel_rfl) (by kernel_rfl) (by kernel_rfl) (fun _ _ _ h => h) rfl (by rfl) ?_
  try go_frame
  refine wpAny_skip (i := 11) 57 rfl (by kernel_rfl) (by kernel_rfl) (by kernel_rfl) (fun _ _ _ h => h) rfl (by rfl) ?_
  try go_frame
  refine wpAny_skip (i := 12) 58 rfl (by kernel_rfl) (by kernel_rfl) (by kernel_rfl) (fun _ _ _ h => h) rfl (by rfl) ?_
  try go_frame
  refine wpAny_ready (rs := [13]) (by kernel_rfl) (by simp) ?_
  refine AllReady.cons rfl (fun K hK => ?_) AllReady.nil
  go_simp
  refine hK _ _ ?_
  clear hK K
  try go_frame
  refine wpAny_ready (rs := [14]) (by kernel_rfl) (by simp) ?_
  refine AllReady.cons rfl (fun K hK => ?_) AllReady.nil
  go_simp
  refine hK _ _ ?_
  clear hK K
  try go_frame
  refine wpAny_done (by kernel_rfl) ?_ _
  try go_frame
  clear cx0 cx1 cx2 cx3 cx4 cx5 zx cy0 cy1 cy2 cy3 cy4 cy5 zy
  have B10 := Lib.hid (B9.out.trans (HB10.out.mono B9.out.size))
  have Kx_10 := Lib.hid (Kx_9.out.keep HB10.out)
  have Ky_10 := Lib.hid (Ky_9.out.keep HB10.out)
  clear B9 D9 HB10 Kx_9 Ky_9 A2_0
  obtain ⟨cx0, cx1, cx2, cx3, cx4, cx5⟩ := cells6 Kx_10.out
  have zx := Kx_10.out.lt
  obtain ⟨cy0, cy1, cy2, cy3, cy4, cy5⟩ := cells6 Ky_10.out
  have zy := Ky_10.out.lt
  go_wp2_with fail
  go_ret
  exact ⟨rfl, B10.out⟩
set_option maxRecDepth 100000 in
set_option maxHeartbeats 8000000 in
theorem invertsp_n (w : World) (hG : GMp w) (hS : GSqp w) (hH : GShp w) (hQ : GQp w) (hU : GUp w) (A0 : Option Addr) (L0 c0 : Nat) (bs0 : List Int) (A1 : Option Addr) (L1 c1 : Nat) (bs1 : List Int) (hr0 : Reads w w.heap.size A0 L0 (bs0.map (Value.int .u8))) (ho0 : Oct bs0) (hr1 : Reads w w.heap.size A1 L1 (bs1.map (Value.int .u8))) (ho1 : Oct bs1) (h0 : L0 ≤ 400) (h1 : L1 ≤ 400) (hx : num bs0 % Mp = 0) :
    Calls Tryd.prog 6 #[.slice A0 L0 c0, .slice A1 L1 c1] w fun e w' => e = .returned (.bool true) ∧ Below w.heap.size w w' := by
  have HG := Lib.hid hG
  have HS := Lib.hid hS
  have HH := Lib.hid hH
  have HQ := Lib.hid hQ
  have HU := Lib.hid hU
  have HR0 := Lib.hid hr0
  have HO0 := Lib.hid ho0
  have HL0 := Lib.hid (show bs0.length = L0 by simpa using hr0.1)
  obtain ⟨X0, hX0⟩ : ∃ X, X = num bs0 := ⟨_, rfl⟩
  have HR1 := Lib.hid hr1
  have HO1 := Lib.hid ho1
  have HL1 := Lib.hid (show bs1.length = L1 by simpa using hr1.1)
  obtain ⟨X1, hX1⟩ : ∃ X, X = num bs1 := ⟨_, rfl⟩
  rw [← hX0] at hx
  obtain ⟨Ix, hIx⟩ : ∃ i, i = X0 ^ Ep := ⟨_, rfl⟩
  have q1 := pv_isNought X0 hx
  have hzx : decide (X0 % Mp = 0) = true := by simpa using hx
  have hzi : decide (Ix % Mp = 0) = true := by
    have : Ix % Mp = 0 := by rw [hIx, pow_emod, hx, Int.zero_pow (by simp [Ep])]; rfl
    simpa using this
  have HI_Ix := Lib.hid hIx
  have hinv := fp_inv X0
  rw [← hIx] at hinv
  have HINV := Lib.hid hinv
  have HZX := Lib.hid hzx
  have HZI := Lib.hid hzi
  clear hIx hzx hzi hx hinv HI_Ix
  have HX0 := Lib.hid hX0
  clear hX0 hr0 ho0
  have HX1 := Lib.hid hX1
  clear hX1 hr1 ho1
  clear hG hS hH hQ hU
  have B0 : Hid (Below w.heap.size w w) := Lib.hid (Below.refl _ _)
  go_enter Tryd.func6, Tryd.ntmps6
  go_wp2_with fail
  refine (fp_head _ (HG.out.keep B0.out) (HS.out.keep B0.out) (HQ.out.keep B0.out) (HU.out.keep B0.out)).mono ?_
  rintro e w1 ⟨rfl, hb⟩
  have B1 := Lib.hid (B0.out.trans (hb.mono B0.out.size))
  clear hb B0 
  go_wp2_with fail
  refine (copy_any w1 A0 L0 c0 bs0 ((HR0.out.below B1.out).more B1.out.size) (by omega)).mono ?_
  rintro e w2 ⟨gc0, rfl, -, hBc, hb⟩
  have RC0 := Lib.hid (copy_reads hBc HL0.out)
  have B2 := Lib.hid (B1.out.trans (hb.mono B1.out.size))
  clear hb hBc B1 
  go_wp2_with fail
  refine (fp_wide _ (HG.out.keep B2.out) (HS.out.keep B2.out) (HH.out.keep B2.out) (some ⟨gc0, 0, none⟩) L0 L0 bs0 RC0.out HO0.out (Nat.le_refl _) (by omega)).mono ?_
  rintro e w3 ⟨rfl, hb⟩
  have B3 := Lib.hid (B2.out.trans (hb.mono B2.out.size))
  clear hb B2 
  rw [← HX0.out]
  unfold pv arr6
  go_wp2_with fail
  have B4 := Lib.hid (B3.out.alloc B3.out.size (Obj.cells #[.int .u64 (wd (fe Mp (Wd ^ 6) X0) 0), .int .u64 (wd (fe Mp (Wd ^ 6) X0) 1), .int .u64 (wd (fe Mp (Wd ^ 6) X0) 2), .int .u64 (wd (fe Mp (Wd ^ 6) X0) 3), .int .u64 (wd (fe Mp (Wd ^ 6) X0) 4), .int .u64 (wd (fe Mp (Wd ^ 6) X0) 5)] 28))
  have Kx_4 := Lib.hid (Blk.new w3 28 #[.int .u64 (wd (fe Mp (Wd ^ 6) X0) 0), .int .u64 (wd (fe Mp (Wd ^ 6) X0) 1), .int .u64 (wd (fe Mp (Wd ^ 6) X0) 2), .int .u64 (wd (fe Mp (Wd ^ 6) X0) 3), .int .u64 (wd (fe Mp (Wd ^ 6) X0) 4), .int .u64 (wd (fe Mp (Wd ^ 6) X0) 5)])
  obtain ⟨gx, hgx⟩ : ∃ g, g = w3.heap.size := ⟨_, rfl⟩
  obtain ⟨w4, hw4⟩ : ∃ W, W = w3.alloc (Obj.cells #[.int .u64 (wd (fe Mp (Wd ^ 6) X0) 0), .int .u64 (wd (fe Mp (Wd ^ 6) X0) 1), .int .u64 (wd (fe Mp (Wd ^ 6) X0) 2), .int .u64 (wd (fe Mp (Wd ^ 6) X0) 3), .int .u64 (wd (fe Mp (Wd ^ 6) X0) 4), .int .u64 (wd (fe Mp (Wd ^ 6) X0) 5)] 28) := ⟨_, rfl⟩
  rw [← hgx] at Kx_4
  simp only [← hw4] at B4 Kx_4
  rw [← hw4, ← hgx]
  clear hw4 hgx B3 
  obtain ⟨cx0, cx1, cx2, cx3, cx4, cx5⟩ := cells6 Kx_4.out
  have zx := Kx_4.out.lt
  refine (copy_any w4 A1 L1 c1 bs1 ((HR1.out.below B4.out).more B4.out.size) (by omega)).mono ?_
  rintro e w5 ⟨gc1, rfl, -, hBc, hb⟩
  clear cx0 cx1 cx2 cx3 cx4 cx5 zx
  have RC1 := Lib.hid (copy_reads hBc HL1.out)
  have B5 := Lib.hid (B4.out.trans (hb.mono B4.out.size))
  have Kx_5 := Lib.hid (Kx_4.out.keep hb)
  clear hb hBc B4 Kx_4
  go_wp2_with fail
  refine (fp_wide _ (HG.out.keep B5.out) (HS.out.keep B5.out) (HH.out.keep B5.out) (some ⟨gc1, 0, none⟩) L1 L1 bs1 RC1.out HO1.out (Nat.le_refl _) (by omega)).mono ?_
  rintro e w6 ⟨rfl, hb⟩
  have B6 := Lib.hid (B5.out.trans (hb.mono B5.out.size))
  have Kx_6 := Lib.hid (Kx_5.out.keep hb)
  clear hb B5 Kx_5
  obtain ⟨cx0, cx1, cx2, cx3, cx4, cx5⟩ := cells6 Kx_6.out
  have zx := Kx_6.out.lt
  rw [← HX1.out]
  unfold pv arr6
  go_wp2_with fail
  clear cx0 cx1 cx2 cx3 cx4 cx5 zx
  have B7 := Lib.hid (B6.out.alloc B6.out.size (Obj.cells #[.int .u64 (wd (fe Mp (Wd ^ 6) X1) 0), .int .u64 (wd (fe Mp (Wd ^ 6) X1) 1), .int .u64 (wd (fe Mp (Wd ^ 6) X1) 2), .int .u64 (wd (fe Mp (Wd ^ 6) X1) 3), .int .u64 (wd (fe Mp (Wd ^ 6) X1) 4), .int .u64 (wd (fe Mp (Wd ^ 6) X1) 5)] 28))
  have Kx_7 := Lib.hid (Kx_6.out.alloc (Obj.cells #[.int .u64 (wd (fe Mp (Wd ^ 6) X1) 0), .int .u64 (wd (fe Mp (Wd ^ 6) X1) 1), .int .u64 (wd (fe Mp (Wd ^ 6) X1) 2), .int .u64 (wd (fe Mp (Wd ^ 6) X1) 3), .int .u64 (wd (fe Mp (Wd ^ 6) X1) 4), .int .u64 (wd (fe Mp (Wd ^ 6) X1) 5)] 28))
  have Ky_7 := Lib.hid (Blk.new w6 28 #[.int .u64 (wd (fe Mp (Wd ^ 6) X1) 0), .int .u64 (wd (fe Mp (Wd ^ 6) X1) 1), .int .u64 (wd (fe Mp (Wd ^ 6) X1) 2), .int .u64 (wd (fe Mp (Wd ^ 6) X1) 3), .int .u64 (wd (fe Mp (Wd ^ 6) X1) 4), .int .u64 (wd (fe Mp (Wd ^ 6) X1) 5)])
  obtain ⟨gy, hgy⟩ : ∃ g, g = w6.heap.size := ⟨_, rfl⟩
  obtain ⟨w7, hw7⟩ : ∃ W, W = w6.alloc (Obj.cells #[.int .u64 (wd (fe Mp (Wd ^ 6) X1) 0), .int .u64 (wd (fe Mp (Wd ^ 6) X1) 1), .int .u64 (wd (fe Mp (Wd ^ 6) X1) 2), .int .u64 (wd (fe Mp (Wd ^ 6) X1) 3), .int .u64 (wd (fe Mp (Wd ^ 6) X1) 4), .int .u64 (wd (fe Mp (Wd ^ 6) X1) 5)] 28) := ⟨_, rfl⟩
  rw [← hgy] at Ky_7
  simp only [← hw7] at B7 Kx_7 Ky_7
  rw [← hw7, ← hgy]
  clear hw7 hgy B6 Kx_6
  obtain ⟨cx0, cx1, cx2, cx3, cx4, cx5⟩ := cells6 Kx_7.out
  have zx := Kx_7.out.lt
  obtain ⟨cy0, cy1, cy2, cy3, cy4, cy5⟩ := cells6 Ky_7.out
  have zy := Ky_7.out.lt
  refine (fp_zero X0 _).mono ?_
  rintro e w8 ⟨rfl, hb⟩
  clear cx0 cx1 cx2 cx3 cx4 cx5 zx cy0 cy1 cy2 cy3 cy4 cy5 zy
  have B8 := Lib.hid (B7.out.trans (hb.mono B7.out.size))
  have Kx_8 := Lib.hid (Kx_7.out.keep hb)
  have Ky_8 := Lib.hid (Ky_7.out.keep hb)
  clear hb B7 Kx_7 Ky_7
  obtain ⟨cx0, cx1, cx2, cx3, cx4, cx5⟩ := cells6 Kx_8.out
  have zx := Kx_8.out.lt
  obtain ⟨cy0, cy1, cy2, cy3, cy4, cy5⟩ := cells6 Ky_8.out
  have zy := Ky_8.out.lt
  rw [HZX.out]
  go_wp2_with fail
  refine (HINV.out _ (HG.out.keep B8.out) (HS.out.keep B8.out)).mono ?_
  rintro e w9 ⟨rfl, hb⟩
  clear cx0 cx1 cx2 cx3 cx4 cx5 zx cy0 cy1 cy2 cy3 cy4 cy5 zy
  have B9 := Lib.hid (B8.out.trans (hb.mono B8.out.size))
  have Kx_9 := Lib.hid (Kx_8.out.keep hb)
  have Ky_9 := Lib.hid (Ky_8.out.keep hb)
  clear hb B8 Kx_8 Ky_8
  obtain ⟨cx0, cx1, cx2, cx3, cx4, cx5⟩ := cells6 Kx_9.out
  have zx := Kx_9.out.lt
  obtain ⟨cy0, cy1, cy2, cy3, cy4, cy5⟩ := cells6 Ky_9.out
  have zy := Ky_9.out.lt
  unfold pv arr6
  go_wp2_with fail
  refine (fp_zero Ix _).mono ?_
  rintro e w10 ⟨rfl, hb⟩
  clear cx0 cx1 cx2 cx3 cx4 cx5 zx cy0 cy1 cy2 cy3 cy4 cy5 zy
  have B10 := Lib.hid (B9.out.trans (hb.mono B9.out.size))
  have Kx_10 := Lib.hid (Kx_9.out.keep hb)
  have Ky_10 := Lib.hid (Ky_9.out.keep hb)
  clear hb B9 Kx_9 Ky_9
  obtain ⟨cx0, cx1, cx2, cx3, cx4, cx5⟩ := cells6 Kx_10.out
  have zx := Kx_10.out.lt
  obtain ⟨cy0, cy1, cy2, cy3, cy4, cy5⟩ := cells6 Ky_10.out
  have zy := Ky_10.out.lt
  rw [HZI.out]
  go_wp2_with fail
  go_ret
  exact ⟨rfl, B10.out⟩
set_option maxRecDepth 100000 in
set_option maxHeartbeats 8000000 in
theorem invertsp_big0 (w : World) (hG : GMp w) (hS : GSqp w) (hH : GShp w) (hQ : GQp w) (hU : GUp w) (A0 : Option Addr) (L0 c0 : Nat) (bs0 : List Int) (A1 : Option Addr) (L1 c1 : Nat) (bs1 : List Int) (hr0 : Reads w w.heap.size A0 L0 (bs0.map (Value.int .u8))) (ho0 : Oct bs0) (hr1 : Reads w w.heap.size A1 L1 (bs1.map (Value.int .u8))) (ho1 : Oct bs1) (h0 : 400 < L0) :
    Calls Tryd.prog 6 #[.slice A0 L0 c0, .slice A1 L1 c1] w fun e w' => e = .returned (.bool true) ∧ Below w.heap.size w w' := by
  have HG := Lib.hid hG
  have HS := Lib.hid hS
  have HH := Lib.hid hH
  have HQ := Lib.hid hQ
  have HU := Lib.hid hU
  have HR0 := Lib.hid hr0
  have HO0 := Lib.hid ho0
  have HL0 := Lib.hid (show bs0.length = L0 by simpa using hr0.1)
  obtain ⟨X0, hX0⟩ : ∃ X, X = num bs0 := ⟨_, rfl⟩
  have HR1 := Lib.hid hr1
  have HO1 := Lib.hid ho1
  have HL1 := Lib.hid (show bs1.length = L1 by simpa using hr1.1)
  obtain ⟨X1, hX1⟩ : ∃ X, X = num bs1 := ⟨_, rfl⟩
  clear HR0 HR1 HO0 HO1 HL0 HL1 hX0 hX1 hr0 hr1 ho0 ho1 HH hH hQ hU
  clear hG hS
  have B0 : Hid (Below w.heap.size w w) := Lib.hid (Below.refl _ _)
  go_enter Tryd.func6, Tryd.ntmps6
  go_wp2_with fail
  refine (fp_head _ (HG.out.keep B0.out) (HS.out.keep B0.out) (HQ.out.keep B0.out) (HU.out.keep B0.out)).mono ?_
  rintro e w1 ⟨rfl, hb⟩
  have B1 := Lib.hid (B0.out.trans (hb.mono B0.out.size))
  clear hb B0 
  go_wp2_with fail
  go_ret
  exact ⟨rfl, B1.out⟩
set_option maxRecDepth 100000 in
set_option maxHeartbeats 8000000 in
theorem invertsp_big1 (w : World) (hG : GMp w) (hS : GSqp w) (hH : GShp w) (hQ : GQp w) (hU : GUp w) (A0 : Option Addr) (L0 c0 : Nat) (bs0 : List Int) (A1 : Option Addr) (L1 c1 : Nat) (bs1 : List Int) (hr0 : Reads w w.heap.size A0 L0 (bs0.map (Value.int .u8))) (ho0 : Oct bs0) (hr1 : Reads w w.heap.size A1 L1 (bs1.map (Value.int .u8))) (ho1 : Oct bs1) (h0 : L0 ≤ 400) (h1 : 400 < L1) :
    Calls Tryd.prog 6 #[.slice A0 L0 c0, .slice A1 L1 c1] w fun e w' => e = .returned (.bool true) ∧ Below w.heap.size w w' := by
  have HG := Lib.hid hG
  have HS := Lib.hid hS
  have HH := Lib.hid hH
  have HQ := Lib.hid hQ
  have HU := Lib.hid hU
  have HR0 := Lib.hid hr0
  have HO0 := Lib.hid ho0
  have HL0 := Lib.hid (show bs0.length = L0 by simpa using hr0.1)
  obtain ⟨X0, hX0⟩ : ∃ X, X = num bs0 := ⟨_, rfl⟩
  have HR1 := Lib.hid hr1
  have HO1 := Lib.hid ho1
  have HL1 := Lib.hid (show bs1.length = L1 by simpa using hr1.1)
  obtain ⟨X1, hX1⟩ : ∃ X, X = num bs1 := ⟨_, rfl⟩
  clear HR0 HR1 HO0 HO1 HL0 HL1 hX0 hX1 hr0 hr1 ho0 ho1 HH hH hQ hU
  clear hG hS
  have B0 : Hid (Below w.heap.size w w) := Lib.hid (Below.refl _ _)
  go_enter Tryd.func6, Tryd.ntmps6
  go_wp2_with fail
  refine (fp_head _ (HG.out.keep B0.out) (HS.out.keep B0.out) (HQ.out.keep B0.out) (HU.out.keep B0.out)).mono ?_
  rintro e w1 ⟨rfl, hb⟩
  have B1 := Lib.hid (B0.out.trans (hb.mono B0.out.size))
  clear hb B0 
  go_wp2_with fail
  go_ret
  exact ⟨rfl, B1.out⟩
theorem invertsp_any (w : World) (hG : GMp w) (hS : GSqp w) (hH : GShp w) (hQ : GQp w) (hU : GUp w) (A0 : Option Addr) (L0 c0 : Nat) (bs0 : List Int) (A1 : Option Addr) (L1 c1 : Nat) (bs1 : List Int) (hr0 : Reads w w.heap.size A0 L0 (bs0.map (Value.int .u8))) (ho0 : Oct bs0) (hr1 : Reads w w.heap.size A1 L1 (bs1.map (Value.int .u8))) (ho1 : Oct bs1) :
    Calls Tryd.prog 6 #[.slice A0 L0 c0, .slice A1 L1 c1] w fun e w' => e = .returned (.bool true) ∧ Below w.heap.size w w' := by
  rcases Nat.lt_or_ge 400 L0 with h0 | h0
  · exact invertsp_big0 w hG hS hH hQ hU A0 L0 c0 bs0 A1 L1 c1 bs1 hr0 ho0 hr1 ho1 h0
  rcases Nat.lt_or_ge 400 L1 with h1 | h1
  · exact invertsp_big1 w hG hS hH hQ hU A0 L0 c0 bs0 A1 L1 c1 bs1 hr0 ho0 hr1 ho1 h0 h1
  by_cases hx : num bs0 % Mp = 0
  · exact invertsp_n w hG hS hH hQ hU A0 L0 c0 bs0 A1 L1 c1 bs1 hr0 ho0 hr1 ho1 h0 h1 hx
  by_cases hy : num bs1 % Mp = 0
  · exact invertsp_yn w hG hS hH hQ hU A0 L0 c0 bs0 A1 L1 c1 bs1 hr0 ho0 hr1 ho1 h0 h1 hx hy
  · exact invertsp_yy w hG hS hH hQ hU A0 L0 c0 bs0 A1 L1 c1 bs1 hr0 ho0 hr1 ho1 h0 h1 hx hy
end Go.Proofs.YtlbmohofdgooaaaDoor
