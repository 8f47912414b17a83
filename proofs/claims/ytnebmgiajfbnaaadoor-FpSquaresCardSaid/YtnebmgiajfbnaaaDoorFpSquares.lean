/-
  FpSquares: the walk.
-/
import Derived.Test.YtnebmgiajfbnaaaDoorA1b
namespace Go.Proofs.YtnebmgiajfbnaaaDoor
open Go.RowKit
set_option maxRecDepth 100000 in
set_option maxHeartbeats 8000000 in
theorem squaresp_n (w : World) (hG : GM0 w) (hS : GSqp w) (hH : GShp w) (hQ : GQp w) (hU : GUp w) (A0 : Option Addr) (L0 c0 : Nat) (bs0 : List Int) (hr0 : Reads w w.heap.size A0 L0 (bs0.map (Value.int .u8))) (ho0 : Oct bs0) (h0 : L0 ≤ 400) (hx : num bs0 % Mp = 0) :
    Calls Tryd.prog 3 #[.slice A0 L0 c0] w fun e w' => e = .returned (.bool true) ∧ Below w.heap.size w w' := by
  have HG := Lib.hid hG
  have HS := Lib.hid hS
  have HH := Lib.hid hH
  have HQ := Lib.hid hQ
  have HU := Lib.hid hU
  have HR0 := Lib.hid hr0
  have HO0 := Lib.hid ho0
  have HL0 := Lib.hid (show bs0.length = L0 by simpa using hr0.1)
  obtain ⟨X0, hX0⟩ : ∃ X, X = num bs0 := ⟨_, rfl⟩
  rw [← hX0] at hx
  obtain ⟨R, hR⟩ : ∃ R, R = (X0 * X0) ^ Qp := ⟨_, rfl⟩
  obtain ⟨A, hA⟩ : ∃ R, R = X0 ^ Qp := ⟨_, rfl⟩
  obtain ⟨N, hN⟩ : ∃ N, N = -X0 := ⟨_, rfl⟩
  have hn : N % Mp = 0 := by rw [hN]; exact Int.emod_eq_zero_of_dvd (Int.dvd_neg.2 (Int.dvd_of_emod_eq_zero hx))
  obtain ⟨B, hB⟩ : ∃ R, R = N ^ Qp := ⟨_, rfl⟩
  have hsq := square_sq X0
  have hxs := zero_root X0 hx
  have hns := zero_root N hn
  have hs_sq := fun W a b c => fp_sqrt_yes (X0 * X0) W a b c hsq
  simp only [← hR] at hs_sq
  have S_sq := Lib.hid hs_sq
  clear hs_sq
  have hs_xs := fun W a b c => fp_sqrt_yes (X0) W a b c hxs
  simp only [← hA] at hs_xs
  have S_xs := Lib.hid hs_xs
  clear hs_xs
  have hs_ns := fun W a b c => fp_sqrt_yes (N) W a b c hns
  simp only [← hB] at hs_ns
  have S_ns := Lib.hid hs_ns
  clear hs_ns
  have q1 := pv_same R X0 (by
    rw [hR]
    rcases root_square X0 with h | h
    · exact h
    · rw [h, hx]; rw [hN] at hn; exact hn)
  have hz : decide (X0 % Mp = 0) = true := by simpa using hx
  have ho : decide (X0 % Mp % 2 = 1) = false := by rw [hx]; decide
  have hl : X0 % Mp < Up := by rw [hx]; decide
  have HN := Lib.hid hN
  have HZ := Lib.hid hz
  have HO := Lib.hid ho
  have HLG := Lib.hid hl
  clear hR hA hB hsq hxs hns hn hz ho hl hN hx
  have HX0 := Lib.hid hX0
  clear hX0 hr0 ho0
  clear hG hS hH hQ hU
  have B0 : Hid (Below w.heap.size w w) := Lib.hid (Below.refl _ _)
  go_enter Tryd.func3, Tryd.ntmps3
  go_wp2_with fail
  refine (fp_head _ (HG.out.keep B0.out) (HS.out.keep B0.out) (HQ.out.keep B0.out) (HU.out.keep B0.out)).mono ?_
  rintro e w1 ⟨rfl, hb⟩
  have B1 := Lib.hid (B0.out.trans (hb.mono B0.out.size))
  clear hb B0 
  go_wp2_with fail
  refine (copy_any w1 A0 L0 c0 bs0 ((HR0.out.below B1.out).more B1.out.size) (by omega)).mono ?_
  rintro e w2 ⟨gc0, rfl, -, hBc, hb⟩
  have RC0 := Lib.hid (copy_reads hBc HL0.out)
  have B2 := Lib.hid (B1.out.trans (hb.mono B1.out.size))
  clear hb hBc B1 
  go_wp2_with fail
  refine (fp_wide _ (HG.out.keep B2.out) (HS.out.keep B2.out) (HH.out.keep B2.out) (some ⟨gc0, 0, none⟩) L0 L0 bs0 RC0.out HO0.out (Nat.le_refl _) (by omega)).mono ?_
  rintro e w3 ⟨rfl, hb⟩
  have B3 := Lib.hid (B2.out.trans (hb.mono B2.out.size))
  clear hb B2 
  rw [← HX0.out]
  unfold pv arr6
  go_wp2_with fail
  have B4 := Lib.hid (B3.out.alloc B3.out.size (Obj.cells #[.int .u64 (wd (fe Mp (Wd ^ 6) X0) 0), .int .u64 (wd (fe Mp (Wd ^ 6) X0) 1), .int .u64 (wd (fe Mp (Wd ^ 6) X0) 2), .int .u64 (wd (fe Mp (Wd ^ 6) X0) 3), .int .u64 (wd (fe Mp (Wd ^ 6) X0) 4), .int .u64 (wd (fe Mp (Wd ^ 6) X0) 5)] 27))
  have Kx_4 := Lib.hid (Blk.new w3 27 #[.int .u64 (wd (fe Mp (Wd ^ 6) X0) 0), .int .u64 (wd (fe Mp (Wd ^ 6) X0) 1), .int .u64 (wd (fe Mp (Wd ^ 6) X0) 2), .int .u64 (wd (fe Mp (Wd ^ 6) X0) 3), .int .u64 (wd (fe Mp (Wd ^ 6) X0) 4), .int .u64 (wd (fe Mp (Wd ^ 6) X0) 5)])
  obtain ⟨gx, hgx⟩ : ∃ g, g = w3.heap.size := ⟨_, rfl⟩
  obtain ⟨w4, hw4⟩ : ∃ W, W = w3.alloc (Obj.cells #[.int .u64 (wd (fe Mp (Wd ^ 6) X0) 0), .int .u64 (wd (fe Mp (Wd ^ 6) X0) 1), .int .u64 (wd (fe Mp (Wd ^ 6) X0) 2), .int .u64 (wd (fe Mp (Wd ^ 6) X0) 3), .int .u64 (wd (fe Mp (Wd ^ 6) X0) 4), .int .u64 (wd (fe Mp (Wd ^ 6) X0) 5)] 27) := ⟨_, rfl⟩
  rw [← hgx] at Kx_4
  simp only [← hw4] at B4 Kx_4
  rw [← hw4, ← hgx]
  clear hw4 hgx B3 
  obtain ⟨cx0, cx1, cx2, cx3, cx4, cx5⟩ := cells6 Kx_4.out
  have zx := Kx_4.out.lt
  refine (fp_square X0 _ (HG.out.keep B4.out)).mono ?_
  rintro e w5 ⟨rfl, hb⟩
  clear cx0 cx1 cx2 cx3 cx4 cx5 zx
  have B5 := Lib.hid (B4.out.trans (hb.mono B4.out.size))
  have Kx_5 := Lib.hid (Kx_4.out.keep hb)
  clear hb B4 Kx_4
  obtain ⟨cx0, cx1, cx2, cx3, cx4, cx5⟩ := cells6 Kx_5.out
  have zx := Kx_5.out.lt
  go_wp2_with fail
  refine (S_sq.out _ (HG.out.keep B5.out) (HS.out.keep B5.out) (HQ.out.keep B5.out)).mono ?_
  rintro e w6 ⟨rfl, hb⟩
  clear cx0 cx1 cx2 cx3 cx4 cx5 zx
  have B6 := Lib.hid (B5.out.trans (hb.mono B5.out.size))
  have Kx_6 := Lib.hid (Kx_5.out.keep hb)
  clear hb B5 Kx_5
  obtain ⟨cx0, cx1, cx2, cx3, cx4, cx5⟩ := cells6 Kx_6.out
  have zx := Kx_6.out.lt
  unfold pv arr6
  go_wp2_with fail
  clear cx0 cx1 cx2 cx3 cx4 cx5 zx
  have B7 := Lib.hid (B6.out.alloc B6.out.size (Obj.cells #[.int .u64 (wd (fe Mp (Wd ^ 6) R) 0), .int .u64 (wd (fe Mp (Wd ^ 6) R) 1), .int .u64 (wd (fe Mp (Wd ^ 6) R) 2), .int .u64 (wd (fe Mp (Wd ^ 6) R) 3), .int .u64 (wd (fe Mp (Wd ^ 6) R) 4), .int .u64 (wd (fe Mp (Wd ^ 6) R) 5)] 27))
  have Kx_7 := Lib.hid (Kx_6.out.alloc (Obj.cells #[.int .u64 (wd (fe Mp (Wd ^ 6) R) 0), .int .u64 (wd (fe Mp (Wd ^ 6) R) 1), .int .u64 (wd (fe Mp (Wd ^ 6) R) 2), .int .u64 (wd (fe Mp (Wd ^ 6) R) 3), .int .u64 (wd (fe Mp (Wd ^ 6) R) 4), .int .u64 (wd (fe Mp (Wd ^ 6) R) 5)] 27))
  have Ky_7 := Lib.hid (Blk.new w6 27 #[.int .u64 (wd (fe Mp (Wd ^ 6) R) 0), .int .u64 (wd (fe Mp (Wd ^ 6) R) 1), .int .u64 (wd (fe Mp (Wd ^ 6) R) 2), .int .u64 (wd (fe Mp (Wd ^ 6) R) 3), .int .u64 (wd (fe Mp (Wd ^ 6) R) 4), .int .u64 (wd (fe Mp (Wd ^ 6) R) 5)])
  obtain ⟨gy, hgy⟩ : ∃ g, g = w6.heap.size := ⟨_, rfl⟩
  obtain ⟨w7, hw7⟩ : ∃ W, W = w6.alloc (Obj.cells #[.int .u64 (wd (fe Mp (Wd ^ 6) R) 0), .int .u64 (wd (fe Mp (Wd ^ 6) R) 1), .int .u64 (wd (fe Mp (Wd ^ 6) R) 2), .int .u64 (wd (fe Mp (Wd ^ 6) R) 3), .int .u64 (wd (fe Mp (Wd ^ 6) R) 4), .int .u64 (wd (fe Mp (Wd ^ 6) R) 5)] 27) := ⟨_, rfl⟩
  rw [← hgy] at Ky_7
  simp only [← hw7] at B7 Kx_7 Ky_7
  rw [← hw7, ← hgy]
  clear hw7 hgy B6 Kx_6
  obtain ⟨cx0, cx1, cx2, cx3, cx4, cx5⟩ := cells6 Kx_7.out
  have zx := Kx_7.out.lt
  obtain ⟨cy0, cy1, cy2, cy3, cy4, cy5⟩ := cells6 Ky_7.out
  have zy := Ky_7.out.lt
  go_region
  clear cx0 cx1 cx2 cx3 cx4 cx5 zx cy0 cy1 cy2 cy3 cy4 cy5 zy
  have D7 := hid_drew w7
  have B8 := Lib.hid (B7.out.trans (D7.out.mono B7.out.size))
  have Kx_8 := Lib.hid (Kx_7.out.keep D7.out)
  have Ky_8 := Lib.hid (Ky_7.out.keep D7.out)
  obtain ⟨w8, hw8⟩ : ∃ W, W = w7.drew := ⟨_, rfl⟩
  simp only [← hw8] at B8 Kx_8 Ky_8
  rw [← hw8]
  clear hw8 D7 B7 Kx_7 Ky_7
  obtain ⟨cx0, cx1, cx2, cx3, cx4, cx5⟩ := cells6 Kx_8.out
  have zx := Kx_8.out.lt
  obtain ⟨cy0, cy1, cy2, cy3, cy4, cy5⟩ := cells6 Ky_8.out
  have zy := Ky_8.out.lt
  go_wp2_with fail
  refine (S_xs.out _ (HG.out.keep B8.out) (HS.out.keep B8.out) (HQ.out.keep B8.out)).mono ?_
  rintro e w9 ⟨rfl, hb⟩
  clear cx0 cx1 cx2 cx3 cx4 cx5 zx cy0 cy1 cy2 cy3 cy4 cy5 zy
  have B9 := Lib.hid (B8.out.trans (hb.mono B8.out.size))
  have Kx_9 := Lib.hid (Kx_8.out.keep hb)
  have Ky_9 := Lib.hid (Ky_8.out.keep hb)
  clear hb B8 Kx_8 Ky_8
  obtain ⟨cx0, cx1, cx2, cx3, cx4, cx5⟩ := cells6 Kx_9.out
  have zx := Kx_9.out.lt
  obtain ⟨cy0, cy1, cy2, cy3, cy4, cy5⟩ := cells6 Ky_9.out
  have zy := Ky_9.out.lt
  unfold pv arr6
  go_wp2_with fail
  clear cx0 cx1 cx2 cx3 cx4 cx5 zx cy0 cy1 cy2 cy3 cy4 cy5 zy
  have B10 := Lib.hid (B9.out.alloc B9.out.size (Obj.cells #[.int .u64 (wd (fe Mp (Wd ^ 6) A) 0), .int .u64 (wd (fe Mp (Wd ^ 6) A) 1), .int .u64 (wd (fe Mp (Wd ^ 6) A) 2), .int .u64 (wd (fe Mp (Wd ^ 6) A) 3), .int .u64 (wd (fe Mp (Wd ^ 6) A) 4), .int .u64 (wd (fe Mp (Wd ^ 6) A) 5)] 27))
  have Kx_10 := Lib.hid (Kx_9.out.alloc (Obj.cells #[.int .u64 (wd (fe Mp (Wd ^ 6) A) 0), .int .u64 (wd (fe Mp (Wd ^ 6) A) 1), .int .u64 (wd (fe Mp (Wd ^ 6) A) 2), .int .u64 (wd (fe Mp (Wd ^ 6) A) 3), .int .u64 (wd (fe Mp (Wd ^ 6) A) 4), .int .u64 (wd (fe Mp (Wd ^ 6) A) 5)] 27))
  have Ky_10 := Lib.hid (Ky_9.out.alloc (Obj.cells #[.int .u64 (wd (fe Mp (Wd ^ 6) A) 0), .int .u64 (wd (fe Mp (Wd ^ 6) A) 1), .int .u64 (wd (fe Mp (Wd ^ 6) A) 2), .int .u64 (wd (fe Mp (Wd ^ 6) A) 3), .int .u64 (wd (fe Mp (Wd ^ 6) A) 4), .int .u64 (wd (fe Mp (Wd ^ 6) A) 5)] 27))
  have Ku_10 := Lib.hid (Blk.new w9 27 #[.int .u64 (wd (fe Mp (Wd ^ 6) A) 0), .int .u64 (wd (fe Mp (Wd ^ 6) A) 1), .int .u64 (wd (fe Mp (Wd ^ 6) A) 2), .int .u64 (wd (fe Mp (Wd ^ 6) A) 3), .int .u64 (wd (fe Mp (Wd ^ 6) A) 4), .int .u64 (wd (fe Mp (Wd ^ 6) A) 5)])
  obtain ⟨gu, hgu⟩ : ∃ g, g = w9.heap.size := ⟨_, rfl⟩
  obtain ⟨w10, hw10⟩ : ∃ W, W = w9.alloc (Obj.cells #[.int .u64 (wd (fe Mp (Wd ^ 6) A) 0), .int .u64 (wd (fe Mp (Wd ^ 6) A) 1), .int .u64 (wd (fe Mp (Wd ^ 6) A) 2), .int .u64 (wd (fe Mp (Wd ^ 6) A) 3), .int .u64 (wd (fe Mp (Wd ^ 6) A) 4), .int .u64 (wd (fe Mp (Wd ^ 6) A) 5)] 27) := ⟨_, rfl⟩
  rw [← hgu] at Ku_10
  simp only [← hw10] at B10 Kx_10 Ky_10 Ku_10
  rw [← hw10, ← hgu]
  clear hw10 hgu B9 Kx_9 Ky_9
  obtain ⟨cx0, cx1, cx2, cx3, cx4, cx5⟩ := cells6 Kx_10.out
  have zx := Kx_10.out.lt
  obtain ⟨cy0, cy1, cy2, cy3, cy4, cy5⟩ := cells6 Ky_10.out
  have zy := Ky_10.out.lt
  obtain ⟨cu0, cu1, cu2, cu3, cu4, cu5⟩ := cells6 Ku_10.out
  have zu := Ku_10.out.lt
  refine (fp_neg X0 _ (HG.out.keep B10.out)).mono ?_
  rintro e w11 ⟨rfl, hb⟩
  clear cx0 cx1 cx2 cx3 cx4 cx5 zx cy0 cy1 cy2 cy3 cy4 cy5 zy cu0 cu1 cu2 cu3 cu4 cu5 zu
  have B11 := Lib.hid (B10.out.trans (hb.mono B10.out.size))
  have Kx_11 := Lib.hid (Kx_10.out.keep hb)
  have Ky_11 := Lib.hid (Ky_10.out.keep hb)
  have Ku_11 := Lib.hid (Ku_10.out.keep hb)
  clear hb B10 Kx_10 Ky_10 Ku_10
  obtain ⟨cx0, cx1, cx2, cx3, cx4, cx5⟩ := cells6 Kx_11.out
  have zx := Kx_11.out.lt
  obtain ⟨cy0, cy1, cy2, cy3, cy4, cy5⟩ := cells6 Ky_11.out
  have zy := Ky_11.out.lt
  obtain ⟨cu0, cu1, cu2, cu3, cu4, cu5⟩ := cells6 Ku_11.out
  have zu := Ku_11.out.lt
  rw [← HN.out]
  go_wp2_with fail
  refine (S_ns.out _ (HG.out.keep B11.out) (HS.out.keep B11.out) (HQ.out.keep B11.out)).mono ?_
  rintro e w12 ⟨rfl, hb⟩
  clear cx0 cx1 cx2 cx3 cx4 cx5 zx cy0 cy1 cy2 cy3 cy4 cy5 zy cu0 cu1 cu2 cu3 cu4 cu5 zu
  have B12 := Lib.hid (B11.out.trans (hb.mono B11.out.size))
  have Kx_12 := Lib.hid (Kx_11.out.keep hb)
  have Ky_12 := Lib.hid (Ky_11.out.keep hb)
  have Ku_12 := Lib.hid (Ku_11.out.keep hb)
  clear hb B11 Kx_11 Ky_11 Ku_11
  obtain ⟨cx0, cx1, cx2, cx3, cx4, cx5⟩ := cells6 Kx_12.out
  have zx := Kx_12.out.lt
  obtain ⟨cy0, cy1, cy2, cy3, cy4, cy5⟩ := cells6 Ky_12.out
  have zy := Ky_12.out.lt
  obtain ⟨cu0, cu1, cu2, cu3, cu4, cu5⟩ := cells6 Ku_12.out
  have zu := Ku_12.out.lt
  unfold pv arr6
  go_wp2_with fail
  clear cx0 cx1 cx2 cx3 cx4 cx5 zx cy0 cy1 cy2 cy3 cy4 cy5 zy cu0 cu1 cu2 cu3 cu4 cu5 zu
  have B13 := Lib.hid (B12.out.alloc B12.out.size (Obj.cells #[.int .u64 (wd (fe Mp (Wd ^ 6) B) 0), .int .u64 (wd (fe Mp (Wd ^ 6) B) 1), .int .u64 (wd (fe Mp (Wd ^ 6) B) 2), .int .u64 (wd (fe Mp (Wd ^ 6) B) 3), .int .u64 (wd (fe Mp (Wd ^ 6) B) 4), .int .u64 (wd (fe Mp (Wd ^ 6) B) 5)] 27))
  have Kx_13 := Lib.hid (Kx_12.out.alloc (Obj.cells #[.int .u64 (wd (fe Mp (Wd ^ 6) B) 0), .int .u64 (wd (fe Mp (Wd ^ 6) B) 1), .int .u64 (wd (fe Mp (Wd ^ 6) B) 2), .int .u64 (wd (fe Mp (Wd ^ 6) B) 3), .int .u64 (wd (fe Mp (Wd ^ 6) B) 4), .int .u64 (wd (fe Mp (Wd ^ 6) B) 5)] 27))
  have Ky_13 := Lib.hid (Ky_12.out.alloc (Obj.cells #[.int .u64 (wd (fe Mp (Wd ^ 6) B) 0), .int .u64 (wd (fe Mp (Wd ^ 6) B) 1), .int .u64 (wd (fe Mp (Wd ^ 6) B) 2), .int .u64 (wd (fe Mp (Wd ^ 6) B) 3), .int .u64 (wd (fe Mp (Wd ^ 6) B) 4), .int .u64 (wd (fe Mp (Wd ^ 6) B) 5)] 27))
  have Ku_13 := Lib.hid (Ku_12.out.alloc (Obj.cells #[.int .u64 (wd (fe Mp (Wd ^ 6) B) 0), .int .u64 (wd (fe Mp (Wd ^ 6) B) 1), .int .u64 (wd (fe Mp (Wd ^ 6) B) 2), .int .u64 (wd (fe Mp (Wd ^ 6) B) 3), .int .u64 (wd (fe Mp (Wd ^ 6) B) 4), .int .u64 (wd (fe Mp (Wd ^ 6) B) 5)] 27))
  have Kv_13 := Lib.hid (Blk.new w12 27 #[.int .u64 (wd (fe Mp (Wd ^ 6) B) 0), .int .u64 (wd (fe Mp (Wd ^ 6) B) 1), .int .u64 (wd (fe Mp (Wd ^ 6) B) 2), .int .u64 (wd (fe Mp (Wd ^ 6) B) 3), .int .u64 (wd (fe Mp (Wd ^ 6) B) 4), .int .u64 (wd (fe Mp (Wd ^ 6) B) 5)])
  obtain ⟨gv, hgv⟩ : ∃ g, g = w12.heap.size := ⟨_, rfl⟩
  obtain ⟨w13, hw13⟩ : ∃ W, W = w12.alloc (Obj.cells #[.int .u64 (wd (fe Mp (Wd ^ 6) B) 0), .int .u64 (wd (fe Mp (Wd ^ 6) B) 1), .int .u64 (wd (fe Mp (Wd ^ 6) B) 2), .int .u64 (wd (fe Mp (Wd ^ 6) B) 3), .int .u64 (wd (fe Mp (Wd ^ 6) B) 4), .int .u64 (wd (fe Mp (Wd ^ 6) B) 5)] 27) := ⟨_, rfl⟩
  rw [← hgv] at Kv_13
  simp only [← hw13] at B13 Kx_13 Ky_13 Ku_13 Kv_13
  rw [← hw13, ← hgv]
  clear hw13 hgv B12 Kx_12 Ky_12 Ku_12
  obtain ⟨cx0, cx1, cx2, cx3, cx4, cx5⟩ := cells6 Kx_13.out
  have zx := Kx_13.out.lt
  obtain ⟨cy0, cy1, cy2, cy3, cy4, cy5⟩ := cells6 Ky_13.out
  have zy := Ky_13.out.lt
  obtain ⟨cu0, cu1, cu2, cu3, cu4, cu5⟩ := cells6 Ku_13.out
  have zu := Ku_13.out.lt
  obtain ⟨cv0, cv1, cv2, cv3, cv4, cv5⟩ := cells6 Kv_13.out
  have zv := Kv_13.out.lt
  refine (fp_zero X0 _).mono ?_
  rintro e w14 ⟨rfl, hb⟩
  clear cx0 cx1 cx2 cx3 cx4 cx5 zx cy0 cy1 cy2 cy3 cy4 cy5 zy cu0 cu1 cu2 cu3 cu4 cu5 zu cv0 cv1 cv2 cv3 cv4 cv5 zv
  have B14 := Lib.hid (B13.out.trans (hb.mono B13.out.size))
  have Kx_14 := Lib.hid (Kx_13.out.keep hb)
  have Ky_14 := Lib.hid (Ky_13.out.keep hb)
  have Ku_14 := Lib.hid (Ku_13.out.keep hb)
  have Kv_14 := Lib.hid (Kv_13.out.keep hb)
  clear hb B13 Kx_13 Ky_13 Ku_13 Kv_13
  obtain ⟨cx0, cx1, cx2, cx3, cx4, cx5⟩ := cells6 Kx_14.out
  have zx := Kx_14.out.lt
  obtain ⟨cy0, cy1, cy2, cy3, cy4, cy5⟩ := cells6 Ky_14.out
  have zy := Ky_14.out.lt
  obtain ⟨cu0, cu1, cu2, cu3, cu4, cu5⟩ := cells6 Ku_14.out
  have zu := Ku_14.out.lt
  obtain ⟨cv0, cv1, cv2, cv3, cv4, cv5⟩ := cells6 Kv_14.out
  have zv := Kv_14.out.lt
  rw [HZ.out]
  go_wp2_with fail
  refine (fp_odd X0 _ (HG.out.keep B14.out)).mono ?_
  rintro e w15 ⟨rfl, hb⟩
  clear cx0 cx1 cx2 cx3 cx4 cx5 zx cy0 cy1 cy2 cy3 cy4 cy5 zy cu0 cu1 cu2 cu3 cu4 cu5 zu cv0 cv1 cv2 cv3 cv4 cv5 zv
  have B15 := Lib.hid (B14.out.trans (hb.mono B14.out.size))
  have Kx_15 := Lib.hid (Kx_14.out.keep hb)
  have Ky_15 := Lib.hid (Ky_14.out.keep hb)
  have Ku_15 := Lib.hid (Ku_14.out.keep hb)
  have Kv_15 := Lib.hid (Kv_14.out.keep hb)
  clear hb B14 Kx_14 Ky_14 Ku_14 Kv_14
  obtain ⟨cx0, cx1, cx2, cx3, cx4, cx5⟩ := cells6 Kx_15.out
  have zx := Kx_15.out.lt
  obtain ⟨cy0, cy1, cy2, cy3, cy4, cy5⟩ := cells6 Ky_15.out
  have zy := Ky_15.out.lt
  obtain ⟨cu0, cu1, cu2, cu3, cu4, cu5⟩ := cells6 Ku_15.out
  have zu := Ku_15.out.lt
  obtain ⟨cv0, cv1, cv2, cv3, cv4, cv5⟩ := cells6 Kv_15.out
  have zv := Kv_15.out.lt
  rw [HO.out]
  go_wp2_with fail
  refine (fp_large_lt X0 _ (HG.out.keep B15.out) (HU.out.keep B15.out) HLG.out).mono ?_
  rintro e w16 ⟨rfl, hb⟩
  clear cx0 cx1 cx2 cx3 cx4 cx5 zx cy0 cy1 cy2 cy3 cy4 cy5 zy cu0 cu1 cu2 cu3 cu4 cu5 zu cv0 cv1 cv2 cv3 cv4 cv5 zv
  have B16 := Lib.hid (B15.out.trans (hb.mono B15.out.size))
  have Kx_16 := Lib.hid (Kx_15.out.keep hb)
  have Ky_16 := Lib.hid (Ky_15.out.keep hb)
  have Ku_16 := Lib.hid (Ku_15.out.keep hb)
  have Kv_16 := Lib.hid (Kv_15.out.keep hb)
  clear hb B15 Kx_15 Ky_15 Ku_15 Kv_15
  obtain ⟨cx0, cx1, cx2, cx3, cx4, cx5⟩ := cells6 Kx_16.out
  have zx := Kx_16.out.lt
  obtain ⟨cy0, cy1, cy2, cy3, cy4, cy5⟩ := cells6 Ky_16.out
  have zy := Ky_16.out.lt
  obtain ⟨cu0, cu1, cu2, cu3, cu4, cu5⟩ := cells6 Ku_16.out
  have zu := Ku_16.out.lt
  obtain ⟨cv0, cv1, cv2, cv3, cv4, cv5⟩ := cells6 Kv_16.out
  have zv := Kv_16.out.lt
  go_wp2_with fail
  go_ret
  exact ⟨rfl, B16.out⟩
set_option maxRecDepth 100000 in
set_option maxHeartbeats 8000000 in
theorem squaresp_ps (w : World) (hG : GM0 w) (hS : GSqp w) (hH : GShp w) (hQ : GQp w) (hU : GUp w) (A0 : Option Addr) (L0 c0 : Nat) (bs0 : List Int) (hr0 : Reads w w.heap.size A0 L0 (bs0.map (Value.int .u8))) (ho0 : Oct bs0) (h0 : L0 ≤ 400) (hx : ¬ num bs0 % Mp = 0) (hr : (num bs0 * num bs0) ^ Qp % Mp = num bs0 % Mp) (hxs : num bs0 ^ Qp * num bs0 ^ Qp % Mp = num bs0 % Mp) :
    Calls Tryd.prog 3 #[.slice A0 L0 c0] w fun e w' => e = .returned (.bool true) ∧ Below w.heap.size w w' := by
  have HG := Lib.hid hG
  have HS := Lib.hid hS
  have HH := Lib.hid hH
  have HQ := Lib.hid hQ
  have HU := Lib.hid hU
  have HR0 := Lib.hid hr0
  have HO0 := Lib.hid ho0
  have HL0 := Lib.hid (show bs0.length = L0 by simpa using hr0.1)
  obtain ⟨X0, hX0⟩ : ∃ X, X = num bs0 := ⟨_, rfl⟩
  rw [← hX0] at hx hr hxs
  obtain ⟨N, hN⟩ : ∃ N, N = -X0 := ⟨_, rfl⟩
  have hnsq := neg_sq X0 hx
  have hrt := root_square X0
  have hod := odd_neg X0 hx
  have hla := large_neg X0 hx
  rw [← hN] at hnsq hrt hod hla
  obtain ⟨R, hR⟩ : ∃ R, R = (X0 * X0) ^ Qp := ⟨_, rfl⟩
  obtain ⟨A, hA⟩ : ∃ R, R = X0 ^ Qp := ⟨_, rfl⟩
  obtain ⟨B, hB⟩ : ∃ R, R = N ^ Qp := ⟨_, rfl⟩
  have hsq := square_sq X0
  have hns : ¬ N ^ Qp * N ^ Qp % Mp = N % Mp := fun h => hnsq.1 h hxs
  have hs_sq := fun W a b c => fp_sqrt_yes (X0 * X0) W a b c hsq
  simp only [← hR] at hs_sq
  have S_sq := Lib.hid hs_sq
  clear hs_sq
  have hs_xs := fun W a b c => fp_sqrt_yes (X0) W a b c hxs
  simp only [← hA] at hs_xs
  have S_xs := Lib.hid hs_xs
  clear hs_xs
  have hs_ns := fun W a b c => fp_sqrt_no (N) W a b c hns
  simp only [pv_zero] at hs_ns
  have S_ns := Lib.hid hs_ns
  clear hs_ns
  rw [← hR] at hr hrt
  have q1 := pv_same R X0 hr
  have hz : decide (X0 % Mp = 0) = false := by simpa using hx
  have HN := Lib.hid hN
  have HZ := Lib.hid hz
  have HOD := Lib.hid hod
  have HLA := Lib.hid hla
  clear hR hA hB hsq hxs hns hnsq hrt hr hz hod hla hN hx
  have HX0 := Lib.hid hX0
  clear hX0 hr0 ho0
  clear hG hS hH hQ hU
  have B0 : Hid (Below w.heap.size w w) := Lib.hid (Below.refl _ _)
  go_enter Tryd.func3, Tryd.ntmps3
  go_wp2_with fail
  refine (fp_head _ (HG.out.keep B0.out) (HS.out.keep B0.out) (HQ.out.keep B0.out) (HU.out.keep B0.out)).mono ?_
  rintro e w1 ⟨rfl, hb⟩
  have B1 := Lib.hid (B0.out.trans (hb.mono B0.out.size))
  clear hb B0 
  go_wp2_with fail
  refine (copy_any w1 A0 L0 c0 bs0 ((HR0.out.below B1.out).more B1.out.size) (by omega)).mono ?_
  rintro e w2 ⟨gc0, rfl, -, hBc, hb⟩
  have RC0 := Lib.hid (copy_reads hBc HL0.out)
  have B2 := Lib.hid (B1.out.trans (hb.mono B1.out.size))
  clear hb hBc B1 
  go_wp2_with fail
  refine (fp_wide _ (HG.out.keep B2.out) (HS.out.keep B2.out) (HH.out.keep B2.out) (some ⟨gc0, 0, none⟩) L0 L0 bs0 RC0.out HO0.out (Nat.le_refl _) (by omega)).mono ?_
  rintro e w3 ⟨rfl, hb⟩
  have B3 := Lib.hid (B2.out.trans (hb.mono B2.out.size))
  clear hb B2 
  rw [← HX0.out]
  unfold pv arr6
  go_wp2_with fail
  have B4 := Lib.hid (B3.out.alloc B3.out.size (Obj.cells #[.int .u64 (wd (fe Mp (Wd ^ 6) X0) 0), .int .u64 (wd (fe Mp (Wd ^ 6) X0) 1), .int .u64 (wd (fe Mp (Wd ^ 6) X0) 2), .int .u64 (wd (fe Mp (Wd ^ 6) X0) 3), .int .u64 (wd (fe Mp (Wd ^ 6) X0) 4), .int .u64 (wd (fe Mp (Wd ^ 6) X0) 5)] 27))
  have Kx_4 := Lib.hid (Blk.new w3 27 #[.int .u64 (wd (fe Mp (Wd ^ 6) X0) 0), .int .u64 (wd (fe Mp (Wd ^ 6) X0) 1), .int .u64 (wd (fe Mp (Wd ^ 6) X0) 2), .int .u64 (wd (fe Mp (Wd ^ 6) X0) 3), .int .u64 (wd (fe Mp (Wd ^ 6) X0) 4), .int .u64 (wd (fe Mp (Wd ^ 6) X0) 5)])
  obtain ⟨gx, hgx⟩ : ∃ g, g = w3.heap.size := ⟨_, rfl⟩
  obtain ⟨w4, hw4⟩ : ∃ W, W = w3.alloc (Obj.cells #[.int .u64 (wd (fe Mp (Wd ^ 6) X0) 0), .int .u64 (wd (fe Mp (Wd ^ 6) X0) 1), .int .u64 (wd (fe Mp (Wd ^ 6) X0) 2), .int .u64 (wd (fe Mp (Wd ^ 6) X0) 3), .int .u64 (wd (fe Mp (Wd ^ 6) X0) 4), .int .u64 (wd (fe Mp (Wd ^ 6) X0) 5)] 27) := ⟨_, rfl⟩
  rw [← hgx] at Kx_4
  simp only [← hw4] at B4 Kx_4
  rw [← hw4, ← hgx]
  clear hw4 hgx B3 
  obtain ⟨cx0, cx1, cx2, cx3, cx4, cx5⟩ := cells6 Kx_4.out
  have zx := Kx_4.out.lt
  refine (fp_square X0 _ (HG.out.keep B4.out)).mono ?_
  rintro e w5 ⟨rfl, hb⟩
  clear cx0 cx1 cx2 cx3 cx4 cx5 zx
  have B5 := Lib.hid (B4.out.trans (hb.mono B4.out.size))
  have Kx_5 := Lib.hid (Kx_4.out.keep hb)
  clear hb B4 Kx_4
  obtain ⟨cx0, cx1, cx2, cx3, cx4, cx5⟩ := cells6 Kx_5.out
  have zx := Kx_5.out.lt
  go_wp2_with fail
  refine (S_sq.out _ (HG.out.keep B5.out) (HS.out.keep B5.out) (HQ.out.keep B5.out)).mono ?_
  rintro e w6 ⟨rfl, hb⟩
  clear cx0 cx1 cx2 cx3 cx4 cx5 zx
  have B6 := Lib.hid (B5.out.trans (hb.mono B5.out.size))
  have Kx_6 := Lib.hid (Kx_5.out.keep hb)
  clear hb B5 Kx_5
  obtain ⟨cx0, cx1, cx2, cx3, cx4, cx5⟩ := cells6 Kx_6.out
  have zx := Kx_6.out.lt
  unfold pv arr6
  go_wp2_with fail
  clear cx0 cx1 cx2 cx3 cx4 cx5 zx
  have B7 := Lib.hid (B6.out.alloc B6.out.size (Obj.cells #[.int .u64 (wd (fe Mp (Wd ^ 6) R) 0), .int .u64 (wd (fe Mp (Wd ^ 6) R) 1), .int .u64 (wd (fe Mp (Wd ^ 6) R) 2), .int .u64 (wd (fe Mp (Wd ^ 6) R) 3), .int .u64 (wd (fe Mp (Wd ^ 6) R) 4), .int .u64 (wd (fe Mp (Wd ^ 6) R) 5)] 27))
  have Kx_7 := Lib.hid (Kx_6.out.alloc (Obj.cells #[.int .u64 (wd (fe Mp (Wd ^ 6) R) 0), .int .u64 (wd (fe Mp (Wd ^ 6) R) 1), .int .u64 (wd (fe Mp (Wd ^ 6) R) 2), .int .u64 (wd (fe Mp (Wd ^ 6) R) 3), .int .u64 (wd (fe Mp (Wd ^ 6) R) 4), .int .u64 (wd (fe Mp (Wd ^ 6) R) 5)] 27))
  have Ky_7 := Lib.hid (Blk.new w6 27 #[.int .u64 (wd (fe Mp (Wd ^ 6) R) 0), .int .u64 (wd (fe Mp (Wd ^ 6) R) 1), .int .u64 (wd (fe Mp (Wd ^ 6) R) 2), .int .u64 (wd (fe Mp (Wd ^ 6) R) 3), .int .u64 (wd (fe Mp (Wd ^ 6) R) 4), .int .u64 (wd (fe Mp (Wd ^ 6) R) 5)])
  obtain ⟨gy, hgy⟩ : ∃ g, g = w6.heap.size := ⟨_, rfl⟩
  obtain ⟨w7, hw7⟩ : ∃ W, W = w6.alloc (Obj.cells #[.int .u64 (wd (fe Mp (Wd ^ 6) R) 0), .int .u64 (wd (fe Mp (Wd ^ 6) R) 1), .int .u64 (wd (fe Mp (Wd ^ 6) R) 2), .int .u64 (wd (fe Mp (Wd ^ 6) R) 3), .int .u64 (wd (fe Mp (Wd ^ 6) R) 4), .int .u64 (wd (fe Mp (Wd ^ 6) R) 5)] 27) := ⟨_, rfl⟩
  rw [← hgy] at Ky_7
  simp only [← hw7] at B7 Kx_7 Ky_7
  rw [← hw7, ← hgy]
  clear hw7 hgy B6 Kx_6
  obtain ⟨cx0, cx1, cx2, cx3, cx4, cx5⟩ := cells6 Kx_7.out
  have zx := Kx_7.out.lt
  obtain ⟨cy0, cy1, cy2, cy3, cy4, cy5⟩ := cells6 Ky_7.out
  have zy := Ky_7.out.lt
  go_region
  clear cx0 cx1 cx2 cx3 cx4 cx5 zx cy0 cy1 cy2 cy3 cy4 cy5 zy
  have D7 := hid_drew w7
  have B8 := Lib.hid (B7.out.trans (D7.out.mono B7.out.size))
  have Kx_8 := Lib.hid (Kx_7.out.keep D7.out)
  have Ky_8 := Lib.hid (Ky_7.out.keep D7.out)
  obtain ⟨w8, hw8⟩ : ∃ W, W = w7.drew := ⟨_, rfl⟩
  simp only [← hw8] at B8 Kx_8 Ky_8
  rw [← hw8]
  clear hw8 D7 B7 Kx_7 Ky_7
  obtain ⟨cx0, cx1, cx2, cx3, cx4, cx5⟩ := cells6 Kx_8.out
  have zx := Kx_8.out.lt
  obtain ⟨cy0, cy1, cy2, cy3, cy4, cy5⟩ := cells6 Ky_8.out
  have zy := Ky_8.out.lt
  go_wp2_with fail
  refine (S_xs.out _ (HG.out.keep B8.out) (HS.out.keep B8.out) (HQ.out.keep B8.out)).mono ?_
  rintro e w9 ⟨rfl, hb⟩
  clear cx0 cx1 cx2 cx3 cx4 cx5 zx cy0 cy1 cy2 cy3 cy4 cy5 zy
  have B9 := Lib.hid (B8.out.trans (hb.mono B8.out.size))
  have Kx_9 := Lib.hid (Kx_8.out.keep hb)
  have Ky_9 := Lib.hid (Ky_8.out.keep hb)
  clear hb B8 Kx_8 Ky_8
  obtain ⟨cx0, cx1, cx2, cx3, cx4, cx5⟩ := cells6 Kx_9.out
  have zx := Kx_9.out.lt
  obtain ⟨cy0, cy1, cy2, cy3, cy4, cy5⟩ := cells6 Ky_9.out
  have zy := Ky_9.out.lt
  unfold pv arr6
  go_wp2_with fail
  clear cx0 cx1 cx2 cx3 cx4 cx5 zx cy0 cy1 cy2 cy3 cy4 cy5 zy
  have B10 := Lib.hid (B9.out.alloc B9.out.size (Obj.cells #[.int .u64 (wd (fe Mp (Wd ^ 6) A) 0), .int .u64 (wd (fe Mp (Wd ^ 6) A) 1), .int .u64 (wd (fe Mp (Wd ^ 6) A) 2), .int .u64 (wd (fe Mp (Wd ^ 6) A) 3), .int .u64 (wd (fe Mp (Wd ^ 6) A) 4), .int .u64 (wd (fe Mp (Wd ^ 6) A) 5)] 27))
  have Kx_10 := Lib.hid (Kx_9.out.alloc (Obj.cells #[.int .u64 (wd (fe Mp (Wd ^ 6) A) 0), .int .u64 (wd (fe Mp (Wd ^ 6) A) 1), .int .u64 (wd (fe Mp (Wd ^ 6) A) 2), .int .u64 (wd (fe Mp (Wd ^ 6) A) 3), .int .u64 (wd (fe Mp (Wd ^ 6) A) 4), .int .u64 (wd (fe Mp (Wd ^ 6) A) 5)] 27))
  have Ky_10 := Lib.hid (Ky_9.out.alloc (Obj.cells #[.int .u64 (wd (fe Mp (Wd ^ 6) A) 0), .int .u64 (wd (fe Mp (Wd ^ 6) A) 1), .int .u64 (wd (fe Mp (Wd ^ 6) A) 2), .int .u64 (wd (fe Mp (Wd ^ 6) A) 3), .int .u64 (wd (fe Mp (Wd ^ 6) A) 4), .int .u64 (wd (fe Mp (Wd ^ 6) A) 5)] 27))
  have Ku_10 := Lib.hid (Blk.new w9 27 #[.int .u64 (wd (fe Mp (Wd ^ 6) A) 0), .int .u64 (wd (fe Mp (Wd ^ 6) A) 1), .int .u64 (wd (fe Mp (Wd ^ 6) A) 2), .int .u64 (wd (fe Mp (Wd ^ 6) A) 3), .int .u64 (wd (fe Mp (Wd ^ 6) A) 4), .int .u64 (wd (fe Mp (Wd ^ 6) A) 5)])
  obtain ⟨gu, hgu⟩ : ∃ g, g = w9.heap.size := ⟨_, rfl⟩
  obtain ⟨w10, hw10⟩ : ∃ W, W = w9.alloc (Obj.cells #[.int .u64 (wd (fe Mp (Wd ^ 6) A) 0), .int .u64 (wd (fe Mp (Wd ^ 6) A) 1), .int .u64 (wd (fe Mp (Wd ^ 6) A) 2), .int .u64 (wd (fe Mp (Wd ^ 6) A) 3), .int .u64 (wd (fe Mp (Wd ^ 6) A) 4), .int .u64 (wd (fe Mp (Wd ^ 6) A) 5)] 27) := ⟨_, rfl⟩
  rw [← hgu] at Ku_10
  simp only [← hw10] at B10 Kx_10 Ky_10 Ku_10
  rw [← hw10, ← hgu]
  clear hw10 hgu B9 Kx_9 Ky_9
  obtain ⟨cx0, cx1, cx2, cx3, cx4, cx5⟩ := cells6 Kx_10.out
  have zx := Kx_10.out.lt
  obtain ⟨cy0, cy1, cy2, cy3, cy4, cy5⟩ := cells6 Ky_10.out
  have zy := Ky_10.out.lt
  obtain ⟨cu0, cu1, cu2, cu3, cu4, cu5⟩ := cells6 Ku_10.out
  have zu := Ku_10.out.lt
  refine (fp_neg X0 _ (HG.out.keep B10.out)).mono ?_
  rintro e w11 ⟨rfl, hb⟩
  clear cx0 cx1 cx2 cx3 cx4 cx5 zx cy0 cy1 cy2 cy3 cy4 cy5 zy cu0 cu1 cu2 cu3 cu4 cu5 zu
  have B11 := Lib.hid (B10.out.trans (hb.mono B10.out.size))
  have Kx_11 := Lib.hid (Kx_10.out.keep hb)
  have Ky_11 := Lib.hid (Ky_10.out.keep hb)
  have Ku_11 := Lib.hid (Ku_10.out.keep hb)
  clear hb B10 Kx_10 Ky_10 Ku_10
  obtain ⟨cx0, cx1, cx2, cx3, cx4, cx5⟩ := cells6 Kx_11.out
  have zx := Kx_11.out.lt
  obtain ⟨cy0, cy1, cy2, cy3, cy4, cy5⟩ := cells6 Ky_11.out
  have zy := Ky_11.out.lt
  obtain ⟨cu0, cu1, cu2, cu3, cu4, cu5⟩ := cells6 Ku_11.out
  have zu := Ku_11.out.lt
  rw [← HN.out]
  go_wp2_with fail
  refine (S_ns.out _ (HG.out.keep B11.out) (HS.out.keep B11.out) (HQ.out.keep B11.out)).mono ?_
  rintro e w12 ⟨rfl, hb⟩
  clear cx0 cx1 cx2 cx3 cx4 cx5 zx cy0 cy1 cy2 cy3 cy4 cy5 zy cu0 cu1 cu2 cu3 cu4 cu5 zu
  have B12 := Lib.hid (B11.out.trans (hb.mono B11.out.size))
  have Kx_12 := Lib.hid (Kx_11.out.keep hb)
  have Ky_12 := Lib.hid (Ky_11.out.keep hb)
  have Ku_12 := Lib.hid (Ku_11.out.keep hb)
  clear hb B11 Kx_11 Ky_11 Ku_11
  obtain ⟨cx0, cx1, cx2, cx3, cx4, cx5⟩ := cells6 Kx_12.out
  have zx := Kx_12.out.lt
  obtain ⟨cy0, cy1, cy2, cy3, cy4, cy5⟩ := cells6 Ky_12.out
  have zy := Ky_12.out.lt
  obtain ⟨cu0, cu1, cu2, cu3, cu4, cu5⟩ := cells6 Ku_12.out
  have zu := Ku_12.out.lt
  unfold pv arr6
  go_wp2_with fail
  clear cx0 cx1 cx2 cx3 cx4 cx5 zx cy0 cy1 cy2 cy3 cy4 cy5 zy cu0 cu1 cu2 cu3 cu4 cu5 zu
  have B13 := Lib.hid (B12.out.alloc B12.out.size (Obj.cells #[.int .u64 (wd (fe Mp (Wd ^ 6) 0) 0), .int .u64 (wd (fe Mp (Wd ^ 6) 0) 1), .int .u64 (wd (fe Mp (Wd ^ 6) 0) 2), .int .u64 (wd (fe Mp (Wd ^ 6) 0) 3), .int .u64 (wd (fe Mp (Wd ^ 6) 0) 4), .int .u64 (wd (fe Mp (Wd ^ 6) 0) 5)] 27))
  have Kx_13 := Lib.hid (Kx_12.out.alloc (Obj.cells #[.int .u64 (wd (fe Mp (Wd ^ 6) 0) 0), .int .u64 (wd (fe Mp (Wd ^ 6) 0) 1), .int .u64 (wd (fe Mp (Wd ^ 6) 0) 2), .int .u64 (wd (fe Mp (Wd ^ 6) 0) 3), .int .u64 (wd (fe Mp (Wd ^ 6) 0) 4), .int .u64 (wd (fe Mp (Wd ^ 6) 0) 5)] 27))
  have Ky_13 := Lib.hid (Ky_12.out.alloc (Obj.cells #[.int .u64 (wd (fe Mp (Wd ^ 6) 0) 0), .int .u64 (wd (fe Mp (Wd ^ 6) 0) 1), .int .u64 (wd (fe Mp (Wd ^ 6) 0) 2), .int .u64 (wd (fe Mp (Wd ^ 6) 0) 3), .int .u64 (wd (fe Mp (Wd ^ 6) 0) 4), .int .u64 (wd (fe Mp (Wd ^ 6) 0) 5)] 27))
  have Ku_13 := Lib.hid (Ku_12.out.alloc (Obj.cells #[.int .u64 (wd (fe Mp (Wd ^ 6) 0) 0), .int .u64 (wd (fe Mp (Wd ^ 6) 0) 1), .int .u64 (wd (fe Mp (Wd ^ 6) 0) 2), .int .u64 (wd (fe Mp (Wd ^ 6) 0) 3), .int .u64 (wd (fe Mp (Wd ^ 6) 0) 4), .int .u64 (wd (fe Mp (Wd ^ 6) 0) 5)] 27))
  have Kv_13 := Lib.hid (Blk.new w12 27 #[.int .u64 (wd (fe Mp (Wd ^ 6) 0) 0), .int .u64 (wd (fe Mp (Wd ^ 6) 0) 1), .int .u64 (wd (fe Mp (Wd ^ 6) 0) 2), .int .u64 (wd (fe Mp (Wd ^ 6) 0) 3), .int .u64 (wd (fe Mp (Wd ^ 6) 0) 4), .int .u64 (wd (fe Mp (Wd ^ 6) 0) 5)])
  obtain ⟨gv, hgv⟩ : ∃ g, g = w12.heap.size := ⟨_, rfl⟩
  obtain ⟨w13, hw13⟩ : ∃ W, W = w12.alloc (Obj.cells #[.int .u64 (wd (fe Mp (Wd ^ 6) 0) 0), .int .u64 (wd (fe Mp (Wd ^ 6) 0) 1), .int .u64 (wd (fe Mp (Wd ^ 6) 0) 2), .int .u64 (wd (fe Mp (Wd ^ 6) 0) 3), .int .u64 (wd (fe Mp (Wd ^ 6) 0) 4), .int .u64 (wd (fe Mp (Wd ^ 6) 0) 5)] 27) := ⟨_, rfl⟩
  rw [← hgv] at Kv_13
  simp only [← hw13] at B13 Kx_13 Ky_13 Ku_13 Kv_13
  rw [← hw13, ← hgv]
  clear hw13 hgv B12 Kx_12 Ky_12 Ku_12
  obtain ⟨cx0, cx1, cx2, cx3, cx4, cx5⟩ := cells6 Kx_13.out
  have zx := Kx_13.out.lt
  obtain ⟨cy0, cy1, cy2, cy3, cy4, cy5⟩ := cells6 Ky_13.out
  have zy := Ky_13.out.lt
  obtain ⟨cu0, cu1, cu2, cu3, cu4, cu5⟩ := cells6 Ku_13.out
  have zu := Ku_13.out.lt
  obtain ⟨cv0, cv1, cv2, cv3, cv4, cv5⟩ := cells6 Kv_13.out
  have zv := Kv_13.out.lt
  refine (fp_zero X0 _).mono ?_
  rintro e w14 ⟨rfl, hb⟩
  clear cx0 cx1 cx2 cx3 cx4 cx5 zx cy0 cy1 cy2 cy3 cy4 cy5 zy cu0 cu1 cu2 cu3 cu4 cu5 zu cv0 cv1 cv2 cv3 cv4 cv5 zv
  have B14 := Lib.hid (B13.out.trans (hb.mono B13.out.size))
  have Kx_14 := Lib.hid (Kx_13.out.keep hb)
  have Ky_14 := Lib.hid (Ky_13.out.keep hb)
  have Ku_14 := Lib.hid (Ku_13.out.keep hb)
  have Kv_14 := Lib.hid (Kv_13.out.keep hb)
  clear hb B13 Kx_13 Ky_13 Ku_13 Kv_13
  obtain ⟨cx0, cx1, cx2, cx3, cx4, cx5⟩ := cells6 Kx_14.out
  have zx := Kx_14.out.lt
  obtain ⟨cy0, cy1, cy2, cy3, cy4, cy5⟩ := cells6 Ky_14.out
  have zy := Ky_14.out.lt
  obtain ⟨cu0, cu1, cu2, cu3, cu4, cu5⟩ := cells6 Ku_14.out
  have zu := Ku_14.out.lt
  obtain ⟨cv0, cv1, cv2, cv3, cv4, cv5⟩ := cells6 Kv_14.out
  have zv := Kv_14.out.lt
  rw [HZ.out]
  go_wp2_with fail
  by_cases ho : X0 % Mp % 2 = 1
  · have hn : ¬ N % Mp % 2 = 1 := fun h => HOD.out.1 h ho
    have O1 := Lib.hid (show decide (X0 % Mp % 2 = 1) = true by simpa using ho)
    have O2 := Lib.hid (show decide (N % Mp % 2 = 1) = false by simpa using hn)
    clear ho hn
    by_cases hl : X0 % Mp < Up
    · have hm : Up ≤ N % Mp := HLA.out.2 hl
      have M1 := Lib.hid hl
      have M2 := Lib.hid hm
      clear hm
      clear hl
      have GV1 := Lib.hid (HG.out.keep B14.out)
      have UV1 := Lib.hid (HU.out.keep B14.out)
      have h1_0 := based_oddp w14 GV1.out (X0)
      rw [O1.out] at h1_0
      unfold pv arr6 at h1_0
      have A1_0 := Lib.hid h1_0
      clear h1_0
      have h1_1 := based_negp w14 GV1.out (X0)
      rw [← HN.out] at h1_1
      unfold pv arr6 at h1_1
      have A1_1 := Lib.hid h1_1
      clear h1_1
      have h1_2 := based_oddp w14 GV1.out (N)
      rw [O2.out] at h1_2
      unfold pv arr6 at h1_2
      have A1_2 := Lib.hid h1_2
      clear h1_2
      have h1_3 := based_largeltp w14 GV1.out UV1.out (X0) M1.out
      unfold pv arr6 at h1_3
      have A1_3 := Lib.hid h1_3
      clear h1_3
      have h1_4 := based_largegep w14 GV1.out UV1.out (N) M2.out
      unfold pv arr6 at h1_4
      have A1_4 := Lib.hid h1_4
      clear h1_4
      clear cx0 cx1 cx2 cx3 cx4 cx5 zx cy0 cy1 cy2 cy3 cy4 cy5 zy cu0 cu1 cu2 cu3 cu4 cu5 zu cv0 cv1 cv2 cv3 cv4 cv5 zv
      have D14 := hid_drew w14
      have SS14 : Hid (∀ W, Hid (Below w14.heap.size w14 W) → W.cell? ⟨gx, 0, none⟩ = some (.int .u64 (wd (fe Mp (Wd ^ 6) X0) 0)) ∧ W.cell? ⟨gx, 1, none⟩ = some (.int .u64 (wd (fe Mp (Wd ^ 6) X0) 1)) ∧ W.cell? ⟨gx, 2, none⟩ = some (.int .u64 (wd (fe Mp (Wd ^ 6) X0) 2)) ∧ W.cell? ⟨gx, 3, none⟩ = some (.int .u64 (wd (fe Mp (Wd ^ 6) X0) 3)) ∧ W.cell? ⟨gx, 4, none⟩ = some (.int .u64 (wd (fe Mp (Wd ^ 6) X0) 4)) ∧ W.cell? ⟨gx, 5, none⟩ = some (.int .u64 (wd (fe Mp (Wd ^ 6) X0) 5)) ∧ W.cell? ⟨gy, 0, none⟩ = some (.int .u64 (wd (fe Mp (Wd ^ 6) R) 0)) ∧ W.cell? ⟨gy, 1, none⟩ = some (.int .u64 (wd (fe Mp (Wd ^ 6) R) 1)) ∧ W.cell? ⟨gy, 2, none⟩ = some (.int .u64 (wd (fe Mp (Wd ^ 6) R) 2)) ∧ W.cell? ⟨gy, 3, none⟩ = some (.int .u64 (wd (fe Mp (Wd ^ 6) R) 3)) ∧ W.cell? ⟨gy, 4, none⟩ = some (.int .u64 (wd (fe Mp (Wd ^ 6) R) 4)) ∧ W.cell? ⟨gy, 5, none⟩ = some (.int .u64 (wd (fe Mp (Wd ^ 6) R) 5)) ∧ W.cell? ⟨gu, 0, none⟩ = some (.int .u64 (wd (fe Mp (Wd ^ 6) A) 0)) ∧ W.cell? ⟨gu, 1, none⟩ = some (.int .u64 (wd (fe Mp (Wd ^ 6) A) 1)) ∧ W.cell? ⟨gu, 2, none⟩ = some (.int .u64 (wd (fe Mp (Wd ^ 6) A) 2)) ∧ W.cell? ⟨gu, 3, none⟩ = some (.int .u64 (wd (fe Mp (Wd ^ 6) A) 3)) ∧ W.cell? ⟨gu, 4, none⟩ = some (.int .u64 (wd (fe Mp (Wd ^ 6) A) 4)) ∧ W.cell? ⟨gu, 5, none⟩ = some (.int .u64 (wd (fe Mp (Wd ^ 6) A) 5)) ∧ W.cell? ⟨gv, 0, none⟩ = some (.int .u64 (wd (fe Mp (Wd ^ 6) 0) 0)) ∧ W.cell? ⟨gv, 1, none⟩ = some (.int .u64 (wd (fe Mp (Wd ^ 6) 0) 1)) ∧ W.cell? ⟨gv, 2, none⟩ = some (.int .u64 (wd (fe Mp (Wd ^ 6) 0) 2)) ∧ W.cell? ⟨gv, 3, none⟩ = some (.int .u64 (wd (fe Mp (Wd ^ 6) 0) 3)) ∧ W.cell? ⟨gv, 4, none⟩ = some (.int .u64 (wd (fe Mp (Wd ^ 6) 0) 4)) ∧ W.cell? ⟨gv, 5, none⟩ = some (.int .u64 (wd (fe Mp (Wd ^ 6) 0) 5)) ∧ Hid (Below w14.heap.size w14 W)) := Lib.hid (fun W hW => by
        obtain ⟨qx0, qx1, qx2, qx3, qx4, qx5⟩ := cells6 (Kx_14.out.keep hW.out)
        obtain ⟨qy0, qy1, qy2, qy3, qy4, qy5⟩ := cells6 (Ky_14.out.keep hW.out)
        obtain ⟨qu0, qu1, qu2, qu3, qu4, qu5⟩ := cells6 (Ku_14.out.keep hW.out)
        obtain ⟨qv0, qv1, qv2, qv3, qv4, qv5⟩ := cells6 (Kv_14.out.keep hW.out)
        exact ⟨qx0, qx1, qx2, qx3, qx4, qx5, qy0, qy1, qy2, qy3, qy4, qy5, qu0, qu1, qu2, qu3, qu4, qu5, qv0, qv1, qv2, qv3, qv4, qv5, hW⟩)
      go_region_held3 (fun W => W.cell? ⟨gx, 0, none⟩ = some (.int .u64 (wd (fe Mp (Wd ^ 6) X0) 0)) ∧ W.cell? ⟨gx, 1, none⟩ = some (.int .u64 (wd (fe Mp (Wd ^ 6) X0) 1)) ∧ W.cell? ⟨gx, 2, none⟩ = some (.int .u64 (wd (fe Mp (Wd ^ 6) X0) 2)) ∧ W.cell? ⟨gx, 3, none⟩ = some (.int .u64 (wd (fe Mp (Wd ^ 6) X0) 3)) ∧ W.cell? ⟨gx, 4, none⟩ = some (.int .u64 (wd (fe Mp (Wd ^ 6) X0) 4)) ∧ W.cell? ⟨gx, 5, none⟩ = some (.int .u64 (wd (fe Mp (Wd ^ 6) X0) 5)) ∧ W.cell? ⟨gy, 0, none⟩ = some (.int .u64 (wd (fe Mp (Wd ^ 6) R) 0)) ∧ W.cell? ⟨gy, 1, none⟩ = some (.int .u64 (wd (fe Mp (Wd ^ 6) R) 1)) ∧ W.cell? ⟨gy, 2, none⟩ = some (.int .u64 (wd (fe Mp (Wd ^ 6) R) 2)) ∧ W.cell? ⟨gy, 3, none⟩ = some (.int .u64 (wd (fe Mp (Wd ^ 6) R) 3)) ∧ W.cell? ⟨gy, 4, none⟩ = some (.int .u64 (wd (fe Mp (Wd ^ 6) R) 4)) ∧ W.cell? ⟨gy, 5, none⟩ = some (.int .u64 (wd (fe Mp (Wd ^ 6) R) 5)) ∧ W.cell? ⟨gu, 0, none⟩ = some (.int .u64 (wd (fe Mp (Wd ^ 6) A) 0)) ∧ W.cell? ⟨gu, 1, none⟩ = some (.int .u64 (wd (fe Mp (Wd ^ 6) A) 1)) ∧ W.cell? ⟨gu, 2, none⟩ = some (.int .u64 (wd (fe Mp (Wd ^ 6) A) 2)) ∧ W.cell? ⟨gu, 3, none⟩ = some (.int .u64 (wd (fe Mp (Wd ^ 6) A) 3)) ∧ W.cell? ⟨gu, 4, none⟩ = some (.int .u64 (wd (fe Mp (Wd ^ 6) A) 4)) ∧ W.cell? ⟨gu, 5, none⟩ = some (.int .u64 (wd (fe Mp (Wd ^ 6) A) 5)) ∧ W.cell? ⟨gv, 0, none⟩ = some (.int .u64 (wd (fe Mp (Wd ^ 6) 0) 0)) ∧ W.cell? ⟨gv, 1, none⟩ = some (.int .u64 (wd (fe Mp (Wd ^ 6) 0) 1)) ∧ W.cell? ⟨gv, 2, none⟩ = some (.int .u64 (wd (fe Mp (Wd ^ 6) 0) 2)) ∧ W.cell? ⟨gv, 3, none⟩ = some (.int .u64 (wd (fe Mp (Wd ^ 6) 0) 3)) ∧ W.cell? ⟨gv, 4, none⟩ = some (.int .u64 (wd (fe Mp (Wd ^ 6) 0) 4)) ∧ W.cell? ⟨gv, 5, none⟩ = some (.int .u64 (wd (fe Mp (Wd ^ 6) 0) 5)) ∧ Hid (Below w14.heap.size w14 W)) (first | exact SS14.out _ D14 | exact SS14.out _ (by with_reducible assumption)) (first
        | (go_at_call 18; (with_reducible refine (A1_0.out _ (by first | exact D14 | with_reducible assumption)).mono ?_); rintro e w15 ⟨rfl, HB15⟩)
        | (go_at_call 16; (with_reducible refine (A1_1.out _ (by first | exact D14 | with_reducible assumption)).mono ?_); rintro e w15 ⟨rfl, HB15⟩)
        | (go_at_call 18; (with_reducible refine (A1_2.out _ (by first | exact D14 | with_reducible assumption)).mono ?_); rintro e w15 ⟨rfl, HB15⟩)
        | (go_at_call 19; (with_reducible refine (A1_3.out _ (by first | exact D14 | with_reducible assumption)).mono ?_); rintro e w15 ⟨rfl, HB15⟩)
        | (go_at_call 19; (with_reducible refine (A1_4.out _ (by first | exact D14 | with_reducible assumption)).mono ?_); rintro e w15 ⟨rfl, HB15⟩))
      have B15 := Lib.hid (B14.out.trans (HB15.out.mono B14.out.size))
      have Kx_15 := Lib.hid (Kx_14.out.keep HB15.out)
      have Ky_15 := Lib.hid (Ky_14.out.keep HB15.out)
      have Ku_15 := Lib.hid (Ku_14.out.keep HB15.out)
      have Kv_15 := Lib.hid (Kv_14.out.keep HB15.out)
      clear B14 SS14 D14 HB15 Kx_14 Ky_14 Ku_14 Kv_14 A1_0 A1_1 A1_2 A1_3 A1_4
      obtain ⟨cx0, cx1, cx2, cx3, cx4, cx5⟩ := cells6 Kx_15.out
      have zx := Kx_15.out.lt
      obtain ⟨cy0, cy1, cy2, cy3, cy4, cy5⟩ := cells6 Ky_15.out
      have zy := Ky_15.out.lt
      obtain ⟨cu0, cu1, cu2, cu3, cu4, cu5⟩ := cells6 Ku_15.out
      have zu := Ku_15.out.lt
      obtain ⟨cv0, cv1, cv2, cv3, cv4, cv5⟩ := cells6 Kv_15.out
      have zv := Kv_15.out.lt
      go_wp2_with fail
      go_ret
      exact ⟨rfl, B15.out⟩
    · have hm : N % Mp < Up := by have := HLA.out; omega
      have hl : Up ≤ X0 % Mp := by omega
      have M1 := Lib.hid hl
      have M2 := Lib.hid hm
      clear hm
      clear hl
      have GV1 := Lib.hid (HG.out.keep B14.out)
      have UV1 := Lib.hid (HU.out.keep B14.out)
      have h1_0 := based_oddp w14 GV1.out (X0)
      rw [O1.out] at h1_0
      unfold pv arr6 at h1_0
      have A1_0 := Lib.hid h1_0
      clear h1_0
      have h1_1 := based_negp w14 GV1.out (X0)
      rw [← HN.out] at h1_1
      unfold pv arr6 at h1_1
      have A1_1 := Lib.hid h1_1
      clear h1_1
      have h1_2 := based_oddp w14 GV1.out (N)
      rw [O2.out] at h1_2
      unfold pv arr6 at h1_2
      have A1_2 := Lib.hid h1_2
      clear h1_2
      have h1_3 := based_largegep w14 GV1.out UV1.out (X0) M1.out
      unfold pv arr6 at h1_3
      have A1_3 := Lib.hid h1_3
      clear h1_3
      have h1_4 := based_largeltp w14 GV1.out UV1.out (N) M2.out
      unfold pv arr6 at h1_4
      have A1_4 := Lib.hid h1_4
      clear h1_4
      clear cx0 cx1 cx2 cx3 cx4 cx5 zx cy0 cy1 cy2 cy3 cy4 cy5 zy cu0 cu1 cu2 cu3 cu4 cu5 zu cv0 cv1 cv2 cv3 cv4 cv5 zv
      have D14 := hid_drew w14
      have SS14 : Hid (∀ W, Hid (Below w14.heap.size w14 W) → W.cell? ⟨gx, 0, none⟩ = some (.int .u64 (wd (fe Mp (Wd ^ 6) X0) 0)) ∧ W.cell? ⟨gx, 1, none⟩ = some (.int .u64 (wd (fe Mp (Wd ^ 6) X0) 1)) ∧ W.cell? ⟨gx, 2, none⟩ = some (.int .u64 (wd (fe Mp (Wd ^ 6) X0) 2)) ∧ W.cell? ⟨gx, 3, none⟩ = some (.int .u64 (wd (fe Mp (Wd ^ 6) X0) 3)) ∧ W.cell? ⟨gx, 4, none⟩ = some (.int .u64 (wd (fe Mp (Wd ^ 6) X0) 4)) ∧ W.cell? ⟨gx, 5, none⟩ = some (.int .u64 (wd (fe Mp (Wd ^ 6) X0) 5)) ∧ W.cell? ⟨gy, 0, none⟩ = some (.int .u64 (wd (fe Mp (Wd ^ 6) R) 0)) ∧ W.cell? ⟨gy, 1, none⟩ = some (.int .u64 (wd (fe Mp (Wd ^ 6) R) 1)) ∧ W.cell? ⟨gy, 2, none⟩ = some (.int .u64 (wd (fe Mp (Wd ^ 6) R) 2)) ∧ W.cell? ⟨gy, 3, none⟩ = some (.int .u64 (wd (fe Mp (Wd ^ 6) R) 3)) ∧ W.cell? ⟨gy, 4, none⟩ = some (.int .u64 (wd (fe Mp (Wd ^ 6) R) 4)) ∧ W.cell? ⟨gy, 5, none⟩ = some (.int .u64 (wd (fe Mp (Wd ^ 6) R) 5)) ∧ W.cell? ⟨gu, 0, none⟩ = some (.int .u64 (wd (fe Mp (Wd ^ 6) A) 0)) ∧ W.cell? ⟨gu, 1, none⟩ = some (.int .u64 (wd (fe Mp (Wd ^ 6) A) 1)) ∧ W.cell? ⟨gu, 2, none⟩ = some (.int .u64 (wd (fe Mp (Wd ^ 6) A) 2)) ∧ W.cell? ⟨gu, 3, none⟩ = some (.int .u64 (wd (fe Mp (Wd ^ 6) A) 3)) ∧ W.cell? ⟨gu, 4, none⟩ = some (.int .u64 (wd (fe Mp (Wd ^ 6) A) 4)) ∧ W.cell? ⟨gu, 5, none⟩ = some (.int .u64 (wd (fe Mp (Wd ^ 6) A) 5)) ∧ W.cell? ⟨gv, 0, none⟩ = some (.int .u64 (wd (fe Mp (Wd ^ 6) 0) 0)) ∧ W.cell? ⟨gv, 1, none⟩ = some (.int .u64 (wd (fe Mp (Wd ^ 6) 0) 1)) ∧ W.cell? ⟨gv, 2, none⟩ = some (.int .u64 (wd (fe Mp (Wd ^ 6) 0) 2)) ∧ W.cell? ⟨gv, 3, none⟩ = some (.int .u64 (wd (fe Mp (Wd ^ 6) 0) 3)) ∧ W.cell? ⟨gv, 4, none⟩ = some (.int .u64 (wd (fe Mp (Wd ^ 6) 0) 4)) ∧ W.cell? ⟨gv, 5, none⟩ = some (.int .u64 (wd (fe Mp (Wd ^ 6) 0) 5)) ∧ Hid (Below w14.heap.size w14 W)) := Lib.hid (fun W hW => by
        obtain ⟨qx0, qx1, qx2, qx3, qx4, qx5⟩ := cells6 (Kx_14.out.keep hW.out)
        obtain ⟨qy0, qy1, qy2, qy3, qy4, qy5⟩ := cells6 (Ky_14.out.keep hW.out)
        obtain ⟨qu0, qu1, qu2, qu3, qu4, qu5⟩ := cells6 (Ku_14.out.keep hW.out)
        obtain ⟨qv0, qv1, qv2, qv3, qv4, qv5⟩ := cells6 (Kv_14.out.keep hW.out)
        exact ⟨qx0, qx1, qx2, qx3, qx4, qx5, qy0, qy1, qy2, qy3, qy4, qy5, qu0, qu1, qu2, qu3, qu4, qu5, qv0, qv1, qv2, qv3, qv4, qv5, hW⟩)
      go_region_held3 (fun W => W.cell? ⟨gx, 0, none⟩ = some (.int .u64 (wd (fe Mp (Wd ^ 6) X0) 0)) ∧ W.cell? ⟨gx, 1, none⟩ = some (.int .u64 (wd (fe Mp (Wd ^ 6) X0) 1)) ∧ W.cell? ⟨gx, 2, none⟩ = some (.int .u64 (wd (fe Mp (Wd ^ 6) X0) 2)) ∧ W.cell? ⟨gx, 3, none⟩ = some (.int .u64 (wd (fe Mp (Wd ^ 6) X0) 3)) ∧ W.cell? ⟨gx, 4, none⟩ = some (.int .u64 (wd (fe Mp (Wd ^ 6) X0) 4)) ∧ W.cell? ⟨gx, 5, none⟩ = some (.int .u64 (wd (fe Mp (Wd ^ 6) X0) 5)) ∧ W.cell? ⟨gy, 0, none⟩ = some (.int .u64 (wd (fe Mp (Wd ^ 6) R) 0)) ∧ W.cell? ⟨gy, 1, none⟩ = some (.int .u64 (wd (fe Mp (Wd ^ 6) R) 1)) ∧ W.cell? ⟨gy, 2, none⟩ = some (.int .u64 (wd (fe Mp (Wd ^ 6) R) 2)) ∧ W.cell? ⟨gy, 3, none⟩ = some (.int .u64 (wd (fe Mp (Wd ^ 6) R) 3)) ∧ W.cell? ⟨gy, 4, none⟩ = some (.int .u64 (wd (fe Mp (Wd ^ 6) R) 4)) ∧ W.cell? ⟨gy, 5, none⟩ = some (.int .u64 (wd (fe Mp (Wd ^ 6) R) 5)) ∧ W.cell? ⟨gu, 0, none⟩ = some (.int .u64 (wd (fe Mp (Wd ^ 6) A) 0)) ∧ W.cell? ⟨gu, 1, none⟩ = some (.int .u64 (wd (fe Mp (Wd ^ 6) A) 1)) ∧ W.cell? ⟨gu, 2, none⟩ = some (.int .u64 (wd (fe Mp (Wd ^ 6) A) 2)) ∧ W.cell? ⟨gu, 3, none⟩ = some (.int .u64 (wd (fe Mp (Wd ^ 6) A) 3)) ∧ W.cell? ⟨gu, 4, none⟩ = some (.int .u64 (wd (fe Mp (Wd ^ 6) A) 4)) ∧ W.cell? ⟨gu, 5, none⟩ = some (.int .u64 (wd (fe Mp (Wd ^ 6) A) 5)) ∧ W.cell? ⟨gv, 0, none⟩ = some (.int .u64 (wd (fe Mp (Wd ^ 6) 0) 0)) ∧ W.cell? ⟨gv, 1, none⟩ = some (.int .u64 (wd (fe Mp (Wd ^ 6) 0) 1)) ∧ W.cell? ⟨gv, 2, none⟩ = some (.int .u64 (wd (fe Mp (Wd ^ 6) 0) 2)) ∧ W.cell? ⟨gv, 3, none⟩ = some (.int .u64 (wd (fe Mp (Wd ^ 6) 0) 3)) ∧ W.cell? ⟨gv, 4, none⟩ = some (.int .u64 (wd (fe Mp (Wd ^ 6) 0) 4)) ∧ W.cell? ⟨gv, 5, none⟩ = some (.int .u64 (wd (fe Mp (Wd ^ 6) 0) 5)) ∧ Hid (Below w14.heap.size w14 W)) (first | exact SS14.out _ D14 | exact SS14.out _ (by with_reducible assumption)) (first
        | (go_at_call 18; (with_reducible refine (A1_0.out _ (by first | exact D14 | with_reducible assumption)).mono ?_); rintro e w15 ⟨rfl, HB15⟩)
        | (go_at_call 16; (with_reducible refine (A1_1.out _ (by first | exact D14 | with_reducible assumption)).mono ?_); rintro e w15 ⟨rfl, HB15⟩)
        | (go_at_call 18; (with_reducible refine (A1_2.out _ (by first | exact D14 | with_reducible assumption)).mono ?_); rintro e w15 ⟨rfl, HB15⟩)
        | (go_at_call 19; (with_reducible refine (A1_3.out _ (by first | exact D14 | with_reducible assumption)).mono ?_); rintro e w15 ⟨rfl, HB15⟩)
        | (go_at_call 19; (with_reducible refine (A1_4.out _ (by first | exact D14 | with_reducible assumption)).mono ?_); rintro e w15 ⟨rfl, HB15⟩))
      have B15 := Lib.hid (B14.out.trans (HB15.out.mono B14.out.size))
      have Kx_15 := Lib.hid (Kx_14.out.keep HB15.out)
      have Ky_15 := Lib.hid (Ky_14.out.keep HB15.out)
      have Ku_15 := Lib.hid (Ku_14.out.keep HB15.out)
      have Kv_15 := Lib.hid (Kv_14.out.keep HB15.out)
      clear B14 SS14 D14 HB15 Kx_14 Ky_14 Ku_14 Kv_14 A1_0 A1_1 A1_2 A1_3 A1_4
      obtain ⟨cx0, cx1, cx2, cx3, cx4, cx5⟩ := cells6 Kx_15.out
      have zx := Kx_15.out.lt
      obtain ⟨cy0, cy1, cy2, cy3, cy4, cy5⟩ := cells6 Ky_15.out
      have zy := Ky_15.out.lt
      obtain ⟨cu0, cu1, cu2, cu3, cu4, cu5⟩ := cells6 Ku_15.out
      have zu := Ku_15.out.lt
      obtain ⟨cv0, cv1, cv2, cv3, cv4, cv5⟩ := cells6 Kv_15.out
      have zv := Kv_15.out.lt
      go_wp2_with fail
      go_ret
      exact ⟨rfl, B15.out⟩
  · have hn : N % Mp % 2 = 1 := HOD.out.2 ho
    have O1 := Lib.hid (show decide (X0 % Mp % 2 = 1) = false by simpa using ho)
    have O2 := Lib.hid (show decide (N % Mp % 2 = 1) = true by simpa using hn)
    clear ho hn
    by_cases hl : X0 % Mp < Up
    · have hm : Up ≤ N % Mp := HLA.out.2 hl
      have M1 := Lib.hid hl
      have M2 := Lib.hid hm
      clear hm
      clear hl
      have GV1 := Lib.hid (HG.out.keep B14.out)
      have UV1 := Lib.hid (HU.out.keep B14.out)
      have h1_0 := based_oddp w14 GV1.out (X0)
      rw [O1.out] at h1_0
      unfold pv arr6 at h1_0
      have A1_0 := Lib.hid h1_0
      clear h1_0
      have h1_1 := based_negp w14 GV1.out (X0)
      rw [← HN.out] at h1_1
      unfold pv arr6 at h1_1
      have A1_1 := Lib.hid h1_1
      clear h1_1
      have h1_2 := based_oddp w14 GV1.out (N)
      rw [O2.out] at h1_2
      unfold pv arr6 at h1_2
      have A1_2 := Lib.hid h1_2
      clear h1_2
      have h1_3 := based_largeltp w14 GV1.out UV1.out (X0) M1.out
      unfold pv arr6 at h1_3
      have A1_3 := Lib.hid h1_3
      clear h1_3
      have h1_4 := based_largegep w14 GV1.out UV1.out (N) M2.out
      unfold pv arr6 at h1_4
      have A1_4 := Lib.hid h1_4
      clear h1_4
      clear cx0 cx1 cx2 cx3 cx4 cx5 zx cy0 cy1 cy2 cy3 cy4 cy5 zy cu0 cu1 cu2 cu3 cu4 cu5 zu cv0 cv1 cv2 cv3 cv4 cv5 zv
      have D14 := hid_drew w14
      have SS14 : Hid (∀ W, Hid (Below w14.heap.size w14 W) → W.cell? ⟨gx, 0, none⟩ = some (.int .u64 (wd (fe Mp (Wd ^ 6) X0) 0)) ∧ W.cell? ⟨gx, 1, none⟩ = some (.int .u64 (wd (fe Mp (Wd ^ 6) X0) 1)) ∧ W.cell? ⟨gx, 2, none⟩ = some (.int .u64 (wd (fe Mp (Wd ^ 6) X0) 2)) ∧ W.cell? ⟨gx, 3, none⟩ = some (.int .u64 (wd (fe Mp (Wd ^ 6) X0) 3)) ∧ W.cell? ⟨gx, 4, none⟩ = some (.int .u64 (wd (fe Mp (Wd ^ 6) X0) 4)) ∧ W.cell? ⟨gx, 5, none⟩ = some (.int .u64 (wd (fe Mp (Wd ^ 6) X0) 5)) ∧ W.cell? ⟨gy, 0, none⟩ = some (.int .u64 (wd (fe Mp (Wd ^ 6) R) 0)) ∧ W.cell? ⟨gy, 1, none⟩ = some (.int .u64 (wd (fe Mp (Wd ^ 6) R) 1)) ∧ W.cell? ⟨gy, 2, none⟩ = some (.int .u64 (wd (fe Mp (Wd ^ 6) R) 2)) ∧ W.cell? ⟨gy, 3, none⟩ = some (.int .u64 (wd (fe Mp (Wd ^ 6) R) 3)) ∧ W.cell? ⟨gy, 4, none⟩ = some (.int .u64 (wd (fe Mp (Wd ^ 6) R) 4)) ∧ W.cell? ⟨gy, 5, none⟩ = some (.int .u64 (wd (fe Mp (Wd ^ 6) R) 5)) ∧ W.cell? ⟨gu, 0, none⟩ = some (.int .u64 (wd (fe Mp (Wd ^ 6) A) 0)) ∧ W.cell? ⟨gu, 1, none⟩ = some (.int .u64 (wd (fe Mp (Wd ^ 6) A) 1)) ∧ W.cell? ⟨gu, 2, none⟩ = some (.int .u64 (wd (fe Mp (Wd ^ 6) A) 2)) ∧ W.cell? ⟨gu, 3, none⟩ = some (.int .u64 (wd (fe Mp (Wd ^ 6) A) 3)) ∧ W.cell? ⟨gu, 4, none⟩ = some (.int .u64 (wd (fe Mp (Wd ^ 6) A) 4)) ∧ W.cell? ⟨gu, 5, none⟩ = some (.int .u64 (wd (fe Mp (Wd ^ 6) A) 5)) ∧ W.cell? ⟨gv, 0, none⟩ = some (.int .u64 (wd (fe Mp (Wd ^ 6) 0) 0)) ∧ W.cell? ⟨gv, 1, none⟩ = some (.int .u64 (wd (fe Mp (Wd ^ 6) 0) 1)) ∧ W.cell? ⟨gv, 2, none⟩ = some (.int .u64 (wd (fe Mp (Wd ^ 6) 0) 2)) ∧ W.cell? ⟨gv, 3, none⟩ = some (.int .u64 (wd (fe Mp (Wd ^ 6) 0) 3)) ∧ W.cell? ⟨gv, 4, none⟩ = some (.int .u64 (wd (fe Mp (Wd ^ 6) 0) 4)) ∧ W.cell? ⟨gv, 5, none⟩ = some (.int .u64 (wd (fe Mp (Wd ^ 6) 0) 5)) ∧ Hid (Below w14.heap.size w14 W)) := Lib.hid (fun W hW => by
        obtain ⟨qx0, qx1, qx2, qx3, qx4, qx5⟩ := cells6 (Kx_14.out.keep hW.out)
        obtain ⟨qy0, qy1, qy2, qy3, qy4, qy5⟩ := cells6 (Ky_14.out.keep hW.out)
        obtain ⟨qu0, qu1, qu2, qu3, qu4, qu5⟩ := cells6 (Ku_14.out.keep hW.out)
        obtain ⟨qv0, qv1, qv2, qv3, qv4, qv5⟩ := cells6 (Kv_14.out.keep hW.out)
        exact ⟨qx0, qx1, qx2, qx3, qx4, qx5, qy0, qy1, qy2, qy3, qy4, qy5, qu0, qu1, qu2, qu3, qu4, qu5, qv0, qv1, qv2, qv3, qv4, qv5, hW⟩)
      go_region_held3 (fun W => W.cell? ⟨gx, 0, none⟩ = some (.int .u64 (wd (fe Mp (Wd ^ 6) X0) 0)) ∧ W.cell? ⟨gx, 1, none⟩ = some (.int .u64 (wd (fe Mp (Wd ^ 6) X0) 1)) ∧ W.cell? ⟨gx, 2, none⟩ = some (.int .u64 (wd (fe Mp (Wd ^ 6) X0) 2)) ∧ W.cell? ⟨gx, 3, none⟩ = some (.int .u64 (wd (fe Mp (Wd ^ 6) X0) 3)) ∧ W.cell? ⟨gx, 4, none⟩ = some (.int .u64 (wd (fe Mp (Wd ^ 6) X0) 4)) ∧ W.cell? ⟨gx, 5, none⟩ = some (.int .u64 (wd (fe Mp (Wd ^ 6) X0) 5)) ∧ W.cell? ⟨gy, 0, none⟩ = some (.int .u64 (wd (fe Mp (Wd ^ 6) R) 0)) ∧ W.cell? ⟨gy, 1, none⟩ = some (.int .u64 (wd (fe Mp (Wd ^ 6) R) 1)) ∧ W.cell? ⟨gy, 2, none⟩ = some (.int .u64 (wd (fe Mp (Wd ^ 6) R) 2)) ∧ W.cell? ⟨gy, 3, none⟩ = some (.int .u64 (wd (fe Mp (Wd ^ 6) R) 3)) ∧ W.cell? ⟨gy, 4, none⟩ = some (.int .u64 (wd (fe Mp (Wd ^ 6) R) 4)) ∧ W.cell? ⟨gy, 5, none⟩ = some (.int .u64 (wd (fe Mp (Wd ^ 6) R) 5)) ∧ W.cell? ⟨gu, 0, none⟩ = some (.int .u64 (wd (fe Mp (Wd ^ 6) A) 0)) ∧ W.cell? ⟨gu, 1, none⟩ = some (.int .u64 (wd (fe Mp (Wd ^ 6) A) 1)) ∧ W.cell? ⟨gu, 2, none⟩ = some (.int .u64 (wd (fe Mp (Wd ^ 6) A) 2)) ∧ W.cell? ⟨gu, 3, none⟩ = some (.int .u64 (wd (fe Mp (Wd ^ 6) A) 3)) ∧ W.cell? ⟨gu, 4, none⟩ = some (.int .u64 (wd (fe Mp (Wd ^ 6) A) 4)) ∧ W.cell? ⟨gu, 5, none⟩ = some (.int .u64 (wd (fe Mp (Wd ^ 6) A) 5)) ∧ W.cell? ⟨gv, 0, none⟩ = some (.int .u64 (wd (fe Mp (Wd ^ 6) 0) 0)) ∧ W.cell? ⟨gv, 1, none⟩ = some (.int .u64 (wd (fe Mp (Wd ^ 6) 0) 1)) ∧ W.cell? ⟨gv, 2, none⟩ = some (.int .u64 (wd (fe Mp (Wd ^ 6) 0) 2)) ∧ W.cell? ⟨gv, 3, none⟩ = some (.int .u64 (wd (fe Mp (Wd ^ 6) 0) 3)) ∧ W.cell? ⟨gv, 4, none⟩ = some (.int .u64 (wd (fe Mp (Wd ^ 6) 0) 4)) ∧ W.cell? ⟨gv, 5, none⟩ = some (.int .u64 (wd (fe Mp (Wd ^ 6) 0) 5)) ∧ Hid (Below w14.heap.size w14 W)) (first | exact SS14.out _ D14 | exact SS14.out _ (by with_reducible assumption)) (first
        | (go_at_call 18; (with_reducible refine (A1_0.out _ (by first | exact D14 | with_reducible assumption)).mono ?_); rintro e w15 ⟨rfl, HB15⟩)
        | (go_at_call 16; (with_reducible refine (A1_1.out _ (by first | exact D14 | with_reducible assumption)).mono ?_); rintro e w15 ⟨rfl, HB15⟩)
        | (go_at_call 18; (with_reducible refine (A1_2.out _ (by first | exact D14 | with_reducible assumption)).mono ?_); rintro e w15 ⟨rfl, HB15⟩)
        | (go_at_call 19; (with_reducible refine (A1_3.out _ (by first | exact D14 | with_reducible assumption)).mono ?_); rintro e w15 ⟨rfl, HB15⟩)
        | (go_at_call 19; (with_reducible refine (A1_4.out _ (by first | exact D14 | with_reducible assumption)).mono ?_); rintro e w15 ⟨rfl, HB15⟩))
      have B15 := Lib.hid (B14.out.trans (HB15.out.mono B14.out.size))
      have Kx_15 := Lib.hid (Kx_14.out.keep HB15.out)
      have Ky_15 := Lib.hid (Ky_14.out.keep HB15.out)
      have Ku_15 := Lib.hid (Ku_14.out.keep HB15.out)
      have Kv_15 := Lib.hid (Kv_14.out.keep HB15.out)
      clear B14 SS14 D14 HB15 Kx_14 Ky_14 Ku_14 Kv_14 A1_0 A1_1 A1_2 A1_3 A1_4
      obtain ⟨cx0, cx1, cx2, cx3, cx4, cx5⟩ := cells6 Kx_15.out
      have zx := Kx_15.out.lt
      obtain ⟨cy0, cy1, cy2, cy3, cy4, cy5⟩ := cells6 Ky_15.out
      have zy := Ky_15.out.lt
      obtain ⟨cu0, cu1, cu2, cu3, cu4, cu5⟩ := cells6 Ku_15.out
      have zu := Ku_15.out.lt
      obtain ⟨cv0, cv1, cv2, cv3, cv4, cv5⟩ := cells6 Kv_15.out
      have zv := Kv_15.out.lt
      go_wp2_with fail
      go_ret
      exact ⟨rfl, B15.out⟩
    · have hm : N % Mp < Up := by have := HLA.out; omega
      have hl : Up ≤ X0 % Mp := by omega
      have M1 := Lib.hid hl
      have M2 := Lib.hid hm
      clear hm
      clear hl
      have GV1 := Lib.hid (HG.out.keep B14.out)
      have UV1 := Lib.hid (HU.out.keep B14.out)
      have h1_0 := based_oddp w14 GV1.out (X0)
      rw [O1.out] at h1_0
      unfold pv arr6 at h1_0
      have A1_0 := Lib.hid h1_0
      clear h1_0
      have h1_1 := based_negp w14 GV1.out (X0)
      rw [← HN.out] at h1_1
      unfold pv arr6 at h1_1
      have A1_1 := Lib.hid h1_1
      clear h1_1
      have h1_2 := based_oddp w14 GV1.out (N)
      rw [O2.out] at h1_2
      unfold pv arr6 at h1_2
      have A1_2 := Lib.hid h1_2
      clear h1_2
      have h1_3 := based_largegep w14 GV1.out UV1.out (X0) M1.out
      unfold pv arr6 at h1_3
      have A1_3 := Lib.hid h1_3
      clear h1_3
      have h1_4 := based_largeltp w14 GV1.out UV1.out (N) M2.out
      unfold pv arr6 at h1_4
      have A1_4 := Lib.hid h1_4
      clear h1_4
      clear cx0 cx1 cx2 cx3 cx4 cx5 zx cy0 cy1 cy2 cy3 cy4 cy5 zy cu0 cu1 cu2 cu3 cu4 cu5 zu cv0 cv1 cv2 cv3 cv4 cv5 zv
      have D14 := hid_drew w14
      have SS14 : Hid (∀ W, Hid (Below w14.heap.size w14 W) → W.cell? ⟨gx, 0, none⟩ = some (.int .u64 (wd (fe Mp (Wd ^ 6) X0) 0)) ∧ W.cell? ⟨gx, 1, none⟩ = some (.int .u64 (wd (fe Mp (Wd ^ 6) X0) 1)) ∧ W.cell? ⟨gx, 2, none⟩ = some (.int .u64 (wd (fe Mp (Wd ^ 6) X0) 2)) ∧ W.cell? ⟨gx, 3, none⟩ = some (.int .u64 (wd (fe Mp (Wd ^ 6) X0) 3)) ∧ W.cell? ⟨gx, 4, none⟩ = some (.int .u64 (wd (fe Mp (Wd ^ 6) X0) 4)) ∧ W.cell? ⟨gx, 5, none⟩ = some (.int .u64 (wd (fe Mp (Wd ^ 6) X0) 5)) ∧ W.cell? ⟨gy, 0, none⟩ = some (.int .u64 (wd (fe Mp (Wd ^ 6) R) 0)) ∧ W.cell? ⟨gy, 1, none⟩ = some (.int .u64 (wd (fe Mp (Wd ^ 6) R) 1)) ∧ W.cell? ⟨gy, 2, none⟩ = some (.int .u64 (wd (fe Mp (Wd ^ 6) R) 2)) ∧ W.cell? ⟨gy, 3, none⟩ = some (.int .u64 (wd (fe Mp (Wd ^ 6) R) 3)) ∧ W.cell? ⟨gy, 4, none⟩ = some (.int .u64 (wd (fe Mp (Wd ^ 6) R) 4)) ∧ W.cell? ⟨gy, 5, none⟩ = some (.int .u64 (wd (fe Mp (Wd ^ 6) R) 5)) ∧ W.cell? ⟨gu, 0, none⟩ = some (.int .u64 (wd (fe Mp (Wd ^ 6) A) 0)) ∧ W.cell? ⟨gu, 1, none⟩ = some (.int .u64 (wd (fe Mp (Wd ^ 6) A) 1)) ∧ W.cell? ⟨gu, 2, none⟩ = some (.int .u64 (wd (fe Mp (Wd ^ 6) A) 2)) ∧ W.cell? ⟨gu, 3, none⟩ = some (.int .u64 (wd (fe Mp (Wd ^ 6) A) 3)) ∧ W.cell? ⟨gu, 4, none⟩ = some (.int .u64 (wd (fe Mp (Wd ^ 6) A) 4)) ∧ W.cell? ⟨gu, 5, none⟩ = some (.int .u64 (wd (fe Mp (Wd ^ 6) A) 5)) ∧ W.cell? ⟨gv, 0, none⟩ = some (.int .u64 (wd (fe Mp (Wd ^ 6) 0) 0)) ∧ W.cell? ⟨gv, 1, none⟩ = some (.int .u64 (wd (fe Mp (Wd ^ 6) 0) 1)) ∧ W.cell? ⟨gv, 2, none⟩ = some (.int .u64 (wd (fe Mp (Wd ^ 6) 0) 2)) ∧ W.cell? ⟨gv, 3, none⟩ = some (.int .u64 (wd (fe Mp (Wd ^ 6) 0) 3)) ∧ W.cell? ⟨gv, 4, none⟩ = some (.int .u64 (wd (fe Mp (Wd ^ 6) 0) 4)) ∧ W.cell? ⟨gv, 5, none⟩ = some (.int .u64 (wd (fe Mp (Wd ^ 6) 0) 5)) ∧ Hid (Below w14.heap.size w14 W)) := Lib.hid (fun W hW => by
        obtain ⟨qx0, qx1, qx2, qx3, qx4, qx5⟩ := cells6 (Kx_14.out.keep hW.out)
        obtain ⟨qy0, qy1, qy2, qy3, qy4, qy5⟩ := cells6 (Ky_14.out.keep hW.out)
        obtain ⟨qu0, qu1, qu2, qu3, qu4, qu5⟩ := cells6 (Ku_14.out.keep hW.out)
        obtain ⟨qv0, qv1, qv2, qv3, qv4, qv5⟩ := cells6 (Kv_14.out.keep hW.out)
        exact ⟨qx0, qx1, qx2, qx3, qx4, qx5, qy0, qy1, qy2, qy3, qy4, qy5, qu0, qu1, qu2, qu3, qu4, qu5, qv0, qv1, qv2, qv3, qv4, qv5, hW⟩)
      go_region_held3 (fun W => W.cell? ⟨gx, 0, none⟩ = some (.int .u64 (wd (fe Mp (Wd ^ 6) X0) 0)) ∧ W.cell? ⟨gx, 1, none⟩ = some (.int .u64 (wd (fe Mp (Wd ^ 6) X0) 1)) ∧ W.cell? ⟨gx, 2, none⟩ = some (.int .u64 (wd (fe Mp (Wd ^ 6) X0) 2)) ∧ W.cell? ⟨gx, 3, none⟩ = some (.int .u64 (wd (fe Mp (Wd ^ 6) X0) 3)) ∧ W.cell? ⟨gx, 4, none⟩ = some (.int .u64 (wd (fe Mp (Wd ^ 6) X0) 4)) ∧ W.cell? ⟨gx, 5, none⟩ = some (.int .u64 (wd (fe Mp (Wd ^ 6) X0) 5)) ∧ W.cell? ⟨gy, 0, none⟩ = some (.int .u64 (wd (fe Mp (Wd ^ 6) R) 0)) ∧ W.cell? ⟨gy, 1, none⟩ = some (.int .u64 (wd (fe Mp (Wd ^ 6) R) 1)) ∧ W.cell? ⟨gy, 2, none⟩ = some (.int .u64 (wd (fe Mp (Wd ^ 6) R) 2)) ∧ W.cell? ⟨gy, 3, none⟩ = some (.int .u64 (wd (fe Mp (Wd ^ 6) R) 3)) ∧ W.cell? ⟨gy, 4, none⟩ = some (.int .u64 (wd (fe Mp (Wd ^ 6) R) 4)) ∧ W.cell? ⟨gy, 5, none⟩ = some (.int .u64 (wd (fe Mp (Wd ^ 6) R) 5)) ∧ W.cell? ⟨gu, 0, none⟩ = some (.int .u64 (wd (fe Mp (Wd ^ 6) A) 0)) ∧ W.cell? ⟨gu, 1, none⟩ = some (.int .u64 (wd (fe Mp (Wd ^ 6) A) 1)) ∧ W.cell? ⟨gu, 2, none⟩ = some (.int .u64 (wd (fe Mp (Wd ^ 6) A) 2)) ∧ W.cell? ⟨gu, 3, none⟩ = some (.int .u64 (wd (fe Mp (Wd ^ 6) A) 3)) ∧ W.cell? ⟨gu, 4, none⟩ = some (.int .u64 (wd (fe Mp (Wd ^ 6) A) 4)) ∧ W.cell? ⟨gu, 5, none⟩ = some (.int .u64 (wd (fe Mp (Wd ^ 6) A) 5)) ∧ W.cell? ⟨gv, 0, none⟩ = some (.int .u64 (wd (fe Mp (Wd ^ 6) 0) 0)) ∧ W.cell? ⟨gv, 1, none⟩ = some (.int .u64 (wd (fe Mp (Wd ^ 6) 0) 1)) ∧ W.cell? ⟨gv, 2, none⟩ = some (.int .u64 (wd (fe Mp (Wd ^ 6) 0) 2)) ∧ W.cell? ⟨gv, 3, none⟩ = some (.int .u64 (wd (fe Mp (Wd ^ 6) 0) 3)) ∧ W.cell? ⟨gv, 4, none⟩ = some (.int .u64 (wd (fe Mp (Wd ^ 6) 0) 4)) ∧ W.cell? ⟨gv, 5, none⟩ = some (.int .u64 (wd (fe Mp (Wd ^ 6) 0) 5)) ∧ Hid (Below w14.heap.size w14 W)) (first | exact SS14.out _ D14 | exact SS14.out _ (by with_reducible assumption)) (first
        | (go_at_call 18; (with_reducible refine (A1_0.out _ (by first | exact D14 | with_reducible assumption)).mono ?_); rintro e w15 ⟨rfl, HB15⟩)
        | (go_at_call 16; (with_reducible refine (A1_1.out _ (by first | exact D14 | with_reducible assumption)).mono ?_); rintro e w15 ⟨rfl, HB15⟩)
        | (go_at_call 18; (with_reducible refine (A1_2.out _ (by first | exact D14 | with_reducible assumption)).mono ?_); rintro e w15 ⟨rfl, HB15⟩)
        | (go_at_call 19; (with_reducible refine (A1_3.out _ (by first | exact D14 | with_reducible assumption)).mono ?_); rintro e w15 ⟨rfl, HB15⟩)
        | (go_at_call 19; (with_reducible refine (A1_4.out _ (by first | exact D14 | with_reducible assumption)).mono ?_); rintro e w15 ⟨rfl, HB15⟩))
      have B15 := Lib.hid (B14.out.trans (HB15.out.mono B14.out.size))
      have Kx_15 := Lib.hid (Kx_14.out.keep HB15.out)
      have Ky_15 := Lib.hid (Ky_14.out.keep HB15.out)
      have Ku_15 := Lib.hid (Ku_14.out.keep HB15.out)
      have Kv_15 := Lib.hid (Kv_14.out.keep HB15.out)
      clear B14 SS14 D14 HB15 Kx_14 Ky_14 Ku_14 Kv_14 A1_0 A1_1 A1_2 A1_3 A1_4
      obtain ⟨cx0, cx1, cx2, cx3, cx4, cx5⟩ := cells6 Kx_15.out
      have zx := Kx_15.out.lt
      obtain ⟨cy0, cy1, cy2, cy3, cy4, cy5⟩ := cells6 Ky_15.out
      have zy := Ky_15.out.lt
      obtain ⟨cu0, cu1, cu2, cu3, cu4, cu5⟩ := cells6 Ku_15.out
      have zu := Ku_15.out.lt
      obtain ⟨cv0, cv1, cv2, cv3, cv4, cv5⟩ := cells6 Kv_15.out
      have zv := Kv_15.out.lt
      go_wp2_with fail
      go_ret
      exact ⟨rfl, B15.out⟩
set_option maxRecDepth 100000 in
set_option maxHeartbeats 8000000 in
theorem squaresp_pn (w : World) (hG : GM0 w) (hS : GSqp w) (hH : GShp w) (hQ : GQp w) (hU : GUp w) (A0 : Option Addr) (L0 c0 : Nat) (bs0 : List Int) (hr0 : Reads w w.heap.size A0 L0 (bs0.map (Value.int .u8))) (ho0 : Oct bs0) (h0 : L0 ≤ 400) (hx : ¬ num bs0 % Mp = 0) (hr : (num bs0 * num bs0) ^ Qp % Mp = num bs0 % Mp) (hxs : ¬ num bs0 ^ Qp * num bs0 ^ Qp % Mp = num bs0 % Mp) :
    Calls Tryd.prog 3 #[.slice A0 L0 c0] w fun e w' => e = .returned (.bool true) ∧ Below w.heap.size w w' := by
  have HG := Lib.hid hG
  have HS := Lib.hid hS
  have HH := Lib.hid hH
  have HQ := Lib.hid hQ
  have HU := Lib.hid hU
  have HR0 := Lib.hid hr0
  have HO0 := Lib.hid ho0
  have HL0 := Lib.hid (show bs0.length = L0 by simpa using hr0.1)
  obtain ⟨X0, hX0⟩ : ∃ X, X = num bs0 := ⟨_, rfl⟩
  rw [← hX0] at hx hr hxs
  obtain ⟨N, hN⟩ : ∃ N, N = -X0 := ⟨_, rfl⟩
  have hnsq := neg_sq X0 hx
  have hrt := root_square X0
  have hod := odd_neg X0 hx
  have hla := large_neg X0 hx
  rw [← hN] at hnsq hrt hod hla
  obtain ⟨R, hR⟩ : ∃ R, R = (X0 * X0) ^ Qp := ⟨_, rfl⟩
  obtain ⟨A, hA⟩ : ∃ R, R = X0 ^ Qp := ⟨_, rfl⟩
  obtain ⟨B, hB⟩ : ∃ R, R = N ^ Qp := ⟨_, rfl⟩
  have hsq := square_sq X0
  have hns : N ^ Qp * N ^ Qp % Mp = N % Mp := hnsq.2 hxs
  have hs_sq := fun W a b c => fp_sqrt_yes (X0 * X0) W a b c hsq
  simp only [← hR] at hs_sq
  have S_sq := Lib.hid hs_sq
  clear hs_sq
  have hs_xs := fun W a b c => fp_sqrt_no (X0) W a b c hxs
  simp only [pv_zero] at hs_xs
  have S_xs := Lib.hid hs_xs
  clear hs_xs
  have hs_ns := fun W a b c => fp_sqrt_yes (N) W a b c hns
  simp only [← hB] at hs_ns
  have S_ns := Lib.hid hs_ns
  clear hs_ns
  rw [← hR] at hr hrt
  have q1 := pv_same R X0 hr
  have hz : decide (X0 % Mp = 0) = false := by simpa using hx
  have HN := Lib.hid hN
  have HZ := Lib.hid hz
  have HOD := Lib.hid hod
  have HLA := Lib.hid hla
  clear hR hA hB hsq hxs hns hnsq hrt hr hz hod hla hN hx
  have HX0 := Lib.hid hX0
  clear hX0 hr0 ho0
  clear hG hS hH hQ hU
  have B0 : Hid (Below w.heap.size w w) := Lib.hid (Below.refl _ _)
  go_enter Tryd.func3, Tryd.ntmps3
  go_wp2_with fail
  refine (fp_head _ (HG.out.keep B0.out) (HS.out.keep B0.out) (HQ.out.keep B0.out) (HU.out.keep B0.out)).mono ?_
  rintro e w1 ⟨rfl, hb⟩
  have B1 := Lib.hid (B0.out.trans (hb.mono B0.out.size))
  clear hb B0 
  go_wp2_with fail
  refine (copy_any w1 A0 L0 c0 bs0 ((HR0.out.below B1.out).more B1.out.size) (by omega)).mono ?_
  rintro e w2 ⟨gc0, rfl, -, hBc, hb⟩
  have RC0 := Lib.hid (copy_reads hBc HL0.out)
  have B2 := Lib.hid (B1.out.trans (hb.mono B1.out.size))
  clear hb hBc B1 
  go_wp2_with fail
  refine (fp_wide _ (HG.out.keep B2.out) (HS.out.keep B2.out) (HH.out.keep B2.out) (some ⟨gc0, 0, none⟩) L0 L0 bs0 RC0.out HO0.out (Nat.le_refl _) (by omega)).mono ?_
  rintro e w3 ⟨rfl, hb⟩
  have B3 := Lib.hid (B2.out.trans (hb.mono B2.out.size))
  clear hb B2 
  rw [← HX0.out]
  unfold pv arr6
  go_wp2_with fail
  have B4 := Lib.hid (B3.out.alloc B3.out.size (Obj.cells #[.int .u64 (wd (fe Mp (Wd ^ 6) X0) 0), .int .u64 (wd (fe Mp (Wd ^ 6) X0) 1), .int .u64 (wd (fe Mp (Wd ^ 6) X0) 2), .int .u64 (wd (fe Mp (Wd ^ 6) X0) 3), .int .u64 (wd (fe Mp (Wd ^ 6) X0) 4), .int .u64 (wd (fe Mp (Wd ^ 6) X0) 5)] 27))
  have Kx_4 := Lib.hid (Blk.new w3 27 #[.int .u64 (wd (fe Mp (Wd ^ 6) X0) 0), .int .u64 (wd (fe Mp (Wd ^ 6) X0) 1), .int .u64 (wd (fe Mp (Wd ^ 6) X0) 2), .int .u64 (wd (fe Mp (Wd ^ 6) X0) 3), .int .u64 (wd (fe Mp (Wd ^ 6) X0) 4), .int .u64 (wd (fe Mp (Wd ^ 6) X0) 5)])
  obtain ⟨gx, hgx⟩ : ∃ g, g = w3.heap.size := ⟨_, rfl⟩
  obtain ⟨w4, hw4⟩ : ∃ W, W = w3.alloc (Obj.cells #[.int .u64 (wd (fe Mp (Wd ^ 6) X0) 0), .int .u64 (wd (fe Mp (Wd ^ 6) X0) 1), .int .u64 (wd (fe Mp (Wd ^ 6) X0) 2), .int .u64 (wd (fe Mp (Wd ^ 6) X0) 3), .int .u64 (wd (fe Mp (Wd ^ 6) X0) 4), .int .u64 (wd (fe Mp (Wd ^ 6) X0) 5)] 27) := ⟨_, rfl⟩
  rw [← hgx] at Kx_4
  simp only [← hw4] at B4 Kx_4
  rw [← hw4, ← hgx]
  clear hw4 hgx B3 
  obtain ⟨cx0, cx1, cx2, cx3, cx4, cx5⟩ := cells6 Kx_4.out
  have zx := Kx_4.out.lt
  refine (fp_square X0 _ (HG.out.keep B4.out)).mono ?_
  rintro e w5 ⟨rfl, hb⟩
  clear cx0 cx1 cx2 cx3 cx4 cx5 zx
  have B5 := Lib.hid (B4.out.trans (hb.mono B4.out.size))
  have Kx_5 := Lib.hid (Kx_4.out.keep hb)
  clear hb B4 Kx_4
  obtain ⟨cx0, cx1, cx2, cx3, cx4, cx5⟩ := cells6 Kx_5.out
  have zx := Kx_5.out.lt
  go_wp2_with fail
  refine (S_sq.out _ (HG.out.keep B5.out) (HS.out.keep B5.out) (HQ.out.keep B5.out)).mono ?_
  rintro e w6 ⟨rfl, hb⟩
  clear cx0 cx1 cx2 cx3 cx4 cx5 zx
  have B6 := Lib.hid (B5.out.trans (hb.mono B5.out.size))
  have Kx_6 := Lib.hid (Kx_5.out.keep hb)
  clear hb B5 Kx_5
  obtain ⟨cx0, cx1, cx2, cx3, cx4, cx5⟩ := cells6 Kx_6.out
  have zx := Kx_6.out.lt
  unfold pv arr6
  go_wp2_with fail
  clear cx0 cx1 cx2 cx3 cx4 cx5 zx
  have B7 := Lib.hid (B6.out.alloc B6.out.size (Obj.cells #[.int .u64 (wd (fe Mp (Wd ^ 6) R) 0), .int .u64 (wd (fe Mp (Wd ^ 6) R) 1), .int .u64 (wd (fe Mp (Wd ^ 6) R) 2), .int .u64 (wd (fe Mp (Wd ^ 6) R) 3), .int .u64 (wd (fe Mp (Wd ^ 6) R) 4), .int .u64 (wd (fe Mp (Wd ^ 6) R) 5)] 27))
  have Kx_7 := Lib.hid (Kx_6.out.alloc (Obj.cells #[.int .u64 (wd (fe Mp (Wd ^ 6) R) 0), .int .u64 (wd (fe Mp (Wd ^ 6) R) 1), .int .u64 (wd (fe Mp (Wd ^ 6) R) 2), .int .u64 (wd (fe Mp (Wd ^ 6) R) 3), .int .u64 (wd (fe Mp (Wd ^ 6) R) 4), .int .u64 (wd (fe Mp (Wd ^ 6) R) 5)] 27))
  have Ky_7 := Lib.hid (Blk.new w6 27 #[.int .u64 (wd (fe Mp (Wd ^ 6) R) 0), .int .u64 (wd (fe Mp (Wd ^ 6) R) 1), .int .u64 (wd (fe Mp (Wd ^ 6) R) 2), .int .u64 (wd (fe Mp (Wd ^ 6) R) 3), .int .u64 (wd (fe Mp (Wd ^ 6) R) 4), .int .u64 (wd (fe Mp (Wd ^ 6) R) 5)])
  obtain ⟨gy, hgy⟩ : ∃ g, g = w6.heap.size := ⟨_, rfl⟩
  obtain ⟨w7, hw7⟩ : ∃ W, W = w6.alloc (Obj.cells #[.int .u64 (wd (fe Mp (Wd ^ 6) R) 0), .int .u64 (wd (fe Mp (Wd ^ 6) R) 1), .int .u64 (wd (fe Mp (Wd ^ 6) R) 2), .int .u64 (wd (fe Mp (Wd ^ 6) R) 3), .int .u64 (wd (fe Mp (Wd ^ 6) R) 4), .int .u64 (wd (fe Mp (Wd ^ 6) R) 5)] 27) := ⟨_, rfl⟩
  rw [← hgy] at Ky_7
  simp only [← hw7] at B7 Kx_7 Ky_7
  rw [← hw7, ← hgy]
  clear hw7 hgy B6 Kx_6
  obtain ⟨cx0, cx1, cx2, cx3, cx4, cx5⟩ := cells6 Kx_7.out
  have zx := Kx_7.out.lt
  obtain ⟨cy0, cy1, cy2, cy3, cy4, cy5⟩ := cells6 Ky_7.out
  have zy := Ky_7.out.lt
  go_region
  clear cx0 cx1 cx2 cx3 cx4 cx5 zx cy0 cy1 cy2 cy3 cy4 cy5 zy
  have D7 := hid_drew w7
  have B8 := Lib.hid (B7.out.trans (D7.out.mono B7.out.size))
  have Kx_8 := Lib.hid (Kx_7.out.keep D7.out)
  have Ky_8 := Lib.hid (Ky_7.out.keep D7.out)
  obtain ⟨w8, hw8⟩ : ∃ W, W = w7.drew := ⟨_, rfl⟩
  simp only [← hw8] at B8 Kx_8 Ky_8
  rw [← hw8]
  clear hw8 D7 B7 Kx_7 Ky_7
  obtain ⟨cx0, cx1, cx2, cx3, cx4, cx5⟩ := cells6 Kx_8.out
  have zx := Kx_8.out.lt
  obtain ⟨cy0, cy1, cy2, cy3, cy4, cy5⟩ := cells6 Ky_8.out
  have zy := Ky_8.out.lt
  go_wp2_with fail
  refine (S_xs.out _ (HG.out.keep B8.out) (HS.out.keep B8.out) (HQ.out.keep B8.out)).mono ?_
  rintro e w9 ⟨rfl, hb⟩
  clear cx0 cx1 cx2 cx3 cx4 cx5 zx cy0 cy1 cy2 cy3 cy4 cy5 zy
  have B9 := Lib.hid (B8.out.trans (hb.mono B8.out.size))
  have Kx_9 := Lib.hid (Kx_8.out.keep hb)
  have Ky_9 := Lib.hid (Ky_8.out.keep hb)
  clear hb B8 Kx_8 Ky_8
  obtain ⟨cx0, cx1, cx2, cx3, cx4, cx5⟩ := cells6 Kx_9.out
  have zx := Kx_9.out.lt
  obtain ⟨cy0, cy1, cy2, cy3, cy4, cy5⟩ := cells6 Ky_9.out
  have zy := Ky_9.out.lt
  unfold pv arr6
  go_wp2_with fail
  clear cx0 cx1 cx2 cx3 cx4 cx5 zx cy0 cy1 cy2 cy3 cy4 cy5 zy
  have B10 := Lib.hid (B9.out.alloc B9.out.size (Obj.cells #[.int .u64 (wd (fe Mp (Wd ^ 6) 0) 0), .int .u64 (wd (fe Mp (Wd ^ 6) 0) 1), .int .u64 (wd (fe Mp (Wd ^ 6) 0) 2), .int .u64 (wd (fe Mp (Wd ^ 6) 0) 3), .int .u64 (wd (fe Mp (Wd ^ 6) 0) 4), .int .u64 (wd (fe Mp (Wd ^ 6) 0) 5)] 27))
  have Kx_10 := Lib.hid (Kx_9.out.alloc (Obj.cells #[.int .u64 (wd (fe Mp (Wd ^ 6) 0) 0), .int .u64 (wd (fe Mp (Wd ^ 6) 0) 1), .int .u64 (wd (fe Mp (Wd ^ 6) 0) 2), .int .u64 (wd (fe Mp (Wd ^ 6) 0) 3), .int .u64 (wd (fe Mp (Wd ^ 6) 0) 4), .int .u64 (wd (fe Mp (Wd ^ 6) 0) 5)] 27))
  have Ky_10 := Lib.hid (Ky_9.out.alloc (Obj.cells #[.int .u64 (wd (fe Mp (Wd ^ 6) 0) 0), .int .u64 (wd (fe Mp (Wd ^ 6) 0) 1), .int .u64 (wd (fe Mp (Wd ^ 6) 0) 2), .int .u64 (wd (fe Mp (Wd ^ 6) 0) 3), .int .u64 (wd (fe Mp (Wd ^ 6) 0) 4), .int .u64 (wd (fe Mp (Wd ^ 6) 0) 5)] 27))
  have Ku_10 := Lib.hid (Blk.new w9 27 #[.int .u64 (wd (fe Mp (Wd ^ 6) 0) 0), .int .u64 (wd (fe Mp (Wd ^ 6) 0) 1), .int .u64 (wd (fe Mp (Wd ^ 6) 0) 2), .int .u64 (wd (fe Mp (Wd ^ 6) 0) 3), .int .u64 (wd (fe Mp (Wd ^ 6) 0) 4), .int .u64 (wd (fe Mp (Wd ^ 6) 0) 5)])
  obtain ⟨gu, hgu⟩ : ∃ g, g = w9.heap.size := ⟨_, rfl⟩
  obtain ⟨w10, hw10⟩ : ∃ W, W = w9.alloc (Obj.cells #[.int .u64 (wd (fe Mp (Wd ^ 6) 0) 0), .int .u64 (wd (fe Mp (Wd ^ 6) 0) 1), .int .u64 (wd (fe Mp (Wd ^ 6) 0) 2), .int .u64 (wd (fe Mp (Wd ^ 6) 0) 3), .int .u64 (wd (fe Mp (Wd ^ 6) 0) 4), .int .u64 (wd (fe Mp (Wd ^ 6) 0) 5)] 27) := ⟨_, rfl⟩
  rw [← hgu] at Ku_10
  simp only [← hw10] at B10 Kx_10 Ky_10 Ku_10
  rw [← hw10, ← hgu]
  clear hw10 hgu B9 Kx_9 Ky_9
  obtain ⟨cx0, cx1, cx2, cx3, cx4, cx5⟩ := cells6 Kx_10.out
  have zx := Kx_10.out.lt
  obtain ⟨cy0, cy1, cy2, cy3, cy4, cy5⟩ := cells6 Ky_10.out
  have zy := Ky_10.out.lt
  obtain ⟨cu0, cu1, cu2, cu3, cu4, cu5⟩ := cells6 Ku_10.out
  have zu := Ku_10.out.lt
  refine (fp_neg X0 _ (HG.out.keep B10.out)).mono ?_
  rintro e w11 ⟨rfl, hb⟩
  clear cx0 cx1 cx2 cx3 cx4 cx5 zx cy0 cy1 cy2 cy3 cy4 cy5 zy cu0 cu1 cu2 cu3 cu4 cu5 zu
  have B11 := Lib.hid (B10.out.trans (hb.mono B10.out.size))
  have Kx_11 := Lib.hid (Kx_10.out.keep hb)
  have Ky_11 := Lib.hid (Ky_10.out.keep hb)
  have Ku_11 := Lib.hid (Ku_10.out.keep hb)
  clear hb B10 Kx_10 Ky_10 Ku_10
  obtain ⟨cx0, cx1, cx2, cx3, cx4, cx5⟩ := cells6 Kx_11.out
  have zx := Kx_11.out.lt
  obtain ⟨cy0, cy1, cy2, cy3, cy4, cy5⟩ := cells6 Ky_11.out
  have zy := Ky_11.out.lt
  obtain ⟨cu0, cu1, cu2, cu3, cu4, cu5⟩ := cells6 Ku_11.out
  have zu := Ku_11.out.lt
  rw [← HN.out]
  go_wp2_with fail
  refine (S_ns.out _ (HG.out.keep B11.out) (HS.out.keep B11.out) (HQ.out.keep B11.out)).mono ?_
  rintro e w12 ⟨rfl, hb⟩
  clear cx0 cx1 cx2 cx3 cx4 cx5 zx cy0 cy1 cy2 cy3 cy4 cy5 zy cu0 cu1 cu2 cu3 cu4 cu5 zu
  have B12 := Lib.hid (B11.out.trans (hb.mono B11.out.size))
  have Kx_12 := Lib.hid (Kx_11.out.keep hb)
  have Ky_12 := Lib.hid (Ky_11.out.keep hb)
  have Ku_12 := Lib.hid (Ku_11.out.keep hb)
  clear hb B11 Kx_11 Ky_11 Ku_11
  obtain ⟨cx0, cx1, cx2, cx3, cx4, cx5⟩ := cells6 Kx_12.out
  have zx := Kx_12.out.lt
  obtain ⟨cy0, cy1, cy2, cy3, cy4, cy5⟩ := cells6 Ky_12.out
  have zy := Ky_12.out.lt
  obtain ⟨cu0, cu1, cu2, cu3, cu4, cu5⟩ := cells6 Ku_12.out
  have zu := Ku_12.out.lt
  unfold pv arr6
  go_wp2_with fail
  clear cx0 cx1 cx2 cx3 cx4 cx5 zx cy0 cy1 cy2 cy3 cy4 cy5 zy cu0 cu1 cu2 cu3 cu4 cu5 zu
  have B13 := Lib.hid (B12.out.alloc B12.out.size (Obj.cells #[.int .u64 (wd (fe Mp (Wd ^ 6) B) 0), .int .u64 (wd (fe Mp (Wd ^ 6) B) 1), .int .u64 (wd (fe Mp (Wd ^ 6) B) 2), .int .u64 (wd (fe Mp (Wd ^ 6) B) 3), .int .u64 (wd (fe Mp (Wd ^ 6) B) 4), .int .u64 (wd (fe Mp (Wd ^ 6) B) 5)] 27))
  have Kx_13 := Lib.hid (Kx_12.out.alloc (Obj.cells #[.int .u64 (wd (fe Mp (Wd ^ 6) B) 0), .int .u64 (wd (fe Mp (Wd ^ 6) B) 1), .int .u64 (wd (fe Mp (Wd ^ 6) B) 2), .int .u64 (wd (fe Mp (Wd ^ 6) B) 3), .int .u64 (wd (fe Mp (Wd ^ 6) B) 4), .int .u64 (wd (fe Mp (Wd ^ 6) B) 5)] 27))
  have Ky_13 := Lib.hid (Ky_12.out.alloc (Obj.cells #[.int .u64 (wd (fe Mp (Wd ^ 6) B) 0), .int .u64 (wd (fe Mp (Wd ^ 6) B) 1), .int .u64 (wd (fe Mp (Wd ^ 6) B) 2), .int .u64 (wd (fe Mp (Wd ^ 6) B) 3), .int .u64 (wd (fe Mp (Wd ^ 6) B) 4), .int .u64 (wd (fe Mp (Wd ^ 6) B) 5)] 27))
  have Ku_13 := Lib.hid (Ku_12.out.alloc (Obj.cells #[.int .u64 (wd (fe Mp (Wd ^ 6) B) 0), .int .u64 (wd (fe Mp (Wd ^ 6) B) 1), .int .u64 (wd (fe Mp (Wd ^ 6) B) 2), .int .u64 (wd (fe Mp (Wd ^ 6) B) 3), .int .u64 (wd (fe Mp (Wd ^ 6) B) 4), .int .u64 (wd (fe Mp (Wd ^ 6) B) 5)] 27))
  have Kv_13 := Lib.hid (Blk.new w12 27 #[.int .u64 (wd (fe Mp (Wd ^ 6) B) 0), .int .u64 (wd (fe Mp (Wd ^ 6) B) 1), .int .u64 (wd (fe Mp (Wd ^ 6) B) 2), .int .u64 (wd (fe Mp (Wd ^ 6) B) 3), .int .u64 (wd (fe Mp (Wd ^ 6) B) 4), .int .u64 (wd (fe Mp (Wd ^ 6) B) 5)])
  obtain ⟨gv, hgv⟩ : ∃ g, g = w12.heap.size := ⟨_, rfl⟩
  obtain ⟨w13, hw13⟩ : ∃ W, W = w12.alloc (Obj.cells #[.int .u64 (wd (fe Mp (Wd ^ 6) B) 0), .int .u64 (wd (fe Mp (Wd ^ 6) B) 1), .int .u64 (wd (fe Mp (Wd ^ 6) B) 2), .int .u64 (wd (fe Mp (Wd ^ 6) B) 3), .int .u64 (wd (fe Mp (Wd ^ 6) B) 4), .int .u64 (wd (fe Mp (Wd ^ 6) B) 5)] 27) := ⟨_, rfl⟩
  rw [← hgv] at Kv_13
  simp only [← hw13] at B13 Kx_13 Ky_13 Ku_13 Kv_13
  rw [← hw13, ← hgv]
  clear hw13 hgv B12 Kx_12 Ky_12 Ku_12
  obtain ⟨cx0, cx1, cx2, cx3, cx4, cx5⟩ := cells6 Kx_13.out
  have zx := Kx_13.out.lt
  obtain ⟨cy0, cy1, cy2, cy3, cy4, cy5⟩ := cells6 Ky_13.out
  have zy := Ky_13.out.lt
  obtain ⟨cu0, cu1, cu2, cu3, cu4, cu5⟩ := cells6 Ku_13.out
  have zu := Ku_13.out.lt
  obtain ⟨cv0, cv1, cv2, cv3, cv4, cv5⟩ := cells6 Kv_13.out
  have zv := Kv_13.out.lt
  refine (fp_zero X0 _).mono ?_
  rintro e w14 ⟨rfl, hb⟩
  clear cx0 cx1 cx2 cx3 cx4 cx5 zx cy0 cy1 cy2 cy3 cy4 cy5 zy cu0 cu1 cu2 cu3 cu4 cu5 zu cv0 cv1 cv2 cv3 cv4 cv5 zv
  have B14 := Lib.hid (B13.out.trans (hb.mono B13.out.size))
  have Kx_14 := Lib.hid (Kx_13.out.keep hb)
  have Ky_14 := Lib.hid (Ky_13.out.keep hb)
  have Ku_14 := Lib.hid (Ku_13.out.keep hb)
  have Kv_14 := Lib.hid (Kv_13.out.keep hb)
  clear hb B13 Kx_13 Ky_13 Ku_13 Kv_13
  obtain ⟨cx0, cx1, cx2, cx3, cx4, cx5⟩ := cells6 Kx_14.out
  have zx := Kx_14.out.lt
  obtain ⟨cy0, cy1, cy2, cy3, cy4, cy5⟩ := cells6 Ky_14.out
  have zy := Ky_14.out.lt
  obtain ⟨cu0, cu1, cu2, cu3, cu4, cu5⟩ := cells6 Ku_14.out
  have zu := Ku_14.out.lt
  obtain ⟨cv0, cv1, cv2, cv3, cv4, cv5⟩ := cells6 Kv_14.out
  have zv := Kv_14.out.lt
  rw [HZ.out]
  go_wp2_with fail
  by_cases ho : X0 % Mp % 2 = 1
  · have hn : ¬ N % Mp % 2 = 1 := fun h => HOD.out.1 h ho
    have O1 := Lib.hid (show decide (X0 % Mp % 2 = 1) = true by simpa using ho)
    have O2 := Lib.hid (show decide (N % Mp % 2 = 1) = false by simpa using hn)
    clear ho hn
    by_cases hl : X0 % Mp < Up
    · have hm : Up ≤ N % Mp := HLA.out.2 hl
      have M1 := Lib.hid hl
      have M2 := Lib.hid hm
      clear hm
      clear hl
      have GV1 := Lib.hid (HG.out.keep B14.out)
      have UV1 := Lib.hid (HU.out.keep B14.out)
      have h1_0 := based_oddp w14 GV1.out (X0)
      rw [O1.out] at h1_0
      unfold pv arr6 at h1_0
      have A1_0 := Lib.hid h1_0
      clear h1_0
      have h1_1 := based_negp w14 GV1.out (X0)
      rw [← HN.out] at h1_1
      unfold pv arr6 at h1_1
      have A1_1 := Lib.hid h1_1
      clear h1_1
      have h1_2 := based_oddp w14 GV1.out (N)
      rw [O2.out] at h1_2
      unfold pv arr6 at h1_2
      have A1_2 := Lib.hid h1_2
      clear h1_2
      have h1_3 := based_largeltp w14 GV1.out UV1.out (X0) M1.out
      unfold pv arr6 at h1_3
      have A1_3 := Lib.hid h1_3
      clear h1_3
      have h1_4 := based_largegep w14 GV1.out UV1.out (N) M2.out
      unfold pv arr6 at h1_4
      have A1_4 := Lib.hid h1_4
      clear h1_4
      clear cx0 cx1 cx2 cx3 cx4 cx5 zx cy0 cy1 cy2 cy3 cy4 cy5 zy cu0 cu1 cu2 cu3 cu4 cu5 zu cv0 cv1 cv2 cv3 cv4 cv5 zv
      have D14 := hid_drew w14
      have SS14 : Hid (∀ W, Hid (Below w14.heap.size w14 W) → W.cell? ⟨gx, 0, none⟩ = some (.int .u64 (wd (fe Mp (Wd ^ 6) X0) 0)) ∧ W.cell? ⟨gx, 1, none⟩ = some (.int .u64 (wd (fe Mp (Wd ^ 6) X0) 1)) ∧ W.cell? ⟨gx, 2, none⟩ = some (.int .u64 (wd (fe Mp (Wd ^ 6) X0) 2)) ∧ W.cell? ⟨gx, 3, none⟩ = some (.int .u64 (wd (fe Mp (Wd ^ 6) X0) 3)) ∧ W.cell? ⟨gx, 4, none⟩ = some (.int .u64 (wd (fe Mp (Wd ^ 6) X0) 4)) ∧ W.cell? ⟨gx, 5, none⟩ = some (.int .u64 (wd (fe Mp (Wd ^ 6) X0) 5)) ∧ W.cell? ⟨gy, 0, none⟩ = some (.int .u64 (wd (fe Mp (Wd ^ 6) R) 0)) ∧ W.cell? ⟨gy, 1, none⟩ = some (.int .u64 (wd (fe Mp (Wd ^ 6) R) 1)) ∧ W.cell? ⟨gy, 2, none⟩ = some (.int .u64 (wd (fe Mp (Wd ^ 6) R) 2)) ∧ W.cell? ⟨gy, 3, none⟩ = some (.int .u64 (wd (fe Mp (Wd ^ 6) R) 3)) ∧ W.cell? ⟨gy, 4, none⟩ = some (.int .u64 (wd (fe Mp (Wd ^ 6) R) 4)) ∧ W.cell? ⟨gy, 5, none⟩ = some (.int .u64 (wd (fe Mp (Wd ^ 6) R) 5)) ∧ W.cell? ⟨gu, 0, none⟩ = some (.int .u64 (wd (fe Mp (Wd ^ 6) 0) 0)) ∧ W.cell? ⟨gu, 1, none⟩ = some (.int .u64 (wd (fe Mp (Wd ^ 6) 0) 1)) ∧ W.cell? ⟨gu, 2, none⟩ = some (.int .u64 (wd (fe Mp (Wd ^ 6) 0) 2)) ∧ W.cell? ⟨gu, 3, none⟩ = some (.int .u64 (wd (fe Mp (Wd ^ 6) 0) 3)) ∧ W.cell? ⟨gu, 4, none⟩ = some (.int .u64 (wd (fe Mp (Wd ^ 6) 0) 4)) ∧ W.cell? ⟨gu, 5, none⟩ = some (.int .u64 (wd (fe Mp (Wd ^ 6) 0) 5)) ∧ W.cell? ⟨gv, 0, none⟩ = some (.int .u64 (wd (fe Mp (Wd ^ 6) B) 0)) ∧ W.cell? ⟨gv, 1, none⟩ = some (.int .u64 (wd (fe Mp (Wd ^ 6) B) 1)) ∧ W.cell? ⟨gv, 2, none⟩ = some (.int .u64 (wd (fe Mp (Wd ^ 6) B) 2)) ∧ W.cell? ⟨gv, 3, none⟩ = some (.int .u64 (wd (fe Mp (Wd ^ 6) B) 3)) ∧ W.cell? ⟨gv, 4, none⟩ = some (.int .u64 (wd (fe Mp (Wd ^ 6) B) 4)) ∧ W.cell? ⟨gv, 5, none⟩ = some (.int .u64 (wd (fe Mp (Wd ^ 6) B) 5)) ∧ Hid (Below w14.heap.size w14 W)) := Lib.hid (fun W hW => by
        obtain ⟨qx0, qx1, qx2, qx3, qx4, qx5⟩ := cells6 (Kx_14.out.keep hW.out)
        obtain ⟨qy0, qy1, qy2, qy3, qy4, qy5⟩ := cells6 (Ky_14.out.keep hW.out)
        obtain ⟨qu0, qu1, qu2, qu3, qu4, qu5⟩ := cells6 (Ku_14.out.keep hW.out)
        obtain ⟨qv0, qv1, qv2, qv3, qv4, qv5⟩ := cells6 (Kv_14.out.keep hW.out)
        exact ⟨qx0, qx1, qx2, qx3, qx4, qx5, qy0, qy1, qy2, qy3, qy4, qy5, qu0, qu1, qu2, qu3, qu4, qu5, qv0, qv1, qv2, qv3, qv4, qv5, hW⟩)
      go_region_held3 (fun W => W.cell? ⟨gx, 0, none⟩ = some (.int .u64 (wd (fe Mp (Wd ^ 6) X0) 0)) ∧ W.cell? ⟨gx, 1, none⟩ = some (.int .u64 (wd (fe Mp (Wd ^ 6) X0) 1)) ∧ W.cell? ⟨gx, 2, none⟩ = some (.int .u64 (wd (fe Mp (Wd ^ 6) X0) 2)) ∧ W.cell? ⟨gx, 3, none⟩ = some (.int .u64 (wd (fe Mp (Wd ^ 6) X0) 3)) ∧ W.cell? ⟨gx, 4, none⟩ = some (.int .u64 (wd (fe Mp (Wd ^ 6) X0) 4)) ∧ W.cell? ⟨gx, 5, none⟩ = some (.int .u64 (wd (fe Mp (Wd ^ 6) X0) 5)) ∧ W.cell? ⟨gy, 0, none⟩ = some (.int .u64 (wd (fe Mp (Wd ^ 6) R) 0)) ∧ W.cell? ⟨gy, 1, none⟩ = some (.int .u64 (wd (fe Mp (Wd ^ 6) R) 1)) ∧ W.cell? ⟨gy, 2, none⟩ = some (.int .u64 (wd (fe Mp (Wd ^ 6) R) 2)) ∧ W.cell? ⟨gy, 3, none⟩ = some (.int .u64 (wd (fe Mp (Wd ^ 6) R) 3)) ∧ W.cell? ⟨gy, 4, none⟩ = some (.int .u64 (wd (fe Mp (Wd ^ 6) R) 4)) ∧ W.cell? ⟨gy, 5, none⟩ = some (.int .u64 (wd (fe Mp (Wd ^ 6) R) 5)) ∧ W.cell? ⟨gu, 0, none⟩ = some (.int .u64 (wd (fe Mp (Wd ^ 6) 0) 0)) ∧ W.cell? ⟨gu, 1, none⟩ = some (.int .u64 (wd (fe Mp (Wd ^ 6) 0) 1)) ∧ W.cell? ⟨gu, 2, none⟩ = some (.int .u64 (wd (fe Mp (Wd ^ 6) 0) 2)) ∧ W.cell? ⟨gu, 3, none⟩ = some (.int .u64 (wd (fe Mp (Wd ^ 6) 0) 3)) ∧ W.cell? ⟨gu, 4, none⟩ = some (.int .u64 (wd (fe Mp (Wd ^ 6) 0) 4)) ∧ W.cell? ⟨gu, 5, none⟩ = some (.int .u64 (wd (fe Mp (Wd ^ 6) 0) 5)) ∧ W.cell? ⟨gv, 0, none⟩ = some (.int .u64 (wd (fe Mp (Wd ^ 6) B) 0)) ∧ W.cell? ⟨gv, 1, none⟩ = some (.int .u64 (wd (fe Mp (Wd ^ 6) B) 1)) ∧ W.cell? ⟨gv, 2, none⟩ = some (.int .u64 (wd (fe Mp (Wd ^ 6) B) 2)) ∧ W.cell? ⟨gv, 3, none⟩ = some (.int .u64 (wd (fe Mp (Wd ^ 6) B) 3)) ∧ W.cell? ⟨gv, 4, none⟩ = some (.int .u64 (wd (fe Mp (Wd ^ 6) B) 4)) ∧ W.cell? ⟨gv, 5, none⟩ = some (.int .u64 (wd (fe Mp (Wd ^ 6) B) 5)) ∧ Hid (Below w14.heap.size w14 W)) (first | exact SS14.out _ D14 | exact SS14.out _ (by with_reducible assumption)) (first
        | (go_at_call 18; (with_reducible refine (A1_0.out _ (by first | exact D14 | with_reducible assumption)).mono ?_); rintro e w15 ⟨rfl, HB15⟩)
        | (go_at_call 16; (with_reducible refine (A1_1.out _ (by first | exact D14 | with_reducible assumption)).mono ?_); rintro e w15 ⟨rfl, HB15⟩)
        | (go_at_call 18; (with_reducible refine (A1_2.out _ (by first | exact D14 | with_reducible assumption)).mono ?_); rintro e w15 ⟨rfl, HB15⟩)
        | (go_at_call 19; (with_reducible refine (A1_3.out _ (by first | exact D14 | with_reducible assumption)).mono ?_); rintro e w15 ⟨rfl, HB15⟩)
        | (go_at_call 19; (with_reducible refine (A1_4.out _ (by first | exact D14 | with_reducible assumption)).mono ?_); rintro e w15 ⟨rfl, HB15⟩))
      have B15 := Lib.hid (B14.out.trans (HB15.out.mono B14.out.size))
      have Kx_15 := Lib.hid (Kx_14.out.keep HB15.out)
      have Ky_15 := Lib.hid (Ky_14.out.keep HB15.out)
      have Ku_15 := Lib.hid (Ku_14.out.keep HB15.out)
      have Kv_15 := Lib.hid (Kv_14.out.keep HB15.out)
      clear B14 SS14 D14 HB15 Kx_14 Ky_14 Ku_14 Kv_14 A1_0 A1_1 A1_2 A1_3 A1_4
      obtain ⟨cx0, cx1, cx2, cx3, cx4, cx5⟩ := cells6 Kx_15.out
      have zx := Kx_15.out.lt
      obtain ⟨cy0, cy1, cy2, cy3, cy4, cy5⟩ := cells6 Ky_15.out
      have zy := Ky_15.out.lt
      obtain ⟨cu0, cu1, cu2, cu3, cu4, cu5⟩ := cells6 Ku_15.out
      have zu := Ku_15.out.lt
      obtain ⟨cv0, cv1, cv2, cv3, cv4, cv5⟩ := cells6 Kv_15.out
      have zv := Kv_15.out.lt
      go_wp2_with fail
      go_ret
      exact ⟨rfl, B15.out⟩
    · have hm : N % Mp < Up := by have := HLA.out; omega
      have hl : Up ≤ X0 % Mp := by omega
      have M1 := Lib.hid hl
      have M2 := Lib.hid hm
      clear hm
      clear hl
      have GV1 := Lib.hid (HG.out.keep B14.out)
      have UV1 := Lib.hid (HU.out.keep B14.out)
      have h1_0 := based_oddp w14 GV1.out (X0)
      rw [O1.out] at h1_0
      unfold pv arr6 at h1_0
      have A1_0 := Lib.hid h1_0
      clear h1_0
      have h1_1 := based_negp w14 GV1.out (X0)
      rw [← HN.out] at h1_1
      unfold pv arr6 at h1_1
      have A1_1 := Lib.hid h1_1
      clear h1_1
      have h1_2 := based_oddp w14 GV1.out (N)
      rw [O2.out] at h1_2
      unfold pv arr6 at h1_2
      have A1_2 := Lib.hid h1_2
      clear h1_2
      have h1_3 := based_largegep w14 GV1.out UV1.out (X0) M1.out
      unfold pv arr6 at h1_3
      have A1_3 := Lib.hid h1_3
      clear h1_3
      have h1_4 := based_largeltp w14 GV1.out UV1.out (N) M2.out
      unfold pv arr6 at h1_4
      have A1_4 := Lib.hid h1_4
      clear h1_4
      clear cx0 cx1 cx2 cx3 cx4 cx5 zx cy0 cy1 cy2 cy3 cy4 cy5 zy cu0 cu1 cu2 cu3 cu4 cu5 zu cv0 cv1 cv2 cv3 cv4 cv5 zv
      have D14 := hid_drew w14
      have SS14 : Hid (∀ W, Hid (Below w14.heap.size w14 W) → W.cell? ⟨gx, 0, none⟩ = some (.int .u64 (wd (fe Mp (Wd ^ 6) X0) 0)) ∧ W.cell? ⟨gx, 1, none⟩ = some (.int .u64 (wd (fe Mp (Wd ^ 6) X0) 1)) ∧ W.cell? ⟨gx, 2, none⟩ = some (.int .u64 (wd (fe Mp (Wd ^ 6) X0) 2)) ∧ W.cell? ⟨gx, 3, none⟩ = some (.int .u64 (wd (fe Mp (Wd ^ 6) X0) 3)) ∧ W.cell? ⟨gx, 4, none⟩ = some (.int .u64 (wd (fe Mp (Wd ^ 6) X0) 4)) ∧ W.cell? ⟨gx, 5, none⟩ = some (.int .u64 (wd (fe Mp (Wd ^ 6) X0) 5)) ∧ W.cell? ⟨gy, 0, none⟩ = some (.int .u64 (wd (fe Mp (Wd ^ 6) R) 0)) ∧ W.cell? ⟨gy, 1, none⟩ = some (.int .u64 (wd (fe Mp (Wd ^ 6) R) 1)) ∧ W.cell? ⟨gy, 2, none⟩ = some (.int .u64 (wd (fe Mp (Wd ^ 6) R) 2)) ∧ W.cell? ⟨gy, 3, none⟩ = some (.int .u64 (wd (fe Mp (Wd ^ 6) R) 3)) ∧ W.cell? ⟨gy, 4, none⟩ = some (.int .u64 (wd (fe Mp (Wd ^ 6) R) 4)) ∧ W.cell? ⟨gy, 5, none⟩ = some (.int .u64 (wd (fe Mp (Wd ^ 6) R) 5)) ∧ W.cell? ⟨gu, 0, none⟩ = some (.int .u64 (wd (fe Mp (Wd ^ 6) 0) 0)) ∧ W.cell? ⟨gu, 1, none⟩ = some (.int .u64 (wd (fe Mp (Wd ^ 6) 0) 1)) ∧ W.cell? ⟨gu, 2, none⟩ = some (.int .u64 (wd (fe Mp (Wd ^ 6) 0) 2)) ∧ W.cell? ⟨gu, 3, none⟩ = some (.int .u64 (wd (fe Mp (Wd ^ 6) 0) 3)) ∧ W.cell? ⟨gu, 4, none⟩ = some (.int .u64 (wd (fe Mp (Wd ^ 6) 0) 4)) ∧ W.cell? ⟨gu, 5, none⟩ = some (.int .u64 (wd (fe Mp (Wd ^ 6) 0) 5)) ∧ W.cell? ⟨gv, 0, none⟩ = some (.int .u64 (wd (fe Mp (Wd ^ 6) B) 0)) ∧ W.cell? ⟨gv, 1, none⟩ = some (.int .u64 (wd (fe Mp (Wd ^ 6) B) 1)) ∧ W.cell? ⟨gv, 2, none⟩ = some (.int .u64 (wd (fe Mp (Wd ^ 6) B) 2)) ∧ W.cell? ⟨gv, 3, none⟩ = some (.int .u64 (wd (fe Mp (Wd ^ 6) B) 3)) ∧ W.cell? ⟨gv, 4, none⟩ = some (.int .u64 (wd (fe Mp (Wd ^ 6) B) 4)) ∧ W.cell? ⟨gv, 5, none⟩ = some (.int .u64 (wd (fe Mp (Wd ^ 6) B) 5)) ∧ Hid (Below w14.heap.size w14 W)) := Lib.hid (fun W hW => by
        obtain ⟨qx0, qx1, qx2, qx3, qx4, qx5⟩ := cells6 (Kx_14.out.keep hW.out)
        obtain ⟨qy0, qy1, qy2, qy3, qy4, qy5⟩ := cells6 (Ky_14.out.keep hW.out)
        obtain ⟨qu0, qu1, qu2, qu3, qu4, qu5⟩ := cells6 (Ku_14.out.keep hW.out)
        obtain ⟨qv0, qv1, qv2, qv3, qv4, qv5⟩ := cells6 (Kv_14.out.keep hW.out)
        exact ⟨qx0, qx1, qx2, qx3, qx4, qx5, qy0, qy1, qy2, qy3, qy4, qy5, qu0, qu1, qu2, qu3, qu4, qu5, qv0, qv1, qv2, qv3, qv4, qv5, hW⟩)
      go_region_held3 (fun W => W.cell? ⟨gx, 0, none⟩ = some (.int .u64 (wd (fe Mp (Wd ^ 6) X0) 0)) ∧ W.cell? ⟨gx, 1, none⟩ = some (.int .u64 (wd (fe Mp (Wd ^ 6) X0) 1)) ∧ W.cell? ⟨gx, 2, none⟩ = some (.int .u64 (wd (fe Mp (Wd ^ 6) X0) 2)) ∧ W.cell? ⟨gx, 3, none⟩ = some (.int .u64 (wd (fe Mp (Wd ^ 6) X0) 3)) ∧ W.cell? ⟨gx, 4, none⟩ = some (.int .u64 (wd (fe Mp (Wd ^ 6) X0) 4)) ∧ W.cell? ⟨gx, 5, none⟩ = some (.int .u64 (wd (fe Mp (Wd ^ 6) X0) 5)) ∧ W.cell? ⟨gy, 0, none⟩ = some (.int .u64 (wd (fe Mp (Wd ^ 6) R) 0)) ∧ W.cell? ⟨gy, 1, none⟩ = some (.int .u64 (wd (fe Mp (Wd ^ 6) R) 1)) ∧ W.cell? ⟨gy, 2, none⟩ = some (.int .u64 (wd (fe Mp (Wd ^ 6) R) 2)) ∧ W.cell? ⟨gy, 3, none⟩ = some (.int .u64 (wd (fe Mp (Wd ^ 6) R) 3)) ∧ W.cell? ⟨gy, 4, none⟩ = some (.int .u64 (wd (fe Mp (Wd ^ 6) R) 4)) ∧ W.cell? ⟨gy, 5, none⟩ = some (.int .u64 (wd (fe Mp (Wd ^ 6) R) 5)) ∧ W.cell? ⟨gu, 0, none⟩ = some (.int .u64 (wd (fe Mp (Wd ^ 6) 0) 0)) ∧ W.cell? ⟨gu, 1, none⟩ = some (.int .u64 (wd (fe Mp (Wd ^ 6) 0) 1)) ∧ W.cell? ⟨gu, 2, none⟩ = some (.int .u64 (wd (fe Mp (Wd ^ 6) 0) 2)) ∧ W.cell? ⟨gu, 3, none⟩ = some (.int .u64 (wd (fe Mp (Wd ^ 6) 0) 3)) ∧ W.cell? ⟨gu, 4, none⟩ = some (.int .u64 (wd (fe Mp (Wd ^ 6) 0) 4)) ∧ W.cell? ⟨gu, 5, none⟩ = some (.int .u64 (wd (fe Mp (Wd ^ 6) 0) 5)) ∧ W.cell? ⟨gv, 0, none⟩ = some (.int .u64 (wd (fe Mp (Wd ^ 6) B) 0)) ∧ W.cell? ⟨gv, 1, none⟩ = some (.int .u64 (wd (fe Mp (Wd ^ 6) B) 1)) ∧ W.cell? ⟨gv, 2, none⟩ = some (.int .u64 (wd (fe Mp (Wd ^ 6) B) 2)) ∧ W.cell? ⟨gv, 3, none⟩ = some (.int .u64 (wd (fe Mp (Wd ^ 6) B) 3)) ∧ W.cell? ⟨gv, 4, none⟩ = some (.int .u64 (wd (fe Mp (Wd ^ 6) B) 4)) ∧ W.cell? ⟨gv, 5, none⟩ = some (.int .u64 (wd (fe Mp (Wd ^ 6) B) 5)) ∧ Hid (Below w14.heap.size w14 W)) (first | exact SS14.out _ D14 | exact SS14.out _ (by with_reducible assumption)) (first
        | (go_at_call 18; (with_reducible refine (A1_0.out _ (by first | exact D14 | with_reducible assumption)).mono ?_); rintro e w15 ⟨rfl, HB15⟩)
        | (go_at_call 16; (with_reducible refine (A1_1.out _ (by first | exact D14 | with_reducible assumption)).mono ?_); rintro e w15 ⟨rfl, HB15⟩)
        | (go_at_call 18; (with_reducible refine (A1_2.out _ (by first | exact D14 | with_reducible assumption)).mono ?_); rintro e w15 ⟨rfl, HB15⟩)
        | (go_at_call 19; (with_reducible refine (A1_3.out _ (by first | exact D14 | with_reducible assumption)).mono ?_); rintro e w15 ⟨rfl, HB15⟩)
        | (go_at_call 19; (with_reducible refine (A1_4.out _ (by first | exact D14 | with_reducible assumption)).mono ?_); rintro e w15 ⟨rfl, HB15⟩))
      have B15 := Lib.hid (B14.out.trans (HB15.out.mono B14.out.size))
      have Kx_15 := Lib.hid (Kx_14.out.keep HB15.out)
      have Ky_15 := Lib.hid (Ky_14.out.keep HB15.out)
      have Ku_15 := Lib.hid (Ku_14.out.keep HB15.out)
      have Kv_15 := Lib.hid (Kv_14.out.keep HB15.out)
      clear B14 SS14 D14 HB15 Kx_14 Ky_14 Ku_14 Kv_14 A1_0 A1_1 A1_2 A1_3 A1_4
      obtain ⟨cx0, cx1, cx2, cx3, cx4, cx5⟩ := cells6 Kx_15.out
      have zx := Kx_15.out.lt
      obtain ⟨cy0, cy1, cy2, cy3, cy4, cy5⟩ := cells6 Ky_15.out
      have zy := Ky_15.out.lt
      obtain ⟨cu0, cu1, cu2, cu3, cu4, cu5⟩ := cells6 Ku_15.out
      have zu := Ku_15.out.lt
      obtain ⟨cv0, cv1, cv2, cv3, cv4, cv5⟩ := cells6 Kv_15.out
      have zv := Kv_15.out.lt
      go_wp2_with fail
      go_ret
      exact ⟨rfl, B15.out⟩
  · have hn : N % Mp % 2 = 1 := HOD.out.2 ho
    have O1 := Lib.hid (show decide (X0 % Mp % 2 = 1) = false by simpa using ho)
    have O2 := Lib.hid (show decide (N % Mp % 2 = 1) = true by simpa using hn)
    clear ho hn
    by_cases hl : X0 % Mp < Up
    · have hm : Up ≤ N % Mp := HLA.out.2 hl
      have M1 := Lib.hid hl
      have M2 := Lib.hid hm
      clear hm
      clear hl
      have GV1 := Lib.hid (HG.out.keep B14.out)
      have UV1 := Lib.hid (HU.out.keep B14.out)
      have h1_0 := based_oddp w14 GV1.out (X0)
      rw [O1.out] at h1_0
      unfold pv arr6 at h1_0
      have A1_0 := Lib.hid h1_0
      clear h1_0
      have h1_1 := based_negp w14 GV1.out (X0)
      rw [← HN.out] at h1_1
      unfold pv arr6 at h1_1
      have A1_1 := Lib.hid h1_1
      clear h1_1
      have h1_2 := based_oddp w14 GV1.out (N)
      rw [O2.out] at h1_2
      unfold pv arr6 at h1_2
      have A1_2 := Lib.hid h1_2
      clear h1_2
      have h1_3 := based_largeltp w14 GV1.out UV1.out (X0) M1.out
      unfold pv arr6 at h1_3
      have A1_3 := Lib.hid h1_3
      clear h1_3
      have h1_4 := based_largegep w14 GV1.out UV1.out (N) M2.out
      unfold pv arr6 at h1_4
      have A1_4 := Lib.hid h1_4
      clear h1_4
      clear cx0 cx1 cx2 cx3 cx4 cx5 zx cy0 cy1 cy2 cy3 cy4 cy5 zy cu0 cu1 cu2 cu3 cu4 cu5 zu cv0 cv1 cv2 cv3 cv4 cv5 zv
      have D14 := hid_drew w14
      have SS14 : Hid (∀ W, Hid (Below w14.heap.size w14 W) → W.cell? ⟨gx, 0, none⟩ = some (.int .u64 (wd (fe Mp (Wd ^ 6) X0) 0)) ∧ W.cell? ⟨gx, 1, none⟩ = some (.int .u64 (wd (fe Mp (Wd ^ 6) X0) 1)) ∧ W.cell? ⟨gx, 2, none⟩ = some (.int .u64 (wd (fe Mp (Wd ^ 6) X0) 2)) ∧ W.cell? ⟨gx, 3, none⟩ = some (.int .u64 (wd (fe Mp (Wd ^ 6) X0) 3)) ∧ W.cell? ⟨gx, 4, none⟩ = some (.int .u64 (wd (fe Mp (Wd ^ 6) X0) 4)) ∧ W.cell? ⟨gx, 5, none⟩ = some (.int .u64 (wd (fe Mp (Wd ^ 6) X0) 5)) ∧ W.cell? ⟨gy, 0, none⟩ = some (.int .u64 (wd (fe Mp (Wd ^ 6) R) 0)) ∧ W.cell? ⟨gy, 1, none⟩ = some (.int .u64 (wd (fe Mp (Wd ^ 6) R) 1)) ∧ W.cell? ⟨gy, 2, none⟩ = some (.int .u64 (wd (fe Mp (Wd ^ 6) R) 2)) ∧ W.cell? ⟨gy, 3, none⟩ = some (.int .u64 (wd (fe Mp (Wd ^ 6) R) 3)) ∧ W.cell? ⟨gy, 4, none⟩ = some (.int .u64 (wd (fe Mp (Wd ^ 6) R) 4)) ∧ W.cell? ⟨gy, 5, none⟩ = some (.int .u64 (wd (fe Mp (Wd ^ 6) R) 5)) ∧ W.cell? ⟨gu, 0, none⟩ = some (.int .u64 (wd (fe Mp (Wd ^ 6) 0) 0)) ∧ W.cell? ⟨gu, 1, none⟩ = some (.int .u64 (wd (fe Mp (Wd ^ 6) 0) 1)) ∧ W.cell? ⟨gu, 2, none⟩ = some (.int .u64 (wd (fe Mp (Wd ^ 6) 0) 2)) ∧ W.cell? ⟨gu, 3, none⟩ = some (.int .u64 (wd (fe Mp (Wd ^ 6) 0) 3)) ∧ W.cell? ⟨gu, 4, none⟩ = some (.int .u64 (wd (fe Mp (Wd ^ 6) 0) 4)) ∧ W.cell? ⟨gu, 5, none⟩ = some (.int .u64 (wd (fe Mp (Wd ^ 6) 0) 5)) ∧ W.cell? ⟨gv, 0, none⟩ = some (.int .u64 (wd (fe Mp (Wd ^ 6) B) 0)) ∧ W.cell? ⟨gv, 1, none⟩ = some (.int .u64 (wd (fe Mp (Wd ^ 6) B) 1)) ∧ W.cell? ⟨gv, 2, none⟩ = some (.int .u64 (wd (fe Mp (Wd ^ 6) B) 2)) ∧ W.cell? ⟨gv, 3, none⟩ = some (.int .u64 (wd (fe Mp (Wd ^ 6) B) 3)) ∧ W.cell? ⟨gv, 4, none⟩ = some (.int .u64 (wd (fe Mp (Wd ^ 6) B) 4)) ∧ W.cell? ⟨gv, 5, none⟩ = some (.int .u64 (wd (fe Mp (Wd ^ 6) B) 5)) ∧ Hid (Below w14.heap.size w14 W)) := Lib.hid (fun W hW => by
        obtain ⟨qx0, qx1, qx2, qx3, qx4, qx5⟩ := cells6 (Kx_14.out.keep hW.out)
        obtain ⟨qy0, qy1, qy2, qy3, qy4, qy5⟩ := cells6 (Ky_14.out.keep hW.out)
        obtain ⟨qu0, qu1, qu2, qu3, qu4, qu5⟩ := cells6 (Ku_14.out.keep hW.out)
        obtain ⟨qv0, qv1, qv2, qv3, qv4, qv5⟩ := cells6 (Kv_14.out.keep hW.out)
        exact ⟨qx0, qx1, qx2, qx3, qx4, qx5, qy0, qy1, qy2, qy3, qy4, qy5, qu0, qu1, qu2, qu3, qu4, qu5, qv0, qv1, qv2, qv3, qv4, qv5, hW⟩)
      go_region_held3 (fun W => W.cell? ⟨gx, 0, none⟩ = some (.int .u64 (wd (fe Mp (Wd ^ 6) X0) 0)) ∧ W.cell? ⟨gx, 1, none⟩ = some (.int .u64 (wd (fe Mp (Wd ^ 6) X0) 1)) ∧ W.cell? ⟨gx, 2, none⟩ = some (.int .u64 (wd (fe Mp (Wd ^ 6) X0) 2)) ∧ W.cell? ⟨gx, 3, none⟩ = some (.int .u64 (wd (fe Mp (Wd ^ 6) X0) 3)) ∧ W.cell? ⟨gx, 4, none⟩ = some (.int .u64 (wd (fe Mp (Wd ^ 6) X0) 4)) ∧ W.cell? ⟨gx, 5, none⟩ = some (.int .u64 (wd (fe Mp (Wd ^ 6) X0) 5)) ∧ W.cell? ⟨gy, 0, none⟩ = some (.int .u64 (wd (fe Mp (Wd ^ 6) R) 0)) ∧ W.cell? ⟨gy, 1, none⟩ = some (.int .u64 (wd (fe Mp (Wd ^ 6) R) 1)) ∧ W.cell? ⟨gy, 2, none⟩ = some (.int .u64 (wd (fe Mp (Wd ^ 6) R) 2)) ∧ W.cell? ⟨gy, 3, none⟩ = some (.int .u64 (wd (fe Mp (Wd ^ 6) R) 3)) ∧ W.cell? ⟨gy, 4, none⟩ = some (.int .u64 (wd (fe Mp (Wd ^ 6) R) 4)) ∧ W.cell? ⟨gy, 5, none⟩ = some (.int .u64 (wd (fe Mp (Wd ^ 6) R) 5)) ∧ W.cell? ⟨gu, 0, none⟩ = some (.int .u64 (wd (fe Mp (Wd ^ 6) 0) 0)) ∧ W.cell? ⟨gu, 1, none⟩ = some (.int .u64 (wd (fe Mp (Wd ^ 6) 0) 1)) ∧ W.cell? ⟨gu, 2, none⟩ = some (.int .u64 (wd (fe Mp (Wd ^ 6) 0) 2)) ∧ W.cell? ⟨gu, 3, none⟩ = some (.int .u64 (wd (fe Mp (Wd ^ 6) 0) 3)) ∧ W.cell? ⟨gu, 4, none⟩ = some (.int .u64 (wd (fe Mp (Wd ^ 6) 0) 4)) ∧ W.cell? ⟨gu, 5, none⟩ = some (.int .u64 (wd (fe Mp (Wd ^ 6) 0) 5)) ∧ W.cell? ⟨gv, 0, none⟩ = some (.int .u64 (wd (fe Mp (Wd ^ 6) B) 0)) ∧ W.cell? ⟨gv, 1, none⟩ = some (.int .u64 (wd (fe Mp (Wd ^ 6) B) 1)) ∧ W.cell? ⟨gv, 2, none⟩ = some (.int .u64 (wd (fe Mp (Wd ^ 6) B) 2)) ∧ W.cell? ⟨gv, 3, none⟩ = some (.int .u64 (wd (fe Mp (Wd ^ 6) B) 3)) ∧ W.cell? ⟨gv, 4, none⟩ = some (.int .u64 (wd (fe Mp (Wd ^ 6) B) 4)) ∧ W.cell? ⟨gv, 5, none⟩ = some (.int .u64 (wd (fe Mp (Wd ^ 6) B) 5)) ∧ Hid (Below w14.heap.size w14 W)) (first | exact SS14.out _ D14 | exact SS14.out _ (by with_reducible assumption)) (first
        | (go_at_call 18; (with_reducible refine (A1_0.out _ (by first | exact D14 | with_reducible assumption)).mono ?_); rintro e w15 ⟨rfl, HB15⟩)
        | (go_at_call 16; (with_reducible refine (A1_1.out _ (by first | exact D14 | with_reducible assumption)).mono ?_); rintro e w15 ⟨rfl, HB15⟩)
        | (go_at_call 18; (with_reducible refine (A1_2.out _ (by first | exact D14 | with_reducible assumption)).mono ?_); rintro e w15 ⟨rfl, HB15⟩)
        | (go_at_call 19; (with_reducible refine (A1_3.out _ (by first | exact D14 | with_reducible assumption)).mono ?_); rintro e w15 ⟨rfl, HB15⟩)
        | (go_at_call 19; (with_reducible refine (A1_4.out _ (by first | exact D14 | with_reducible assumption)).mono ?_); rintro e w15 ⟨rfl, HB15⟩))
      have B15 := Lib.hid (B14.out.trans (HB15.out.mono B14.out.size))
      have Kx_15 := Lib.hid (Kx_14.out.keep HB15.out)
      have Ky_15 := Lib.hid (Ky_14.out.keep HB15.out)
      have Ku_15 := Lib.hid (Ku_14.out.keep HB15.out)
      have Kv_15 := Lib.hid (Kv_14.out.keep HB15.out)
      clear B14 SS14 D14 HB15 Kx_14 Ky_14 Ku_14 Kv_14 A1_0 A1_1 A1_2 A1_3 A1_4
      obtain ⟨cx0, cx1, cx2, cx3, cx4, cx5⟩ := cells6 Kx_15.out
      have zx := Kx_15.out.lt
      obtain ⟨cy0, cy1, cy2, cy3, cy4, cy5⟩ := cells6 Ky_15.out
      have zy := Ky_15.out.lt
      obtain ⟨cu0, cu1, cu2, cu3, cu4, cu5⟩ := cells6 Ku_15.out
      have zu := Ku_15.out.lt
      obtain ⟨cv0, cv1, cv2, cv3, cv4, cv5⟩ := cells6 Kv_15.out
      have zv := Kv_15.out.lt
      go_wp2_with fail
      go_ret
      exact ⟨rfl, B15.out⟩
    · have hm : N % Mp < Up := by have := HLA.out; omega
      have hl : Up ≤ X0 % Mp := by omega
      have M1 := Lib.hid hl
      have M2 := Lib.hid hm
      clear hm
      clear hl
      have GV1 := Lib.hid (HG.out.keep B14.out)
      have UV1 := Lib.hid (HU.out.keep B14.out)
      have h1_0 := based_oddp w14 GV1.out (X0)
      rw [O1.out] at h1_0
      unfold pv arr6 at h1_0
      have A1_0 := Lib.hid h1_0
      clear h1_0
      have h1_1 := based_negp w14 GV1.out (X0)
      rw [← HN.out] at h1_1
      unfold pv arr6 at h1_1
      have A1_1 := Lib.hid h1_1
      clear h1_1
      have h1_2 := based_oddp w14 GV1.out (N)
      rw [O2.out] at h1_2
      unfold pv arr6 at h1_2
      have A1_2 := Lib.hid h1_2
      clear h1_2
      have h1_3 := based_largegep w14 GV1.out UV1.out (X0) M1.out
      unfold pv arr6 at h1_3
      have A1_3 := Lib.hid h1_3
      clear h1_3
      have h1_4 := based_largeltp w14 GV1.out UV1.out (N) M2.out
      unfold pv arr6 at h1_4
      have A1_4 := Lib.hid h1_4
      clear h1_4
      clear cx0 cx1 cx2 cx3 cx4 cx5 zx cy0 cy1 cy2 cy3 cy4 cy5 zy cu0 cu1 cu2 cu3 cu4 cu5 zu cv0 cv1 cv2 cv3 cv4 cv5 zv
      have D14 := hid_drew w14
      have SS14 : Hid (∀ W, Hid (Below w14.heap.size w14 W) → W.cell? ⟨gx, 0, none⟩ = some (.int .u64 (wd (fe Mp (Wd ^ 6) X0) 0)) ∧ W.cell? ⟨gx, 1, none⟩ = some (.int .u64 (wd (fe Mp (Wd ^ 6) X0) 1)) ∧ W.cell? ⟨gx, 2, none⟩ = some (.int .u64 (wd (fe Mp (Wd ^ 6) X0) 2)) ∧ W.cell? ⟨gx, 3, none⟩ = some (.int .u64 (wd (fe Mp (Wd ^ 6) X0) 3)) ∧ W.cell? ⟨gx, 4, none⟩ = some (.int .u64 (wd (fe Mp (Wd ^ 6) X0) 4)) ∧ W.cell? ⟨gx, 5, none⟩ = some (.int .u64 (wd (fe Mp (Wd ^ 6) X0) 5)) ∧ W.cell? ⟨gy, 0, none⟩ = some (.int .u64 (wd (fe Mp (Wd ^ 6) R) 0)) ∧ W.cell? ⟨gy, 1, none⟩ = some (.int .u64 (wd (fe Mp (Wd ^ 6) R) 1)) ∧ W.cell? ⟨gy, 2, none⟩ = some (.int .u64 (wd (fe Mp (Wd ^ 6) R) 2)) ∧ W.cell? ⟨gy, 3, none⟩ = some (.int .u64 (wd (fe Mp (Wd ^ 6) R) 3)) ∧ W.cell? ⟨gy, 4, none⟩ = some (.int .u64 (wd (fe Mp (Wd ^ 6) R) 4)) ∧ W.cell? ⟨gy, 5, none⟩ = some (.int .u64 (wd (fe Mp (Wd ^ 6) R) 5)) ∧ W.cell? ⟨gu, 0, none⟩ = some (.int .u64 (wd (fe Mp (Wd ^ 6) 0) 0)) ∧ W.cell? ⟨gu, 1, none⟩ = some (.int .u64 (wd (fe Mp (Wd ^ 6) 0) 1)) ∧ W.cell? ⟨gu, 2, none⟩ = some (.int .u64 (wd (fe Mp (Wd ^ 6) 0) 2)) ∧ W.cell? ⟨gu, 3, none⟩ = some (.int .u64 (wd (fe Mp (Wd ^ 6) 0) 3)) ∧ W.cell? ⟨gu, 4, none⟩ = some (.int .u64 (wd (fe Mp (Wd ^ 6) 0) 4)) ∧ W.cell? ⟨gu, 5, none⟩ = some (.int .u64 (wd (fe Mp (Wd ^ 6) 0) 5)) ∧ W.cell? ⟨gv, 0, none⟩ = some (.int .u64 (wd (fe Mp (Wd ^ 6) B) 0)) ∧ W.cell? ⟨gv, 1, none⟩ = some (.int .u64 (wd (fe Mp (Wd ^ 6) B) 1)) ∧ W.cell? ⟨gv, 2, none⟩ = some (.int .u64 (wd (fe Mp (Wd ^ 6) B) 2)) ∧ W.cell? ⟨gv, 3, none⟩ = some (.int .u64 (wd (fe Mp (Wd ^ 6) B) 3)) ∧ W.cell? ⟨gv, 4, none⟩ = some (.int .u64 (wd (fe Mp (Wd ^ 6) B) 4)) ∧ W.cell? ⟨gv, 5, none⟩ = some (.int .u64 (wd (fe Mp (Wd ^ 6) B) 5)) ∧ Hid (Below w14.heap.size w14 W)) := Lib.hid (fun W hW => by
        obtain ⟨qx0, qx1, qx2, qx3, qx4, qx5⟩ := cells6 (Kx_14.out.keep hW.out)
        obtain ⟨qy0, qy1, qy2, qy3, qy4, qy5⟩ := cells6 (Ky_14.out.keep hW.out)
        obtain ⟨qu0, qu1, qu2, qu3, qu4, qu5⟩ := cells6 (Ku_14.out.keep hW.out)
        obtain ⟨qv0, qv1, qv2, qv3, qv4, qv5⟩ := cells6 (Kv_14.out.keep hW.out)
        exact ⟨qx0, qx1, qx2, qx3, qx4, qx5, qy0, qy1, qy2, qy3, qy4, qy5, qu0, qu1, qu2, qu3, qu4, qu5, qv0, qv1, qv2, qv3, qv4, qv5, hW⟩)
      go_region_held3 (fun W => W.cell? ⟨gx, 0, none⟩ = some (.int .u64 (wd (fe Mp (Wd ^ 6) X0) 0)) ∧ W.cell? ⟨gx, 1, none⟩ = some (.int .u64 (wd (fe Mp (Wd ^ 6) X0) 1)) ∧ W.cell? ⟨gx, 2, none⟩ = some (.int .u64 (wd (fe Mp (Wd ^ 6) X0) 2)) ∧ W.cell? ⟨gx, 3, none⟩ = some (.int .u64 (wd (fe Mp (Wd ^ 6) X0) 3)) ∧ W.cell? ⟨gx, 4, none⟩ = some (.int .u64 (wd (fe Mp (Wd ^ 6) X0) 4)) ∧ W.cell? ⟨gx, 5, none⟩ = some (.int .u64 (wd (fe Mp (Wd ^ 6) X0) 5)) ∧ W.cell? ⟨gy, 0, none⟩ = some (.int .u64 (wd (fe Mp (Wd ^ 6) R) 0)) ∧ W.cell? ⟨gy, 1, none⟩ = some (.int .u64 (wd (fe Mp (Wd ^ 6) R) 1)) ∧ W.cell? ⟨gy, 2, none⟩ = some (.int .u64 (wd (fe Mp (Wd ^ 6) R) 2)) ∧ W.cell? ⟨gy, 3, none⟩ = some (.int .u64 (wd (fe Mp (Wd ^ 6) R) 3)) ∧ W.cell? ⟨gy, 4, none⟩ = some (.int .u64 (wd (fe Mp (Wd ^ 6) R) 4)) ∧ W.cell? ⟨gy, 5, none⟩ = some (.int .u64 (wd (fe Mp (Wd ^ 6) R) 5)) ∧ W.cell? ⟨gu, 0, none⟩ = some (.int .u64 (wd (fe Mp (Wd ^ 6) 0) 0)) ∧ W.cell? ⟨gu, 1, none⟩ = some (.int .u64 (wd (fe Mp (Wd ^ 6) 0) 1)) ∧ W.cell? ⟨gu, 2, none⟩ = some (.int .u64 (wd (fe Mp (Wd ^ 6) 0) 2)) ∧ W.cell? ⟨gu, 3, none⟩ = some (.int .u64 (wd (fe Mp (Wd ^ 6) 0) 3)) ∧ W.cell? ⟨gu, 4, none⟩ = some (.int .u64 (wd (fe Mp (Wd ^ 6) 0) 4)) ∧ W.cell? ⟨gu, 5, none⟩ = some (.int .u64 (wd (fe Mp (Wd ^ 6) 0) 5)) ∧ W.cell? ⟨gv, 0, none⟩ = some (.int .u64 (wd (fe Mp (Wd ^ 6) B) 0)) ∧ W.cell? ⟨gv, 1, none⟩ = some (.int .u64 (wd (fe Mp (Wd ^ 6) B) 1)) ∧ W.cell? ⟨gv, 2, none⟩ = some (.int .u64 (wd (fe Mp (Wd ^ 6) B) 2)) ∧ W.cell? ⟨gv, 3, none⟩ = some (.int .u64 (wd (fe Mp (Wd ^ 6) B) 3)) ∧ W.cell? ⟨gv, 4, none⟩ = some (.int .u64 (wd (fe Mp (Wd ^ 6) B) 4)) ∧ W.cell? ⟨gv, 5, none⟩ = some (.int .u64 (wd (fe Mp (Wd ^ 6) B) 5)) ∧ Hid (Below w14.heap.size w14 W)) (first | exact SS14.out _ D14 | exact SS14.out _ (by with_reducible assumption)) (first
        | (go_at_call 18; (with_reducible refine (A1_0.out _ (by first | exact D14 | with_reducible assumption)).mono ?_); rintro e w15 ⟨rfl, HB15⟩)
        | (go_at_call 16; (with_reducible refine (A1_1.out _ (by first | exact D14 | with_reducible assumption)).mono ?_); rintro e w15 ⟨rfl, HB15⟩)
        | (go_at_call 18; (with_reducible refine (A1_2.out _ (by first | exact D14 | with_reducible assumption)).mono ?_); rintro e w15 ⟨rfl, HB15⟩)
        | (go_at_call 19; (with_reducible refine (A1_3.out _ (by first | exact D14 | with_reducible assumption)).mono ?_); rintro e w15 ⟨rfl, HB15⟩)
        | (go_at_call 19; (with_reducible refine (A1_4.out _ (by first | exact D14 | with_reducible assumption)).mono ?_); rintro e w15 ⟨rfl, HB15⟩))
      have B15 := Lib.hid (B14.out.trans (HB15.out.mono B14.out.size))
      have Kx_15 := Lib.hid (Kx_14.out.keep HB15.out)
      have Ky_15 := Lib.hid (Ky_14.out.keep HB15.out)
      have Ku_15 := Lib.hid (Ku_14.out.keep HB15.out)
      have Kv_15 := Lib.hid (Kv_14.out.keep HB15.out)
      clear B14 SS14 D14 HB15 Kx_14 Ky_14 Ku_14 Kv_14 A1_0 A1_1 A1_2 A1_3 A1_4
      obtain ⟨cx0, cx1, cx2, cx3, cx4, cx5⟩ := cells6 Kx_15.out
      have zx := Kx_15.out.lt
      obtain ⟨cy0, cy1, cy2, cy3, cy4, cy5⟩ := cells6 Ky_15.out
      have zy := Ky_15.out.lt
      obtain ⟨cu0, cu1, cu2, cu3, cu4, cu5⟩ := cells6 Ku_15.out
      have zu := Ku_15.out.lt
      obtain ⟨cv0, cv1, cv2, cv3, cv4, cv5⟩ := cells6 Kv_15.out
      have zv := Kv_15.out.lt
      go_wp2_with fail
      go_ret
      exact ⟨rfl, B15.out⟩
set_option maxRecDepth 100000 in
set_option maxHeartbeats 8000000 in
theorem squaresp_ms (w : World) (hG : GM0 w) (hS : GSqp w) (hH : GShp w) (hQ : GQp w) (hU : GUp w) (A0 : Option Addr) (L0 c0 : Nat) (bs0 : List Int) (hr0 : Reads w w.heap.size A0 L0 (bs0.map (Value.int .u8))) (ho0 : Oct bs0) (h0 : L0 ≤ 400) (hx : ¬ num bs0 % Mp = 0) (hr : ¬ (num bs0 * num bs0) ^ Qp % Mp = num bs0 % Mp) (hxs : num bs0 ^ Qp * num bs0 ^ Qp % Mp = num bs0 % Mp) :
    Calls Tryd.prog 3 #[.slice A0 L0 c0] w fun e w' => e = .returned (.bool true) ∧ Below w.heap.size w w' := by
  have HG := Lib.hid hG
  have HS := Lib.hid hS
  have HH := Lib.hid hH
  have HQ := Lib.hid hQ
  have HU := Lib.hid hU
  have HR0 := Lib.hid hr0
  have HO0 := Lib.hid ho0
  have HL0 := Lib.hid (show bs0.length = L0 by simpa using hr0.1)
  obtain ⟨X0, hX0⟩ : ∃ X, X = num bs0 := ⟨_, rfl⟩
  rw [← hX0] at hx hr hxs
  obtain ⟨N, hN⟩ : ∃ N, N = -X0 := ⟨_, rfl⟩
  have hnsq := neg_sq X0 hx
  have hrt := root_square X0
  have hod := odd_neg X0 hx
  have hla := large_neg X0 hx
  rw [← hN] at hnsq hrt hod hla
  obtain ⟨R, hR⟩ : ∃ R, R = (X0 * X0) ^ Qp := ⟨_, rfl⟩
  obtain ⟨A, hA⟩ : ∃ R, R = X0 ^ Qp := ⟨_, rfl⟩
  obtain ⟨B, hB⟩ : ∃ R, R = N ^ Qp := ⟨_, rfl⟩
  have hsq := square_sq X0
  have hns : ¬ N ^ Qp * N ^ Qp % Mp = N % Mp := fun h => hnsq.1 h hxs
  have hs_sq := fun W a b c => fp_sqrt_yes (X0 * X0) W a b c hsq
  simp only [← hR] at hs_sq
  have S_sq := Lib.hid hs_sq
  clear hs_sq
  have hs_xs := fun W a b c => fp_sqrt_yes (X0) W a b c hxs
  simp only [← hA] at hs_xs
  have S_xs := Lib.hid hs_xs
  clear hs_xs
  have hs_ns := fun W a b c => fp_sqrt_no (N) W a b c hns
  simp only [pv_zero] at hs_ns
  have S_ns := Lib.hid hs_ns
  clear hs_ns
  rw [← hR] at hr hrt
  have q1 := pv_unlike R X0 hr
  have q2 := pv_same R N (hrt.resolve_left hr)
  have hz : decide (X0 % Mp = 0) = false := by simpa using hx
  have HN := Lib.hid hN
  have HZ := Lib.hid hz
  have HOD := Lib.hid hod
  have HLA := Lib.hid hla
  clear hR hA hB hsq hxs hns hnsq hrt hr hz hod hla hN hx
  have HX0 := Lib.hid hX0
  clear hX0 hr0 ho0
  clear hG hS hH hQ hU
  have B0 : Hid (Below w.heap.size w w) := Lib.hid (Below.refl _ _)
  go_enter Tryd.func3, Tryd.ntmps3
  go_wp2_with fail
  refine (fp_head _ (HG.out.keep B0.out) (HS.out.keep B0.out) (HQ.out.keep B0.out) (HU.out.keep B0.out)).mono ?_
  rintro e w1 ⟨rfl, hb⟩
  have B1 := Lib.hid (B0.out.trans (hb.mono B0.out.size))
  clear hb B0 
  go_wp2_with fail
  refine (copy_any w1 A0 L0 c0 bs0 ((HR0.out.below B1.out).more B1.out.size) (by omega)).mono ?_
  rintro e w2 ⟨gc0, rfl, -, hBc, hb⟩
  have RC0 := Lib.hid (copy_reads hBc HL0.out)
  have B2 := Lib.hid (B1.out.trans (hb.mono B1.out.size))
  clear hb hBc B1 
  go_wp2_with fail
  refine (fp_wide _ (HG.out.keep B2.out) (HS.out.keep B2.out) (HH.out.keep B2.out) (some ⟨gc0, 0, none⟩) L0 L0 bs0 RC0.out HO0.out (Nat.le_refl _) (by omega)).mono ?_
  rintro e w3 ⟨rfl, hb⟩
  have B3 := Lib.hid (B2.out.trans (hb.mono B2.out.size))
  clear hb B2 
  rw [← HX0.out]
  unfold pv arr6
  go_wp2_with fail
  have B4 := Lib.hid (B3.out.alloc B3.out.size (Obj.cells #[.int .u64 (wd (fe Mp (Wd ^ 6) X0) 0), .int .u64 (wd (fe Mp (Wd ^ 6) X0) 1), .int .u64 (wd (fe Mp (Wd ^ 6) X0) 2), .int .u64 (wd (fe Mp (Wd ^ 6) X0) 3), .int .u64 (wd (fe Mp (Wd ^ 6) X0) 4), .int .u64 (wd (fe Mp (Wd ^ 6) X0) 5)] 27))
  have Kx_4 := Lib.hid (Blk.new w3 27 #[.int .u64 (wd (fe Mp (Wd ^ 6) X0) 0), .int .u64 (wd (fe Mp (Wd ^ 6) X0) 1), .int .u64 (wd (fe Mp (Wd ^ 6) X0) 2), .int .u64 (wd (fe Mp (Wd ^ 6) X0) 3), .int .u64 (wd (fe Mp (Wd ^ 6) X0) 4), .int .u64 (wd (fe Mp (Wd ^ 6) X0) 5)])
  obtain ⟨gx, hgx⟩ : ∃ g, g = w3.heap.size := ⟨_, rfl⟩
  obtain ⟨w4, hw4⟩ : ∃ W, W = w3.alloc (Obj.cells #[.int .u64 (wd (fe Mp (Wd ^ 6) X0) 0), .int .u64 (wd (fe Mp (Wd ^ 6) X0) 1), .int .u64 (wd (fe Mp (Wd ^ 6) X0) 2), .int .u64 (wd (fe Mp (Wd ^ 6) X0) 3), .int .u64 (wd (fe Mp (Wd ^ 6) X0) 4), .int .u64 (wd (fe Mp (Wd ^ 6) X0) 5)] 27) := ⟨_, rfl⟩
  rw [← hgx] at Kx_4
  simp only [← hw4] at B4 Kx_4
  rw [← hw4, ← hgx]
  clear hw4 hgx B3 
  obtain ⟨cx0, cx1, cx2, cx3, cx4, cx5⟩ := cells6 Kx_4.out
  have zx := Kx_4.out.lt
  refine (fp_square X0 _ (HG.out.keep B4.out)).mono ?_
  rintro e w5 ⟨rfl, hb⟩
  clear cx0 cx1 cx2 cx3 cx4 cx5 zx
  have B5 := Lib.hid (B4.out.trans (hb.mono B4.out.size))
  have Kx_5 := Lib.hid (Kx_4.out.keep hb)
  clear hb B4 Kx_4
  obtain ⟨cx0, cx1, cx2, cx3, cx4, cx5⟩ := cells6 Kx_5.out
  have zx := Kx_5.out.lt
  go_wp2_with fail
  refine (S_sq.out _ (HG.out.keep B5.out) (HS.out.keep B5.out) (HQ.out.keep B5.out)).mono ?_
  rintro e w6 ⟨rfl, hb⟩
  clear cx0 cx1 cx2 cx3 cx4 cx5 zx
  have B6 := Lib.hid (B5.out.trans (hb.mono B5.out.size))
  have Kx_6 := Lib.hid (Kx_5.out.keep hb)
  clear hb B5 Kx_5
  obtain ⟨cx0, cx1, cx2, cx3, cx4, cx5⟩ := cells6 Kx_6.out
  have zx := Kx_6.out.lt
  unfold pv arr6
  go_wp2_with fail
  clear cx0 cx1 cx2 cx3 cx4 cx5 zx
  have B7 := Lib.hid (B6.out.alloc B6.out.size (Obj.cells #[.int .u64 (wd (fe Mp (Wd ^ 6) R) 0), .int .u64 (wd (fe Mp (Wd ^ 6) R) 1), .int .u64 (wd (fe Mp (Wd ^ 6) R) 2), .int .u64 (wd (fe Mp (Wd ^ 6) R) 3), .int .u64 (wd (fe Mp (Wd ^ 6) R) 4), .int .u64 (wd (fe Mp (Wd ^ 6) R) 5)] 27))
  have Kx_7 := Lib.hid (Kx_6.out.alloc (Obj.cells #[.int .u64 (wd (fe Mp (Wd ^ 6) R) 0), .int .u64 (wd (fe Mp (Wd ^ 6) R) 1), .int .u64 (wd (fe Mp (Wd ^ 6) R) 2), .int .u64 (wd (fe Mp (Wd ^ 6) R) 3), .int .u64 (wd (fe Mp (Wd ^ 6) R) 4), .int .u64 (wd (fe Mp (Wd ^ 6) R) 5)] 27))
  have Ky_7 := Lib.hid (Blk.new w6 27 #[.int .u64 (wd (fe Mp (Wd ^ 6) R) 0), .int .u64 (wd (fe Mp (Wd ^ 6) R) 1), .int .u64 (wd (fe Mp (Wd ^ 6) R) 2), .int .u64 (wd (fe Mp (Wd ^ 6) R) 3), .int .u64 (wd (fe Mp (Wd ^ 6) R) 4), .int .u64 (wd (fe Mp (Wd ^ 6) R) 5)])
  obtain ⟨gy, hgy⟩ : ∃ g, g = w6.heap.size := ⟨_, rfl⟩
  obtain ⟨w7, hw7⟩ : ∃ W, W = w6.alloc (Obj.cells #[.int .u64 (wd (fe Mp (Wd ^ 6) R) 0), .int .u64 (wd (fe Mp (Wd ^ 6) R) 1), .int .u64 (wd (fe Mp (Wd ^ 6) R) 2), .int .u64 (wd (fe Mp (Wd ^ 6) R) 3), .int .u64 (wd (fe Mp (Wd ^ 6) R) 4), .int .u64 (wd (fe Mp (Wd ^ 6) R) 5)] 27) := ⟨_, rfl⟩
  rw [← hgy] at Ky_7
  simp only [← hw7] at B7 Kx_7 Ky_7
  rw [← hw7, ← hgy]
  clear hw7 hgy B6 Kx_6
  obtain ⟨cx0, cx1, cx2, cx3, cx4, cx5⟩ := cells6 Kx_7.out
  have zx := Kx_7.out.lt
  obtain ⟨cy0, cy1, cy2, cy3, cy4, cy5⟩ := cells6 Ky_7.out
  have zy := Ky_7.out.lt
  have GV1 := Lib.hid (HG.out.keep B7.out)
  have h1_0 := based_negp w7 GV1.out (X0)
  rw [← HN.out] at h1_0
  unfold pv arr6 at h1_0
  have A1_0 := Lib.hid h1_0
  clear h1_0
  clear cx0 cx1 cx2 cx3 cx4 cx5 zx cy0 cy1 cy2 cy3 cy4 cy5 zy
  have D7 := hid_drew w7
  have SS7 : Hid (∀ W, Hid (Below w7.heap.size w7 W) → W.cell? ⟨gx, 0, none⟩ = some (.int .u64 (wd (fe Mp (Wd ^ 6) X0) 0)) ∧ W.cell? ⟨gx, 1, none⟩ = some (.int .u64 (wd (fe Mp (Wd ^ 6) X0) 1)) ∧ W.cell? ⟨gx, 2, none⟩ = some (.int .u64 (wd (fe Mp (Wd ^ 6) X0) 2)) ∧ W.cell? ⟨gx, 3, none⟩ = some (.int .u64 (wd (fe Mp (Wd ^ 6) X0) 3)) ∧ W.cell? ⟨gx, 4, none⟩ = some (.int .u64 (wd (fe Mp (Wd ^ 6) X0) 4)) ∧ W.cell? ⟨gx, 5, none⟩ = some (.int .u64 (wd (fe Mp (Wd ^ 6) X0) 5)) ∧ W.cell? ⟨gy, 0, none⟩ = some (.int .u64 (wd (fe Mp (Wd ^ 6) R) 0)) ∧ W.cell? ⟨gy, 1, none⟩ = some (.int .u64 (wd (fe Mp (Wd ^ 6) R) 1)) ∧ W.cell? ⟨gy, 2, none⟩ = some (.int .u64 (wd (fe Mp (Wd ^ 6) R) 2)) ∧ W.cell? ⟨gy, 3, none⟩ = some (.int .u64 (wd (fe Mp (Wd ^ 6) R) 3)) ∧ W.cell? ⟨gy, 4, none⟩ = some (.int .u64 (wd (fe Mp (Wd ^ 6) R) 4)) ∧ W.cell? ⟨gy, 5, none⟩ = some (.int .u64 (wd (fe Mp (Wd ^ 6) R) 5)) ∧ Hid (Below w7.heap.size w7 W)) := Lib.hid (fun W hW => by
    obtain ⟨qx0, qx1, qx2, qx3, qx4, qx5⟩ := cells6 (Kx_7.out.keep hW.out)
    obtain ⟨qy0, qy1, qy2, qy3, qy4, qy5⟩ := cells6 (Ky_7.out.keep hW.out)
    exact ⟨qx0, qx1, qx2, qx3, qx4, qx5, qy0, qy1, qy2, qy3, qy4, qy5, hW⟩)
  go_region_held3 (fun W => W.cell? ⟨gx, 0, none⟩ = some (.int .u64 (wd (fe Mp (Wd ^ 6) X0) 0)) ∧ W.cell? ⟨gx, 1, none⟩ = some (.int .u64 (wd (fe Mp (Wd ^ 6) X0) 1)) ∧ W.cell? ⟨gx, 2, none⟩ = some (.int .u64 (wd (fe Mp (Wd ^ 6) X0) 2)) ∧ W.cell? ⟨gx, 3, none⟩ = some (.int .u64 (wd (fe Mp (Wd ^ 6) X0) 3)) ∧ W.cell? ⟨gx, 4, none⟩ = some (.int .u64 (wd (fe Mp (Wd ^ 6) X0) 4)) ∧ W.cell? ⟨gx, 5, none⟩ = some (.int .u64 (wd (fe Mp (Wd ^ 6) X0) 5)) ∧ W.cell? ⟨gy, 0, none⟩ = some (.int .u64 (wd (fe Mp (Wd ^ 6) R) 0)) ∧ W.cell? ⟨gy, 1, none⟩ = some (.int .u64 (wd (fe Mp (Wd ^ 6) R) 1)) ∧ W.cell? ⟨gy, 2, none⟩ = some (.int .u64 (wd (fe Mp (Wd ^ 6) R) 2)) ∧ W.cell? ⟨gy, 3, none⟩ = some (.int .u64 (wd (fe Mp (Wd ^ 6) R) 3)) ∧ W.cell? ⟨gy, 4, none⟩ = some (.int .u64 (wd (fe Mp (Wd ^ 6) R) 4)) ∧ W.cell? ⟨gy, 5, none⟩ = some (.int .u64 (wd (fe Mp (Wd ^ 6) R) 5)) ∧ Hid (Below w7.heap.size w7 W)) (first | exact SS7.out _ D7 | exact SS7.out _ (by with_reducible assumption)) (first
    | (go_at_call 16; (with_reducible refine (A1_0.out _ (by first | exact D7 | with_reducible assumption)).mono ?_); rintro e w8 ⟨rfl, HB8⟩))
  have B8 := Lib.hid (B7.out.trans (HB8.out.mono B7.out.size))
  have Kx_8 := Lib.hid (Kx_7.out.keep HB8.out)
  have Ky_8 := Lib.hid (Ky_7.out.keep HB8.out)
  clear B7 SS7 D7 HB8 Kx_7 Ky_7 A1_0
  obtain ⟨cx0, cx1, cx2, cx3, cx4, cx5⟩ := cells6 Kx_8.out
  have zx := Kx_8.out.lt
  obtain ⟨cy0, cy1, cy2, cy3, cy4, cy5⟩ := cells6 Ky_8.out
  have zy := Ky_8.out.lt
  go_wp2_with fail
  refine (S_xs.out _ (HG.out.keep B8.out) (HS.out.keep B8.out) (HQ.out.keep B8.out)).mono ?_
  rintro e w9 ⟨rfl, hb⟩
  clear cx0 cx1 cx2 cx3 cx4 cx5 zx cy0 cy1 cy2 cy3 cy4 cy5 zy
  have B9 := Lib.hid (B8.out.trans (hb.mono B8.out.size))
  have Kx_9 := Lib.hid (Kx_8.out.keep hb)
  have Ky_9 := Lib.hid (Ky_8.out.keep hb)
  clear hb B8 Kx_8 Ky_8
  obtain ⟨cx0, cx1, cx2, cx3, cx4, cx5⟩ := cells6 Kx_9.out
  have zx := Kx_9.out.lt
  obtain ⟨cy0, cy1, cy2, cy3, cy4, cy5⟩ := cells6 Ky_9.out
  have zy := Ky_9.out.lt
  unfold pv arr6
  go_wp2_with fail
  clear cx0 cx1 cx2 cx3 cx4 cx5 zx cy0 cy1 cy2 cy3 cy4 cy5 zy
  have B10 := Lib.hid (B9.out.alloc B9.out.size (Obj.cells #[.int .u64 (wd (fe Mp (Wd ^ 6) A) 0), .int .u64 (wd (fe Mp (Wd ^ 6) A) 1), .int .u64 (wd (fe Mp (Wd ^ 6) A) 2), .int .u64 (wd (fe Mp (Wd ^ 6) A) 3), .int .u64 (wd (fe Mp (Wd ^ 6) A) 4), .int .u64 (wd (fe Mp (Wd ^ 6) A) 5)] 27))
  have Kx_10 := Lib.hid (Kx_9.out.alloc (Obj.cells #[.int .u64 (wd (fe Mp (Wd ^ 6) A) 0), .int .u64 (wd (fe Mp (Wd ^ 6) A) 1), .int .u64 (wd (fe Mp (Wd ^ 6) A) 2), .int .u64 (wd (fe Mp (Wd ^ 6) A) 3), .int .u64 (wd (fe Mp (Wd ^ 6) A) 4), .int .u64 (wd (fe Mp (Wd ^ 6) A) 5)] 27))
  have Ky_10 := Lib.hid (Ky_9.out.alloc (Obj.cells #[.int .u64 (wd (fe Mp (Wd ^ 6) A) 0), .int .u64 (wd (fe Mp (Wd ^ 6) A) 1), .int .u64 (wd (fe Mp (Wd ^ 6) A) 2), .int .u64 (wd (fe Mp (Wd ^ 6) A) 3), .int .u64 (wd (fe Mp (Wd ^ 6) A) 4), .int .u64 (wd (fe Mp (Wd ^ 6) A) 5)] 27))
  have Ku_10 := Lib.hid (Blk.new w9 27 #[.int .u64 (wd (fe Mp (Wd ^ 6) A) 0), .int .u64 (wd (fe Mp (Wd ^ 6) A) 1), .int .u64 (wd (fe Mp (Wd ^ 6) A) 2), .int .u64 (wd (fe Mp (Wd ^ 6) A) 3), .int .u64 (wd (fe Mp (Wd ^ 6) A) 4), .int .u64 (wd (fe Mp (Wd ^ 6) A) 5)])
  obtain ⟨gu, hgu⟩ : ∃ g, g = w9.heap.size := ⟨_, rfl⟩
  obtain ⟨w10, hw10⟩ : ∃ W, W = w9.alloc (Obj.cells #[.int .u64 (wd (fe Mp (Wd ^ 6) A) 0), .int .u64 (wd (fe Mp (Wd ^ 6) A) 1), .int .u64 (wd (fe Mp (Wd ^ 6) A) 2), .int .u64 (wd (fe Mp (Wd ^ 6) A) 3), .int .u64 (wd (fe Mp (Wd ^ 6) A) 4), .int .u64 (wd (fe Mp (Wd ^ 6) A) 5)] 27) := ⟨_, rfl⟩
  rw [← hgu] at Ku_10
  simp only [← hw10] at B10 Kx_10 Ky_10 Ku_10
  rw [← hw10, ← hgu]
  clear hw10 hgu B9 Kx_9 Ky_9
  obtain ⟨cx0, cx1, cx2, cx3, cx4, cx5⟩ := cells6 Kx_10.out
  have zx := Kx_10.out.lt
  obtain ⟨cy0, cy1, cy2, cy3, cy4, cy5⟩ := cells6 Ky_10.out
  have zy := Ky_10.out.lt
  obtain ⟨cu0, cu1, cu2, cu3, cu4, cu5⟩ := cells6 Ku_10.out
  have zu := Ku_10.out.lt
  refine (fp_neg X0 _ (HG.out.keep B10.out)).mono ?_
  rintro e w11 ⟨rfl, hb⟩
  clear cx0 cx1 cx2 cx3 cx4 cx5 zx cy0 cy1 cy2 cy3 cy4 cy5 zy cu0 cu1 cu2 cu3 cu4 cu5 zu
  have B11 := Lib.hid (B10.out.trans (hb.mono B10.out.size))
  have Kx_11 := Lib.hid (Kx_10.out.keep hb)
  have Ky_11 := Lib.hid (Ky_10.out.keep hb)
  have Ku_11 := Lib.hid (Ku_10.out.keep hb)
  clear hb B10 Kx_10 Ky_10 Ku_10
  obtain ⟨cx0, cx1, cx2, cx3, cx4, cx5⟩ := cells6 Kx_11.out
  have zx := Kx_11.out.lt
  obtain ⟨cy0, cy1, cy2, cy3, cy4, cy5⟩ := cells6 Ky_11.out
  have zy := Ky_11.out.lt
  obtain ⟨cu0, cu1, cu2, cu3, cu4, cu5⟩ := cells6 Ku_11.out
  have zu := Ku_11.out.lt
  rw [← HN.out]
  go_wp2_with fail
  refine (S_ns.out _ (HG.out.keep B11.out) (HS.out.keep B11.out) (HQ.out.keep B11.out)).mono ?_
  rintro e w12 ⟨rfl, hb⟩
  clear cx0 cx1 cx2 cx3 cx4 cx5 zx cy0 cy1 cy2 cy3 cy4 cy5 zy cu0 cu1 cu2 cu3 cu4 cu5 zu
  have B12 := Lib.hid (B11.out.trans (hb.mono B11.out.size))
  have Kx_12 := Lib.hid (Kx_11.out.keep hb)
  have Ky_12 := Lib.hid (Ky_11.out.keep hb)
  have Ku_12 := Lib.hid (Ku_11.out.keep hb)
  clear hb B11 Kx_11 Ky_11 Ku_11
  obtain ⟨cx0, cx1, cx2, cx3, cx4, cx5⟩ := cells6 Kx_12.out
  have zx := Kx_12.out.lt
  obtain ⟨cy0, cy1, cy2, cy3, cy4, cy5⟩ := cells6 Ky_12.out
  have zy := Ky_12.out.lt
  obtain ⟨cu0, cu1, cu2, cu3, cu4, cu5⟩ := cells6 Ku_12.out
  have zu := Ku_12.out.lt
  unfold pv arr6
  go_wp2_with fail
  clear cx0 cx1 cx2 cx3 cx4 cx5 zx cy0 cy1 cy2 cy3 cy4 cy5 zy cu0 cu1 cu2 cu3 cu4 cu5 zu
  have B13 := Lib.hid (B12.out.alloc B12.out.size (Obj.cells #[.int .u64 (wd (fe Mp (Wd ^ 6) 0) 0), .int .u64 (wd (fe Mp (Wd ^ 6) 0) 1), .int .u64 (wd (fe Mp (Wd ^ 6) 0) 2), .int .u64 (wd (fe Mp (Wd ^ 6) 0) 3), .int .u64 (wd (fe Mp (Wd ^ 6) 0) 4), .int .u64 (wd (fe Mp (Wd ^ 6) 0) 5)] 27))
  have Kx_13 := Lib.hid (Kx_12.out.alloc (Obj.cells #[.int .u64 (wd (fe Mp (Wd ^ 6) 0) 0), .int .u64 (wd (fe Mp (Wd ^ 6) 0) 1), .int .u64 (wd (fe Mp (Wd ^ 6) 0) 2), .int .u64 (wd (fe Mp (Wd ^ 6) 0) 3), .int .u64 (wd (fe Mp (Wd ^ 6) 0) 4), .int .u64 (wd (fe Mp (Wd ^ 6) 0) 5)] 27))
  have Ky_13 := Lib.hid (Ky_12.out.alloc (Obj.cells #[.int .u64 (wd (fe Mp (Wd ^ 6) 0) 0), .int .u64 (wd (fe Mp (Wd ^ 6) 0) 1), .int .u64 (wd (fe Mp (Wd ^ 6) 0) 2), .int .u64 (wd (fe Mp (Wd ^ 6) 0) 3), .int .u64 (wd (fe Mp (Wd ^ 6) 0) 4), .int .u64 (wd (fe Mp (Wd ^ 6) 0) 5)] 27))
  have Ku_13 := Lib.hid (Ku_12.out.alloc (Obj.cells #[.int .u64 (wd (fe Mp (Wd ^ 6) 0) 0), .int .u64 (wd (fe Mp (Wd ^ 6) 0) 1), .int .u64 (wd (fe Mp (Wd ^ 6) 0) 2), .int .u64 (wd (fe Mp (Wd ^ 6) 0) 3), .int .u64 (wd (fe Mp (Wd ^ 6) 0) 4), .int .u64 (wd (fe Mp (Wd ^ 6) 0) 5)] 27))
  have Kv_13 := Lib.hid (Blk.new w12 27 #[.int .u64 (wd (fe Mp (Wd ^ 6) 0) 0), .int .u64 (wd (fe Mp (Wd ^ 6) 0) 1), .int .u64 (wd (fe Mp (Wd ^ 6) 0) 2), .int .u64 (wd (fe Mp (Wd ^ 6) 0) 3), .int .u64 (wd (fe Mp (Wd ^ 6) 0) 4), .int .u64 (wd (fe Mp (Wd ^ 6) 0) 5)])
  obtain ⟨gv, hgv⟩ : ∃ g, g = w12.heap.size := ⟨_, rfl⟩
  obtain ⟨w13, hw13⟩ : ∃ W, W = w12.alloc (Obj.cells #[.int .u64 (wd (fe Mp (Wd ^ 6) 0) 0), .int .u64 (wd (fe Mp (Wd ^ 6) 0) 1), .int .u64 (wd (fe Mp (Wd ^ 6) 0) 2), .int .u64 (wd (fe Mp (Wd ^ 6) 0) 3), .int .u64 (wd (fe Mp (Wd ^ 6) 0) 4), .int .u64 (wd (fe Mp (Wd ^ 6) 0) 5)] 27) := ⟨_, rfl⟩
  rw [← hgv] at Kv_13
  simp only [← hw13] at B13 Kx_13 Ky_13 Ku_13 Kv_13
  rw [← hw13, ← hgv]
  clear hw13 hgv B12 Kx_12 Ky_12 Ku_12
  obtain ⟨cx0, cx1, cx2, cx3, cx4, cx5⟩ := cells6 Kx_13.out
  have zx := Kx_13.out.lt
  obtain ⟨cy0, cy1, cy2, cy3, cy4, cy5⟩ := cells6 Ky_13.out
  have zy := Ky_13.out.lt
  obtain ⟨cu0, cu1, cu2, cu3, cu4, cu5⟩ := cells6 Ku_13.out
  have zu := Ku_13.out.lt
  obtain ⟨cv0, cv1, cv2, cv3, cv4, cv5⟩ := cells6 Kv_13.out
  have zv := Kv_13.out.lt
  refine (fp_zero X0 _).mono ?_
  rintro e w14 ⟨rfl, hb⟩
  clear cx0 cx1 cx2 cx3 cx4 cx5 zx cy0 cy1 cy2 cy3 cy4 cy5 zy cu0 cu1 cu2 cu3 cu4 cu5 zu cv0 cv1 cv2 cv3 cv4 cv5 zv
  have B14 := Lib.hid (B13.out.trans (hb.mono B13.out.size))
  have Kx_14 := Lib.hid (Kx_13.out.keep hb)
  have Ky_14 := Lib.hid (Ky_13.out.keep hb)
  have Ku_14 := Lib.hid (Ku_13.out.keep hb)
  have Kv_14 := Lib.hid (Kv_13.out.keep hb)
  clear hb B13 Kx_13 Ky_13 Ku_13 Kv_13
  obtain ⟨cx0, cx1, cx2, cx3, cx4, cx5⟩ := cells6 Kx_14.out
  have zx := Kx_14.out.lt
  obtain ⟨cy0, cy1, cy2, cy3, cy4, cy5⟩ := cells6 Ky_14.out
  have zy := Ky_14.out.lt
  obtain ⟨cu0, cu1, cu2, cu3, cu4, cu5⟩ := cells6 Ku_14.out
  have zu := Ku_14.out.lt
  obtain ⟨cv0, cv1, cv2, cv3, cv4, cv5⟩ := cells6 Kv_14.out
  have zv := Kv_14.out.lt
  rw [HZ.out]
  go_wp2_with fail
  by_cases ho : X0 % Mp % 2 = 1
  · have hn : ¬ N % Mp % 2 = 1 := fun h => HOD.out.1 h ho
    have O1 := Lib.hid (show decide (X0 % Mp % 2 = 1) = true by simpa using ho)
    have O2 := Lib.hid (show decide (N % Mp % 2 = 1) = false by simpa using hn)
    clear ho hn
    by_cases hl : X0 % Mp < Up
    · have hm : Up ≤ N % Mp := HLA.out.2 hl
      have M1 := Lib.hid hl
      have M2 := Lib.hid hm
      clear hm
      clear hl
      have GV2 := Lib.hid (HG.out.keep B14.out)
      have UV2 := Lib.hid (HU.out.keep B14.out)
      have h2_0 := based_oddp w14 GV2.out (X0)
      rw [O1.out] at h2_0
      unfold pv arr6 at h2_0
      have A2_0 := Lib.hid h2_0
      clear h2_0
      have h2_1 := based_negp w14 GV2.out (X0)
      rw [← HN.out] at h2_1
      unfold pv arr6 at h2_1
      have A2_1 := Lib.hid h2_1
      clear h2_1
      have h2_2 := based_oddp w14 GV2.out (N)
      rw [O2.out] at h2_2
      unfold pv arr6 at h2_2
      have A2_2 := Lib.hid h2_2
      clear h2_2
      have h2_3 := based_largeltp w14 GV2.out UV2.out (X0) M1.out
      unfold pv arr6 at h2_3
      have A2_3 := Lib.hid h2_3
      clear h2_3
      have h2_4 := based_largegep w14 GV2.out UV2.out (N) M2.out
      unfold pv arr6 at h2_4
      have A2_4 := Lib.hid h2_4
      clear h2_4
      clear cx0 cx1 cx2 cx3 cx4 cx5 zx cy0 cy1 cy2 cy3 cy4 cy5 zy cu0 cu1 cu2 cu3 cu4 cu5 zu cv0 cv1 cv2 cv3 cv4 cv5 zv
      have D14 := hid_drew w14
      have SS14 : Hid (∀ W, Hid (Below w14.heap.size w14 W) → W.cell? ⟨gx, 0, none⟩ = some (.int .u64 (wd (fe Mp (Wd ^ 6) X0) 0)) ∧ W.cell? ⟨gx, 1, none⟩ = some (.int .u64 (wd (fe Mp (Wd ^ 6) X0) 1)) ∧ W.cell? ⟨gx, 2, none⟩ = some (.int .u64 (wd (fe Mp (Wd ^ 6) X0) 2)) ∧ W.cell? ⟨gx, 3, none⟩ = some (.int .u64 (wd (fe Mp (Wd ^ 6) X0) 3)) ∧ W.cell? ⟨gx, 4, none⟩ = some (.int .u64 (wd (fe Mp (Wd ^ 6) X0) 4)) ∧ W.cell? ⟨gx, 5, none⟩ = some (.int .u64 (wd (fe Mp (Wd ^ 6) X0) 5)) ∧ W.cell? ⟨gy, 0, none⟩ = some (.int .u64 (wd (fe Mp (Wd ^ 6) R) 0)) ∧ W.cell? ⟨gy, 1, none⟩ = some (.int .u64 (wd (fe Mp (Wd ^ 6) R) 1)) ∧ W.cell? ⟨gy, 2, none⟩ = some (.int .u64 (wd (fe Mp (Wd ^ 6) R) 2)) ∧ W.cell? ⟨gy, 3, none⟩ = some (.int .u64 (wd (fe Mp (Wd ^ 6) R) 3)) ∧ W.cell? ⟨gy, 4, none⟩ = some (.int .u64 (wd (fe Mp (Wd ^ 6) R) 4)) ∧ W.cell? ⟨gy, 5, none⟩ = some (.int .u64 (wd (fe Mp (Wd ^ 6) R) 5)) ∧ W.cell? ⟨gu, 0, none⟩ = some (.int .u64 (wd (fe Mp (Wd ^ 6) A) 0)) ∧ W.cell? ⟨gu, 1, none⟩ = some (.int .u64 (wd (fe Mp (Wd ^ 6) A) 1)) ∧ W.cell? ⟨gu, 2, none⟩ = some (.int .u64 (wd (fe Mp (Wd ^ 6) A) 2)) ∧ W.cell? ⟨gu, 3, none⟩ = some (.int .u64 (wd (fe Mp (Wd ^ 6) A) 3)) ∧ W.cell? ⟨gu, 4, none⟩ = some (.int .u64 (wd (fe Mp (Wd ^ 6) A) 4)) ∧ W.cell? ⟨gu, 5, none⟩ = some (.int .u64 (wd (fe Mp (Wd ^ 6) A) 5)) ∧ W.cell? ⟨gv, 0, none⟩ = some (.int .u64 (wd (fe Mp (Wd ^ 6) 0) 0)) ∧ W.cell? ⟨gv, 1, none⟩ = some (.int .u64 (wd (fe Mp (Wd ^ 6) 0) 1)) ∧ W.cell? ⟨gv, 2, none⟩ = some (.int .u64 (wd (fe Mp (Wd ^ 6) 0) 2)) ∧ W.cell? ⟨gv, 3, none⟩ = some (.int .u64 (wd (fe Mp (Wd ^ 6) 0) 3)) ∧ W.cell? ⟨gv, 4, none⟩ = some (.int .u64 (wd (fe Mp (Wd ^ 6) 0) 4)) ∧ W.cell? ⟨gv, 5, none⟩ = some (.int .u64 (wd (fe Mp (Wd ^ 6) 0) 5)) ∧ Hid (Below w14.heap.size w14 W)) := Lib.hid (fun W hW => by
        obtain ⟨qx0, qx1, qx2, qx3, qx4, qx5⟩ := cells6 (Kx_14.out.keep hW.out)
        obtain ⟨qy0, qy1, qy2, qy3, qy4, qy5⟩ := cells6 (Ky_14.out.keep hW.out)
        obtain ⟨qu0, qu1, qu2, qu3, qu4, qu5⟩ := cells6 (Ku_14.out.keep hW.out)
        obtain ⟨qv0, qv1, qv2, qv3, qv4, qv5⟩ := cells6 (Kv_14.out.keep hW.out)
        exact ⟨qx0, qx1, qx2, qx3, qx4, qx5, qy0, qy1, qy2, qy3, qy4, qy5, qu0, qu1, qu2, qu3, qu4, qu5, qv0, qv1, qv2, qv3, qv4, qv5, hW⟩)
      go_region_held3 (fun W => W.cell? ⟨gx, 0, none⟩ = some (.int .u64 (wd (fe Mp (Wd ^ 6) X0) 0)) ∧ W.cell? ⟨gx, 1, none⟩ = some (.int .u64 (wd (fe Mp (Wd ^ 6) X0) 1)) ∧ W.cell? ⟨gx, 2, none⟩ = some (.int .u64 (wd (fe Mp (Wd ^ 6) X0) 2)) ∧ W.cell? ⟨gx, 3, none⟩ = some (.int .u64 (wd (fe Mp (Wd ^ 6) X0) 3)) ∧ W.cell? ⟨gx, 4, none⟩ = some (.int .u64 (wd (fe Mp (Wd ^ 6) X0) 4)) ∧ W.cell? ⟨gx, 5, none⟩ = some (.int .u64 (wd (fe Mp (Wd ^ 6) X0) 5)) ∧ W.cell? ⟨gy, 0, none⟩ = some (.int .u64 (wd (fe Mp (Wd ^ 6) R) 0)) ∧ W.cell? ⟨gy, 1, none⟩ = some (.int .u64 (wd (fe Mp (Wd ^ 6) R) 1)) ∧ W.cell? ⟨gy, 2, none⟩ = some (.int .u64 (wd (fe Mp (Wd ^ 6) R) 2)) ∧ W.cell? ⟨gy, 3, none⟩ = some (.int .u64 (wd (fe Mp (Wd ^ 6) R) 3)) ∧ W.cell? ⟨gy, 4, none⟩ = some (.int .u64 (wd (fe Mp (Wd ^ 6) R) 4)) ∧ W.cell? ⟨gy, 5, none⟩ = some (.int .u64 (wd (fe Mp (Wd ^ 6) R) 5)) ∧ W.cell? ⟨gu, 0, none⟩ = some (.int .u64 (wd (fe Mp (Wd ^ 6) A) 0)) ∧ W.cell? ⟨gu, 1, none⟩ = some (.int .u64 (wd (fe Mp (Wd ^ 6) A) 1)) ∧ W.cell? ⟨gu, 2, none⟩ = some (.int .u64 (wd (fe Mp (Wd ^ 6) A) 2)) ∧ W.cell? ⟨gu, 3, none⟩ = some (.int .u64 (wd (fe Mp (Wd ^ 6) A) 3)) ∧ W.cell? ⟨gu, 4, none⟩ = some (.int .u64 (wd (fe Mp (Wd ^ 6) A) 4)) ∧ W.cell? ⟨gu, 5, none⟩ = some (.int .u64 (wd (fe Mp (Wd ^ 6) A) 5)) ∧ W.cell? ⟨gv, 0, none⟩ = some (.int .u64 (wd (fe Mp (Wd ^ 6) 0) 0)) ∧ W.cell? ⟨gv, 1, none⟩ = some (.int .u64 (wd (fe Mp (Wd ^ 6) 0) 1)) ∧ W.cell? ⟨gv, 2, none⟩ = some (.int .u64 (wd (fe Mp (Wd ^ 6) 0) 2)) ∧ W.cell? ⟨gv, 3, none⟩ = some (.int .u64 (wd (fe Mp (Wd ^ 6) 0) 3)) ∧ W.cell? ⟨gv, 4, none⟩ = some (.int .u64 (wd (fe Mp (Wd ^ 6) 0) 4)) ∧ W.cell? ⟨gv, 5, none⟩ = some (.int .u64 (wd (fe Mp (Wd ^ 6) 0) 5)) ∧ Hid (Below w14.heap.size w14 W)) (first | exact SS14.out _ D14 | exact SS14.out _ (by with_reducible assumption)) (first
        | (go_at_call 18; (with_reducible refine (A2_0.out _ (by first | exact D14 | with_reducible assumption)).mono ?_); rintro e w15 ⟨rfl, HB15⟩)
        | (go_at_call 16; (with_reducible refine (A2_1.out _ (by first | exact D14 | with_reducible assumption)).mono ?_); rintro e w15 ⟨rfl, HB15⟩)
        | (go_at_call 18; (with_reducible refine (A2_2.out _ (by first | exact D14 | with_reducible assumption)).mono ?_); rintro e w15 ⟨rfl, HB15⟩)
        | (go_at_call 19; (with_reducible refine (A2_3.out _ (by first | exact D14 | with_reducible assumption)).mono ?_); rintro e w15 ⟨rfl, HB15⟩)
        | (go_at_call 19; (with_reducible refine (A2_4.out _ (by first | exact D14 | with_reducible assumption)).mono ?_); rintro e w15 ⟨rfl, HB15⟩))
      have B15 := Lib.hid (B14.out.trans (HB15.out.mono B14.out.size))
      have Kx_15 := Lib.hid (Kx_14.out.keep HB15.out)
      have Ky_15 := Lib.hid (Ky_14.out.keep HB15.out)
      have Ku_15 := Lib.hid (Ku_14.out.keep HB15.out)
      have Kv_15 := Lib.hid (Kv_14.out.keep HB15.out)
      clear B14 SS14 D14 HB15 Kx_14 Ky_14 Ku_14 Kv_14 A2_0 A2_1 A2_2 A2_3 A2_4
      obtain ⟨cx0, cx1, cx2, cx3, cx4, cx5⟩ := cells6 Kx_15.out
      have zx := Kx_15.out.lt
      obtain ⟨cy0, cy1, cy2, cy3, cy4, cy5⟩ := cells6 Ky_15.out
      have zy := Ky_15.out.lt
      obtain ⟨cu0, cu1, cu2, cu3, cu4, cu5⟩ := cells6 Ku_15.out
      have zu := Ku_15.out.lt
      obtain ⟨cv0, cv1, cv2, cv3, cv4, cv5⟩ := cells6 Kv_15.out
      have zv := Kv_15.out.lt
      go_wp2_with fail
      go_ret
      exact ⟨rfl, B15.out⟩
    · have hm : N % Mp < Up := by have := HLA.out; omega
      have hl : Up ≤ X0 % Mp := by omega
      have M1 := Lib.hid hl
      have M2 := Lib.hid hm
      clear hm
      clear hl
      have GV2 := Lib.hid (HG.out.keep B14.out)
      have UV2 := Lib.hid (HU.out.keep B14.out)
      have h2_0 := based_oddp w14 GV2.out (X0)
      rw [O1.out] at h2_0
      unfold pv arr6 at h2_0
      have A2_0 := Lib.hid h2_0
      clear h2_0
      have h2_1 := based_negp w14 GV2.out (X0)
      rw [← HN.out] at h2_1
      unfold pv arr6 at h2_1
      have A2_1 := Lib.hid h2_1
      clear h2_1
      have h2_2 := based_oddp w14 GV2.out (N)
      rw [O2.out] at h2_2
      unfold pv arr6 at h2_2
      have A2_2 := Lib.hid h2_2
      clear h2_2
      have h2_3 := based_largegep w14 GV2.out UV2.out (X0) M1.out
      unfold pv arr6 at h2_3
      have A2_3 := Lib.hid h2_3
      clear h2_3
      have h2_4 := based_largeltp w14 GV2.out UV2.out (N) M2.out
      unfold pv arr6 at h2_4
      have A2_4 := Lib.hid h2_4
      clear h2_4
      clear cx0 cx1 cx2 cx3 cx4 cx5 zx cy0 cy1 cy2 cy3 cy4 cy5 zy cu0 cu1 cu2 cu3 cu4 cu5 zu cv0 cv1 cv2 cv3 cv4 cv5 zv
      have D14 := hid_drew w14
      have SS14 : Hid (∀ W, Hid (Below w14.heap.size w14 W) → W.cell? ⟨gx, 0, none⟩ = some (.int .u64 (wd (fe Mp (Wd ^ 6) X0) 0)) ∧ W.cell? ⟨gx, 1, none⟩ = some (.int .u64 (wd (fe Mp (Wd ^ 6) X0) 1)) ∧ W.cell? ⟨gx, 2, none⟩ = some (.int .u64 (wd (fe Mp (Wd ^ 6) X0) 2)) ∧ W.cell? ⟨gx, 3, none⟩ = some (.int .u64 (wd (fe Mp (Wd ^ 6) X0) 3)) ∧ W.cell? ⟨gx, 4, none⟩ = some (.int .u64 (wd (fe Mp (Wd ^ 6) X0) 4)) ∧ W.cell? ⟨gx, 5, none⟩ = some (.int .u64 (wd (fe Mp (Wd ^ 6) X0) 5)) ∧ W.cell? ⟨gy, 0, none⟩ = some (.int .u64 (wd (fe Mp (Wd ^ 6) R) 0)) ∧ W.cell? ⟨gy, 1, none⟩ = some (.int .u64 (wd (fe Mp (Wd ^ 6) R) 1)) ∧ W.cell? ⟨gy, 2, none⟩ = some (.int .u64 (wd (fe Mp (Wd ^ 6) R) 2)) ∧ W.cell? ⟨gy, 3, none⟩ = some (.int .u64 (wd (fe Mp (Wd ^ 6) R) 3)) ∧ W.cell? ⟨gy, 4, none⟩ = some (.int .u64 (wd (fe Mp (Wd ^ 6) R) 4)) ∧ W.cell? ⟨gy, 5, none⟩ = some (.int .u64 (wd (fe Mp (Wd ^ 6) R) 5)) ∧ W.cell? ⟨gu, 0, none⟩ = some (.int .u64 (wd (fe Mp (Wd ^ 6) A) 0)) ∧ W.cell? ⟨gu, 1, none⟩ = some (.int .u64 (wd (fe Mp (Wd ^ 6) A) 1)) ∧ W.cell? ⟨gu, 2, none⟩ = some (.int .u64 (wd (fe Mp (Wd ^ 6) A) 2)) ∧ W.cell? ⟨gu, 3, none⟩ = some (.int .u64 (wd (fe Mp (Wd ^ 6) A) 3)) ∧ W.cell? ⟨gu, 4, none⟩ = some (.int .u64 (wd (fe Mp (Wd ^ 6) A) 4)) ∧ W.cell? ⟨gu, 5, none⟩ = some (.int .u64 (wd (fe Mp (Wd ^ 6) A) 5)) ∧ W.cell? ⟨gv, 0, none⟩ = some (.int .u64 (wd (fe Mp (Wd ^ 6) 0) 0)) ∧ W.cell? ⟨gv, 1, none⟩ = some (.int .u64 (wd (fe Mp (Wd ^ 6) 0) 1)) ∧ W.cell? ⟨gv, 2, none⟩ = some (.int .u64 (wd (fe Mp (Wd ^ 6) 0) 2)) ∧ W.cell? ⟨gv, 3, none⟩ = some (.int .u64 (wd (fe Mp (Wd ^ 6) 0) 3)) ∧ W.cell? ⟨gv, 4, none⟩ = some (.int .u64 (wd (fe Mp (Wd ^ 6) 0) 4)) ∧ W.cell? ⟨gv, 5, none⟩ = some (.int .u64 (wd (fe Mp (Wd ^ 6) 0) 5)) ∧ Hid (Below w14.heap.size w14 W)) := Lib.hid (fun W hW => by
        obtain ⟨qx0, qx1, qx2, qx3, qx4, qx5⟩ := cells6 (Kx_14.out.keep hW.out)
        obtain ⟨qy0, qy1, qy2, qy3, qy4, qy5⟩ := cells6 (Ky_14.out.keep hW.out)
        obtain ⟨qu0, qu1, qu2, qu3, qu4, qu5⟩ := cells6 (Ku_14.out.keep hW.out)
        obtain ⟨qv0, qv1, qv2, qv3, qv4, qv5⟩ := cells6 (Kv_14.out.keep hW.out)
        exact ⟨qx0, qx1, qx2, qx3, qx4, qx5, qy0, qy1, qy2, qy3, qy4, qy5, qu0, qu1, qu2, qu3, qu4, qu5, qv0, qv1, qv2, qv3, qv4, qv5, hW⟩)
      go_region_held3 (fun W => W.cell? ⟨gx, 0, none⟩ = some (.int .u64 (wd (fe Mp (Wd ^ 6) X0) 0)) ∧ W.cell? ⟨gx, 1, none⟩ = some (.int .u64 (wd (fe Mp (Wd ^ 6) X0) 1)) ∧ W.cell? ⟨gx, 2, none⟩ = some (.int .u64 (wd (fe Mp (Wd ^ 6) X0) 2)) ∧ W.cell? ⟨gx, 3, none⟩ = some (.int .u64 (wd (fe Mp (Wd ^ 6) X0) 3)) ∧ W.cell? ⟨gx, 4, none⟩ = some (.int .u64 (wd (fe Mp (Wd ^ 6) X0) 4)) ∧ W.cell? ⟨gx, 5, none⟩ = some (.int .u64 (wd (fe Mp (Wd ^ 6) X0) 5)) ∧ W.cell? ⟨gy, 0, none⟩ = some (.int .u64 (wd (fe Mp (Wd ^ 6) R) 0)) ∧ W.cell? ⟨gy, 1, none⟩ = some (.int .u64 (wd (fe Mp (Wd ^ 6) R) 1)) ∧ W.cell? ⟨gy, 2, none⟩ = some (.int .u64 (wd (fe Mp (Wd ^ 6) R) 2)) ∧ W.cell? ⟨gy, 3, none⟩ = some (.int .u64 (wd (fe Mp (Wd ^ 6) R) 3)) ∧ W.cell? ⟨gy, 4, none⟩ = some (.int .u64 (wd (fe Mp (Wd ^ 6) R) 4)) ∧ W.cell? ⟨gy, 5, none⟩ = some (.int .u64 (wd (fe Mp (Wd ^ 6) R) 5)) ∧ W.cell? ⟨gu, 0, none⟩ = some (.int .u64 (wd (fe Mp (Wd ^ 6) A) 0)) ∧ W.cell? ⟨gu, 1, none⟩ = some (.int .u64 (wd (fe Mp (Wd ^ 6) A) 1)) ∧ W.cell? ⟨gu, 2, none⟩ = some (.int .u64 (wd (fe Mp (Wd ^ 6) A) 2)) ∧ W.cell? ⟨gu, 3, none⟩ = some (.int .u64 (wd (fe Mp (Wd ^ 6) A) 3)) ∧ W.cell? ⟨gu, 4, none⟩ = some (.int .u64 (wd (fe Mp (Wd ^ 6) A) 4)) ∧ W.cell? ⟨gu, 5, none⟩ = some (.int .u64 (wd (fe Mp (Wd ^ 6) A) 5)) ∧ W.cell? ⟨gv, 0, none⟩ = some (.int .u64 (wd (fe Mp (Wd ^ 6) 0) 0)) ∧ W.cell? ⟨gv, 1, none⟩ = some (.int .u64 (wd (fe Mp (Wd ^ 6) 0) 1)) ∧ W.cell? ⟨gv, 2, none⟩ = some (.int .u64 (wd (fe Mp (Wd ^ 6) 0) 2)) ∧ W.cell? ⟨gv, 3, none⟩ = some (.int .u64 (wd (fe Mp (Wd ^ 6) 0) 3)) ∧ W.cell? ⟨gv, 4, none⟩ = some (.int .u64 (wd (fe Mp (Wd ^ 6) 0) 4)) ∧ W.cell? ⟨gv, 5, none⟩ = some (.int .u64 (wd (fe Mp (Wd ^ 6) 0) 5)) ∧ Hid (Below w14.heap.size w14 W)) (first | exact SS14.out _ D14 | exact SS14.out _ (by with_reducible assumption)) (first
        | (go_at_call 18; (with_reducible refine (A2_0.out _ (by first | exact D14 | with_reducible assumption)).mono ?_); rintro e w15 ⟨rfl, HB15⟩)
        | (go_at_call 16; (with_reducible refine (A2_1.out _ (by first | exact D14 | with_reducible assumption)).mono ?_); rintro e w15 ⟨rfl, HB15⟩)
        | (go_at_call 18; (with_reducible refine (A2_2.out _ (by first | exact D14 | with_reducible assumption)).mono ?_); rintro e w15 ⟨rfl, HB15⟩)
        | (go_at_call 19; (with_reducible refine (A2_3.out _ (by first | exact D14 | with_reducible assumption)).mono ?_); rintro e w15 ⟨rfl, HB15⟩)
        | (go_at_call 19; (with_reducible refine (A2_4.out _ (by first | exact D14 | with_reducible assumption)).mono ?_); rintro e w15 ⟨rfl, HB15⟩))
      have B15 := Lib.hid (B14.out.trans (HB15.out.mono B14.out.size))
      have Kx_15 := Lib.hid (Kx_14.out.keep HB15.out)
      have Ky_15 := Lib.hid (Ky_14.out.keep HB15.out)
      have Ku_15 := Lib.hid (Ku_14.out.keep HB15.out)
      have Kv_15 := Lib.hid (Kv_14.out.keep HB15.out)
      clear B14 SS14 D14 HB15 Kx_14 Ky_14 Ku_14 Kv_14 A2_0 A2_1 A2_2 A2_3 A2_4
      obtain ⟨cx0, cx1, cx2, cx3, cx4, cx5⟩ := cells6 Kx_15.out
      have zx := Kx_15.out.lt
      obtain ⟨cy0, cy1, cy2, cy3, cy4, cy5⟩ := cells6 Ky_15.out
      have zy := Ky_15.out.lt
      obtain ⟨cu0, cu1, cu2, cu3, cu4, cu5⟩ := cells6 Ku_15.out
      have zu := Ku_15.out.lt
      obtain ⟨cv0, cv1, cv2, cv3, cv4, cv5⟩ := cells6 Kv_15.out
      have zv := Kv_15.out.lt
      go_wp2_with fail
      go_ret
      exact ⟨rfl, B15.out⟩
  · have hn : N % Mp % 2 = 1 := HOD.out.2 ho
    have O1 := Lib.hid (show decide (X0 % Mp % 2 = 1) = false by simpa using ho)
    have O2 := Lib.hid (show decide (N % Mp % 2 = 1) = true by simpa using hn)
    clear ho hn
    by_cases hl : X0 % Mp < Up
    · have hm : Up ≤ N % Mp := HLA.out.2 hl
      have M1 := Lib.hid hl
      have M2 := Lib.hid hm
      clear hm
      clear hl
      have GV2 := Lib.hid (HG.out.keep B14.out)
      have UV2 := Lib.hid (HU.out.keep B14.out)
      have h2_0 := based_oddp w14 GV2.out (X0)
      rw [O1.out] at h2_0
      unfold pv arr6 at h2_0
      have A2_0 := Lib.hid h2_0
      clear h2_0
      have h2_1 := based_negp w14 GV2.out (X0)
      rw [← HN.out] at h2_1
      unfold pv arr6 at h2_1
      have A2_1 := Lib.hid h2_1
      clear h2_1
      have h2_2 := based_oddp w14 GV2.out (N)
      rw [O2.out] at h2_2
      unfold pv arr6 at h2_2
      have A2_2 := Lib.hid h2_2
      clear h2_2
      have h2_3 := based_largeltp w14 GV2.out UV2.out (X0) M1.out
      unfold pv arr6 at h2_3
      have A2_3 := Lib.hid h2_3
      clear h2_3
      have h2_4 := based_largegep w14 GV2.out UV2.out (N) M2.out
      unfold pv arr6 at h2_4
      have A2_4 := Lib.hid h2_4
      clear h2_4
      clear cx0 cx1 cx2 cx3 cx4 cx5 zx cy0 cy1 cy2 cy3 cy4 cy5 zy cu0 cu1 cu2 cu3 cu4 cu5 zu cv0 cv1 cv2 cv3 cv4 cv5 zv
      have D14 := hid_drew w14
      have SS14 : Hid (∀ W, Hid (Below w14.heap.size w14 W) → W.cell? ⟨gx, 0, none⟩ = some (.int .u64 (wd (fe Mp (Wd ^ 6) X0) 0)) ∧ W.cell? ⟨gx, 1, none⟩ = some (.int .u64 (wd (fe Mp (Wd ^ 6) X0) 1)) ∧ W.cell? ⟨gx, 2, none⟩ = some (.int .u64 (wd (fe Mp (Wd ^ 6) X0) 2)) ∧ W.cell? ⟨gx, 3, none⟩ = some (.int .u64 (wd (fe Mp (Wd ^ 6) X0) 3)) ∧ W.cell? ⟨gx, 4, none⟩ = some (.int .u64 (wd (fe Mp (Wd ^ 6) X0) 4)) ∧ W.cell? ⟨gx, 5, none⟩ = some (.int .u64 (wd (fe Mp (Wd ^ 6) X0) 5)) ∧ W.cell? ⟨gy, 0, none⟩ = some (.int .u64 (wd (fe Mp (Wd ^ 6) R) 0)) ∧ W.cell? ⟨gy, 1, none⟩ = some (.int .u64 (wd (fe Mp (Wd ^ 6) R) 1)) ∧ W.cell? ⟨gy, 2, none⟩ = some (.int .u64 (wd (fe Mp (Wd ^ 6) R) 2)) ∧ W.cell? ⟨gy, 3, none⟩ = some (.int .u64 (wd (fe Mp (Wd ^ 6) R) 3)) ∧ W.cell? ⟨gy, 4, none⟩ = some (.int .u64 (wd (fe Mp (Wd ^ 6) R) 4)) ∧ W.cell? ⟨gy, 5, none⟩ = some (.int .u64 (wd (fe Mp (Wd ^ 6) R) 5)) ∧ W.cell? ⟨gu, 0, none⟩ = some (.int .u64 (wd (fe Mp (Wd ^ 6) A) 0)) ∧ W.cell? ⟨gu, 1, none⟩ = some (.int .u64 (wd (fe Mp (Wd ^ 6) A) 1)) ∧ W.cell? ⟨gu, 2, none⟩ = some (.int .u64 (wd (fe Mp (Wd ^ 6) A) 2)) ∧ W.cell? ⟨gu, 3, none⟩ = some (.int .u64 (wd (fe Mp (Wd ^ 6) A) 3)) ∧ W.cell? ⟨gu, 4, none⟩ = some (.int .u64 (wd (fe Mp (Wd ^ 6) A) 4)) ∧ W.cell? ⟨gu, 5, none⟩ = some (.int .u64 (wd (fe Mp (Wd ^ 6) A) 5)) ∧ W.cell? ⟨gv, 0, none⟩ = some (.int .u64 (wd (fe Mp (Wd ^ 6) 0) 0)) ∧ W.cell? ⟨gv, 1, none⟩ = some (.int .u64 (wd (fe Mp (Wd ^ 6) 0) 1)) ∧ W.cell? ⟨gv, 2, none⟩ = some (.int .u64 (wd (fe Mp (Wd ^ 6) 0) 2)) ∧ W.cell? ⟨gv, 3, none⟩ = some (.int .u64 (wd (fe Mp (Wd ^ 6) 0) 3)) ∧ W.cell? ⟨gv, 4, none⟩ = some (.int .u64 (wd (fe Mp (Wd ^ 6) 0) 4)) ∧ W.cell? ⟨gv, 5, none⟩ = some (.int .u64 (wd (fe Mp (Wd ^ 6) 0) 5)) ∧ Hid (Below w14.heap.size w14 W)) := Lib.hid (fun W hW => by
        obtain ⟨qx0, qx1, qx2, qx3, qx4, qx5⟩ := cells6 (Kx_14.out.keep hW.out)
        obtain ⟨qy0, qy1, qy2, qy3, qy4, qy5⟩ := cells6 (Ky_14.out.keep hW.out)
        obtain ⟨qu0, qu1, qu2, qu3, qu4, qu5⟩ := cells6 (Ku_14.out.keep hW.out)
        obtain ⟨qv0, qv1, qv2, qv3, qv4, qv5⟩ := cells6 (Kv_14.out.keep hW.out)
        exact ⟨qx0, qx1, qx2, qx3, qx4, qx5, qy0, qy1, qy2, qy3, qy4, qy5, qu0, qu1, qu2, qu3, qu4, qu5, qv0, qv1, qv2, qv3, qv4, qv5, hW⟩)
      go_region_held3 (fun W => W.cell? ⟨gx, 0, none⟩ = some (.int .u64 (wd (fe Mp (Wd ^ 6) X0) 0)) ∧ W.cell? ⟨gx, 1, none⟩ = some (.int .u64 (wd (fe Mp (Wd ^ 6) X0) 1)) ∧ W.cell? ⟨gx, 2, none⟩ = some (.int .u64 (wd (fe Mp (Wd ^ 6) X0) 2)) ∧ W.cell? ⟨gx, 3, none⟩ = some (.int .u64 (wd (fe Mp (Wd ^ 6) X0) 3)) ∧ W.cell? ⟨gx, 4, none⟩ = some (.int .u64 (wd (fe Mp (Wd ^ 6) X0) 4)) ∧ W.cell? ⟨gx, 5, none⟩ = some (.int .u64 (wd (fe Mp (Wd ^ 6) X0) 5)) ∧ W.cell? ⟨gy, 0, none⟩ = some (.int .u64 (wd (fe Mp (Wd ^ 6) R) 0)) ∧ W.cell? ⟨gy, 1, none⟩ = some (.int .u64 (wd (fe Mp (Wd ^ 6) R) 1)) ∧ W.cell? ⟨gy, 2, none⟩ = some (.int .u64 (wd (fe Mp (Wd ^ 6) R) 2)) ∧ W.cell? ⟨gy, 3, none⟩ = some (.int .u64 (wd (fe Mp (Wd ^ 6) R) 3)) ∧ W.cell? ⟨gy, 4, none⟩ = some (.int .u64 (wd (fe Mp (Wd ^ 6) R) 4)) ∧ W.cell? ⟨gy, 5, none⟩ = some (.int .u64 (wd (fe Mp (Wd ^ 6) R) 5)) ∧ W.cell? ⟨gu, 0, none⟩ = some (.int .u64 (wd (fe Mp (Wd ^ 6) A) 0)) ∧ W.cell? ⟨gu, 1, none⟩ = some (.int .u64 (wd (fe Mp (Wd ^ 6) A) 1)) ∧ W.cell? ⟨gu, 2, none⟩ = some (.int .u64 (wd (fe Mp (Wd ^ 6) A) 2)) ∧ W.cell? ⟨gu, 3, none⟩ = some (.int .u64 (wd (fe Mp (Wd ^ 6) A) 3)) ∧ W.cell? ⟨gu, 4, none⟩ = some (.int .u64 (wd (fe Mp (Wd ^ 6) A) 4)) ∧ W.cell? ⟨gu, 5, none⟩ = some (.int .u64 (wd (fe Mp (Wd ^ 6) A) 5)) ∧ W.cell? ⟨gv, 0, none⟩ = some (.int .u64 (wd (fe Mp (Wd ^ 6) 0) 0)) ∧ W.cell? ⟨gv, 1, none⟩ = some (.int .u64 (wd (fe Mp (Wd ^ 6) 0) 1)) ∧ W.cell? ⟨gv, 2, none⟩ = some (.int .u64 (wd (fe Mp (Wd ^ 6) 0) 2)) ∧ W.cell? ⟨gv, 3, none⟩ = some (.int .u64 (wd (fe Mp (Wd ^ 6) 0) 3)) ∧ W.cell? ⟨gv, 4, none⟩ = some (.int .u64 (wd (fe Mp (Wd ^ 6) 0) 4)) ∧ W.cell? ⟨gv, 5, none⟩ = some (.int .u64 (wd (fe Mp (Wd ^ 6) 0) 5)) ∧ Hid (Below w14.heap.size w14 W)) (first | exact SS14.out _ D14 | exact SS14.out _ (by with_reducible assumption)) (first
        | (go_at_call 18; (with_reducible refine (A2_0.out _ (by first | exact D14 | with_reducible assumption)).mono ?_); rintro e w15 ⟨rfl, HB15⟩)
        | (go_at_call 16; (with_reducible refine (A2_1.out _ (by first | exact D14 | with_reducible assumption)).mono ?_); rintro e w15 ⟨rfl, HB15⟩)
        | (go_at_call 18; (with_reducible refine (A2_2.out _ (by first | exact D14 | with_reducible assumption)).mono ?_); rintro e w15 ⟨rfl, HB15⟩)
        | (go_at_call 19; (with_reducible refine (A2_3.out _ (by first | exact D14 | with_reducible assumption)).mono ?_); rintro e w15 ⟨rfl, HB15⟩)
        | (go_at_call 19; (with_reducible refine (A2_4.out _ (by first | exact D14 | with_reducible assumption)).mono ?_); rintro e w15 ⟨rfl, HB15⟩))
      have B15 := Lib.hid (B14.out.trans (HB15.out.mono B14.out.size))
      have Kx_15 := Lib.hid (Kx_14.out.keep HB15.out)
      have Ky_15 := Lib.hid (Ky_14.out.keep HB15.out)
      have Ku_15 := Lib.hid (Ku_14.out.keep HB15.out)
      have Kv_15 := Lib.hid (Kv_14.out.keep HB15.out)
      clear B14 SS14 D14 HB15 Kx_14 Ky_14 Ku_14 Kv_14 A2_0 A2_1 A2_2 A2_3 A2_4
      obtain ⟨cx0, cx1, cx2, cx3, cx4, cx5⟩ := cells6 Kx_15.out
      have zx := Kx_15.out.lt
      obtain ⟨cy0, cy1, cy2, cy3, cy4, cy5⟩ := cells6 Ky_15.out
      have zy := Ky_15.out.lt
      obtain ⟨cu0, cu1, cu2, cu3, cu4, cu5⟩ := cells6 Ku_15.out
      have zu := Ku_15.out.lt
      obtain ⟨cv0, cv1, cv2, cv3, cv4, cv5⟩ := cells6 Kv_15.out
      have zv := Kv_15.out.lt
      go_wp2_with fail
      go_ret
      exact ⟨rfl, B15.out⟩
    · have hm : N % Mp < Up := by have := HLA.out; omega
      have hl : Up ≤ X0 % Mp := by omega
      have M1 := Lib.hid hl
      have M2 := Lib.hid hm
      clear hm
      clear hl
      have GV2 := Lib.hid (HG.out.keep B14.out)
      have UV2 := Lib.hid (HU.out.keep B14.out)
      have h2_0 := based_oddp w14 GV2.out (X0)
      rw [O1.out] at h2_0
      unfold pv arr6 at h2_0
      have A2_0 := Lib.hid h2_0
      clear h2_0
      have h2_1 := based_negp w14 GV2.out (X0)
      rw [← HN.out] at h2_1
      unfold pv arr6 at h2_1
      have A2_1 := Lib.hid h2_1
      clear h2_1
      have h2_2 := based_oddp w14 GV2.out (N)
      rw [O2.out] at h2_2
      unfold pv arr6 at h2_2
      have A2_2 := Lib.hid h2_2
      clear h2_2
      have h2_3 := based_largegep w14 GV2.out UV2.out (X0) M1.out
      unfold pv arr6 at h2_3
      have A2_3 := Lib.hid h2_3
      clear h2_3
      have h2_4 := based_largeltp w14 GV2.out UV2.out (N) M2.out
      unfold pv arr6 at h2_4
      have A2_4 := Lib.hid h2_4
      clear h2_4
      clear cx0 cx1 cx2 cx3 cx4 cx5 zx cy0 cy1 cy2 cy3 cy4 cy5 zy cu0 cu1 cu2 cu3 cu4 cu5 zu cv0 cv1 cv2 cv3 cv4 cv5 zv
      have D14 := hid_drew w14
      have SS14 : Hid (∀ W, Hid (Below w14.heap.size w14 W) → W.cell? ⟨gx, 0, none⟩ = some (.int .u64 (wd (fe Mp (Wd ^ 6) X0) 0)) ∧ W.cell? ⟨gx, 1, none⟩ = some (.int .u64 (wd (fe Mp (Wd ^ 6) X0) 1)) ∧ W.cell? ⟨gx, 2, none⟩ = some (.int .u64 (wd (fe Mp (Wd ^ 6) X0) 2)) ∧ W.cell? ⟨gx, 3, none⟩ = some (.int .u64 (wd (fe Mp (Wd ^ 6) X0) 3)) ∧ W.cell? ⟨gx, 4, none⟩ = some (.int .u64 (wd (fe Mp (Wd ^ 6) X0) 4)) ∧ W.cell? ⟨gx, 5, none⟩ = some (.int .u64 (wd (fe Mp (Wd ^ 6) X0) 5)) ∧ W.cell? ⟨gy, 0, none⟩ = some (.int .u64 (wd (fe Mp (Wd ^ 6) R) 0)) ∧ W.cell? ⟨gy, 1, none⟩ = some (.int .u64 (wd (fe Mp (Wd ^ 6) R) 1)) ∧ W.cell? ⟨gy, 2, none⟩ = some (.int .u64 (wd (fe Mp (Wd ^ 6) R) 2)) ∧ W.cell? ⟨gy, 3, none⟩ = some (.int .u64 (wd (fe Mp (Wd ^ 6) R) 3)) ∧ W.cell? ⟨gy, 4, none⟩ = some (.int .u64 (wd (fe Mp (Wd ^ 6) R) 4)) ∧ W.cell? ⟨gy, 5, none⟩ = some (.int .u64 (wd (fe Mp (Wd ^ 6) R) 5)) ∧ W.cell? ⟨gu, 0, none⟩ = some (.int .u64 (wd (fe Mp (Wd ^ 6) A) 0)) ∧ W.cell? ⟨gu, 1, none⟩ = some (.int .u64 (wd (fe Mp (Wd ^ 6) A) 1)) ∧ W.cell? ⟨gu, 2, none⟩ = some (.int .u64 (wd (fe Mp (Wd ^ 6) A) 2)) ∧ W.cell? ⟨gu, 3, none⟩ = some (.int .u64 (wd (fe Mp (Wd ^ 6) A) 3)) ∧ W.cell? ⟨gu, 4, none⟩ = some (.int .u64 (wd (fe Mp (Wd ^ 6) A) 4)) ∧ W.cell? ⟨gu, 5, none⟩ = some (.int .u64 (wd (fe Mp (Wd ^ 6) A) 5)) ∧ W.cell? ⟨gv, 0, none⟩ = some (.int .u64 (wd (fe Mp (Wd ^ 6) 0) 0)) ∧ W.cell? ⟨gv, 1, none⟩ = some (.int .u64 (wd (fe Mp (Wd ^ 6) 0) 1)) ∧ W.cell? ⟨gv, 2, none⟩ = some (.int .u64 (wd (fe Mp (Wd ^ 6) 0) 2)) ∧ W.cell? ⟨gv, 3, none⟩ = some (.int .u64 (wd (fe Mp (Wd ^ 6) 0) 3)) ∧ W.cell? ⟨gv, 4, none⟩ = some (.int .u64 (wd (fe Mp (Wd ^ 6) 0) 4)) ∧ W.cell? ⟨gv, 5, none⟩ = some (.int .u64 (wd (fe Mp (Wd ^ 6) 0) 5)) ∧ Hid (Below w14.heap.size w14 W)) := Lib.hid (fun W hW => by
        obtain ⟨qx0, qx1, qx2, qx3, qx4, qx5⟩ := cells6 (Kx_14.out.keep hW.out)
        obtain ⟨qy0, qy1, qy2, qy3, qy4, qy5⟩ := cells6 (Ky_14.out.keep hW.out)
        obtain ⟨qu0, qu1, qu2, qu3, qu4, qu5⟩ := cells6 (Ku_14.out.keep hW.out)
        obtain ⟨qv0, qv1, qv2, qv3, qv4, qv5⟩ := cells6 (Kv_14.out.keep hW.out)
        exact ⟨qx0, qx1, qx2, qx3, qx4, qx5, qy0, qy1, qy2, qy3, qy4, qy5, qu0, qu1, qu2, qu3, qu4, qu5, qv0, qv1, qv2, qv3, qv4, qv5, hW⟩)
      go_region_held3 (fun W => W.cell? ⟨gx, 0, none⟩ = some (.int .u64 (wd (fe Mp (Wd ^ 6) X0) 0)) ∧ W.cell? ⟨gx, 1, none⟩ = some (.int .u64 (wd (fe Mp (Wd ^ 6) X0) 1)) ∧ W.cell? ⟨gx, 2, none⟩ = some (.int .u64 (wd (fe Mp (Wd ^ 6) X0) 2)) ∧ W.cell? ⟨gx, 3, none⟩ = some (.int .u64 (wd (fe Mp (Wd ^ 6) X0) 3)) ∧ W.cell? ⟨gx, 4, none⟩ = some (.int .u64 (wd (fe Mp (Wd ^ 6) X0) 4)) ∧ W.cell? ⟨gx, 5, none⟩ = some (.int .u64 (wd (fe Mp (Wd ^ 6) X0) 5)) ∧ W.cell? ⟨gy, 0, none⟩ = some (.int .u64 (wd (fe Mp (Wd ^ 6) R) 0)) ∧ W.cell? ⟨gy, 1, none⟩ = some (.int .u64 (wd (fe Mp (Wd ^ 6) R) 1)) ∧ W.cell? ⟨gy, 2, none⟩ = some (.int .u64 (wd (fe Mp (Wd ^ 6) R) 2)) ∧ W.cell? ⟨gy, 3, none⟩ = some (.int .u64 (wd (fe Mp (Wd ^ 6) R) 3)) ∧ W.cell? ⟨gy, 4, none⟩ = some (.int .u64 (wd (fe Mp (Wd ^ 6) R) 4)) ∧ W.cell? ⟨gy, 5, none⟩ = some (.int .u64 (wd (fe Mp (Wd ^ 6) R) 5)) ∧ W.cell? ⟨gu, 0, none⟩ = some (.int .u64 (wd (fe Mp (Wd ^ 6) A) 0)) ∧ W.cell? ⟨gu, 1, none⟩ = some (.int .u64 (wd (fe Mp (Wd ^ 6) A) 1)) ∧ W.cell? ⟨gu, 2, none⟩ = some (.int .u64 (wd (fe Mp (Wd ^ 6) A) 2)) ∧ W.cell? ⟨gu, 3, none⟩ = some (.int .u64 (wd (fe Mp (Wd ^ 6) A) 3)) ∧ W.cell? ⟨gu, 4, none⟩ = some (.int .u64 (wd (fe Mp (Wd ^ 6) A) 4)) ∧ W.cell? ⟨gu, 5, none⟩ = some (.int .u64 (wd (fe Mp (Wd ^ 6) A) 5)) ∧ W.cell? ⟨gv, 0, none⟩ = some (.int .u64 (wd (fe Mp (Wd ^ 6) 0) 0)) ∧ W.cell? ⟨gv, 1, none⟩ = some (.int .u64 (wd (fe Mp (Wd ^ 6) 0) 1)) ∧ W.cell? ⟨gv, 2, none⟩ = some (.int .u64 (wd (fe Mp (Wd ^ 6) 0) 2)) ∧ W.cell? ⟨gv, 3, none⟩ = some (.int .u64 (wd (fe Mp (Wd ^ 6) 0) 3)) ∧ W.cell? ⟨gv, 4, none⟩ = some (.int .u64 (wd (fe Mp (Wd ^ 6) 0) 4)) ∧ W.cell? ⟨gv, 5, none⟩ = some (.int .u64 (wd (fe Mp (Wd ^ 6) 0) 5)) ∧ Hid (Below w14.heap.size w14 W)) (first | exact SS14.out _ D14 | exact SS14.out _ (by with_reducible assumption)) (first
        | (go_at_call 18; (with_reducible refine (A2_0.out _ (by first | exact D14 | with_reducible assumption)).mono ?_); rintro e w15 ⟨rfl, HB15⟩)
        | (go_at_call 16; (with_reducible refine (A2_1.out _ (by first | exact D14 | with_reducible assumption)).mono ?_); rintro e w15 ⟨rfl, HB15⟩)
        | (go_at_call 18; (with_reducible refine (A2_2.out _ (by first | exact D14 | with_reducible assumption)).mono ?_); rintro e w15 ⟨rfl, HB15⟩)
        | (go_at_call 19; (with_reducible refine (A2_3.out _ (by first | exact D14 | with_reducible assumption)).mono ?_); rintro e w15 ⟨rfl, HB15⟩)
        | (go_at_call 19; (with_reducible refine (A2_4.out _ (by first | exact D14 | with_reducible assumption)).mono ?_); rintro e w15 ⟨rfl, HB15⟩))
      have B15 := Lib.hid (B14.out.trans (HB15.out.mono B14.out.size))
      have Kx_15 := Lib.hid (Kx_14.out.keep HB15.out)
      have Ky_15 := Lib.hid (Ky_14.out.keep HB15.out)
      have Ku_15 := Lib.hid (Ku_14.out.keep HB15.out)
      have Kv_15 := Lib.hid (Kv_14.out.keep HB15.out)
      clear B14 SS14 D14 HB15 Kx_14 Ky_14 Ku_14 Kv_14 A2_0 A2_1 A2_2 A2_3 A2_4
      obtain ⟨cx0, cx1, cx2, cx3, cx4, cx5⟩ := cells6 Kx_15.out
      have zx := Kx_15.out.lt
      obtain ⟨cy0, cy1, cy2, cy3, cy4, cy5⟩ := cells6 Ky_15.out
      have zy := Ky_15.out.lt
      obtain ⟨cu0, cu1, cu2, cu3, cu4, cu5⟩ := cells6 Ku_15.out
      have zu := Ku_15.out.lt
      obtain ⟨cv0, cv1, cv2, cv3, cv4, cv5⟩ := cells6 Kv_15.out
      have zv := Kv_15.out.lt
      go_wp2_with fail
      go_ret
      exact ⟨rfl, B15.out⟩
set_option maxRecDepth 100000 in
set_option maxHeartbeats 8000000 in
theorem squaresp_mn (w : World) (hG : GM0 w) (hS : GSqp w) (hH : GShp w) (hQ : GQp w) (hU : GUp w) (A0 : Option Addr) (L0 c0 : Nat) (bs0 : List Int) (hr0 : Reads w w.heap.size A0 L0 (bs0.map (Value.int .u8))) (ho0 : Oct bs0) (h0 : L0 ≤ 400) (hx : ¬ num bs0 % Mp = 0) (hr : ¬ (num bs0 * num bs0) ^ Qp % Mp = num bs0 % Mp) (hxs : ¬ num bs0 ^ Qp * num bs0 ^ Qp % Mp = num bs0 % Mp) :
    Calls Tryd.prog 3 #[.slice A0 L0 c0] w fun e w' => e = .returned (.bool true) ∧ Below w.heap.size w w' := by
  have HG := Lib.hid hG
  have HS := Lib.hid hS
  have HH := Lib.hid hH
  have HQ := Lib.hid hQ
  have HU := Lib.hid hU
  have HR0 := Lib.hid hr0
  have HO0 := Lib.hid ho0
  have HL0 := Lib.hid (show bs0.length = L0 by simpa using hr0.1)
  obtain ⟨X0, hX0⟩ : ∃ X, X = num bs0 := ⟨_, rfl⟩
  rw [← hX0] at hx hr hxs
  obtain ⟨N, hN⟩ : ∃ N, N = -X0 := ⟨_, rfl⟩
  have hnsq := neg_sq X0 hx
  have hrt := root_square X0
  have hod := odd_neg X0 hx
  have hla := large_neg X0 hx
  rw [← hN] at hnsq hrt hod hla
  obtain ⟨R, hR⟩ : ∃ R, R = (X0 * X0) ^ Qp := ⟨_, rfl⟩
  obtain ⟨A, hA⟩ : ∃ R, R = X0 ^ Qp := ⟨_, rfl⟩
  obtain ⟨B, hB⟩ : ∃ R, R = N ^ Qp := ⟨_, rfl⟩
  have hsq := square_sq X0
  have hns : N ^ Qp * N ^ Qp % Mp = N % Mp := hnsq.2 hxs
  have hs_sq := fun W a b c => fp_sqrt_yes (X0 * X0) W a b c hsq
  simp only [← hR] at hs_sq
  have S_sq := Lib.hid hs_sq
  clear hs_sq
  have hs_xs := fun W a b c => fp_sqrt_no (X0) W a b c hxs
  simp only [pv_zero] at hs_xs
  have S_xs := Lib.hid hs_xs
  clear hs_xs
  have hs_ns := fun W a b c => fp_sqrt_yes (N) W a b c hns
  simp only [← hB] at hs_ns
  have S_ns := Lib.hid hs_ns
  clear hs_ns
  rw [← hR] at hr hrt
  have q1 := pv_unlike R X0 hr
  have q2 := pv_same R N (hrt.resolve_left hr)
  have hz : decide (X0 % Mp = 0) = false := by simpa using hx
  have HN := Lib.hid hN
  have HZ := Lib.hid hz
  have HOD := Lib.hid hod
  have HLA := Lib.hid hla
  clear hR hA hB hsq hxs hns hnsq hrt hr hz hod hla hN hx
  have HX0 := Lib.hid hX0
  clear hX0 hr0 ho0
  clear hG hS hH hQ hU
  have B0 : Hid (Below w.heap.size w w) := Lib.hid (Below.refl _ _)
  go_enter Tryd.func3, Tryd.ntmps3
  go_wp2_with fail
  refine (fp_head _ (HG.out.keep B0.out) (HS.out.keep B0.out) (HQ.out.keep B0.out) (HU.out.keep B0.out)).mono ?_
  rintro e w1 ⟨rfl, hb⟩
  have B1 := Lib.hid (B0.out.trans (hb.mono B0.out.size))
  clear hb B0 
  go_wp2_with fail
  refine (copy_any w1 A0 L0 c0 bs0 ((HR0.out.below B1.out).more B1.out.size) (by omega)).mono ?_
  rintro e w2 ⟨gc0, rfl, -, hBc, hb⟩
  have RC0 := Lib.hid (copy_reads hBc HL0.out)
  have B2 := Lib.hid (B1.out.trans (hb.mono B1.out.size))
  clear hb hBc B1 
  go_wp2_with fail
  refine (fp_wide _ (HG.out.keep B2.out) (HS.out.keep B2.out) (HH.out.keep B2.out) (some ⟨gc0, 0, none⟩) L0 L0 bs0 RC0.out HO0.out (Nat.le_refl _) (by omega)).mono ?_
  rintro e w3 ⟨rfl, hb⟩
  have B3 := Lib.hid (B2.out.trans (hb.mono B2.out.size))
  clear hb B2 
  rw [← HX0.out]
  unfold pv arr6
  go_wp2_with fail
  have B4 := Lib.hid (B3.out.alloc B3.out.size (Obj.cells #[.int .u64 (wd (fe Mp (Wd ^ 6) X0) 0), .int .u64 (wd (fe Mp (Wd ^ 6) X0) 1), .int .u64 (wd (fe Mp (Wd ^ 6) X0) 2), .int .u64 (wd (fe Mp (Wd ^ 6) X0) 3), .int .u64 (wd (fe Mp (Wd ^ 6) X0) 4), .int .u64 (wd (fe Mp (Wd ^ 6) X0) 5)] 27))
  have Kx_4 := Lib.hid (Blk.new w3 27 #[.int .u64 (wd (fe Mp (Wd ^ 6) X0) 0), .int .u64 (wd (fe Mp (Wd ^ 6) X0) 1), .int .u64 (wd (fe Mp (Wd ^ 6) X0) 2), .int .u64 (wd (fe Mp (Wd ^ 6) X0) 3), .int .u64 (wd (fe Mp (Wd ^ 6) X0) 4), .int .u64 (wd (fe Mp (Wd ^ 6) X0) 5)])
  obtain ⟨gx, hgx⟩ : ∃ g, g = w3.heap.size := ⟨_, rfl⟩
  obtain ⟨w4, hw4⟩ : ∃ W, W = w3.alloc (Obj.cells #[.int .u64 (wd (fe Mp (Wd ^ 6) X0) 0), .int .u64 (wd (fe Mp (Wd ^ 6) X0) 1), .int .u64 (wd (fe Mp (Wd ^ 6) X0) 2), .int .u64 (wd (fe Mp (Wd ^ 6) X0) 3), .int .u64 (wd (fe Mp (Wd ^ 6) X0) 4), .int .u64 (wd (fe Mp (Wd ^ 6) X0) 5)] 27) := ⟨_, rfl⟩
  rw [← hgx] at Kx_4
  simp only [← hw4] at B4 Kx_4
  rw [← hw4, ← hgx]
  clear hw4 hgx B3 
  obtain ⟨cx0, cx1, cx2, cx3, cx4, cx5⟩ := cells6 Kx_4.out
  have zx := Kx_4.out.lt
  refine (fp_square X0 _ (HG.out.keep B4.out)).mono ?_
  rintro e w5 ⟨rfl, hb⟩
  clear cx0 cx1 cx2 cx3 cx4 cx5 zx
  have B5 := Lib.hid (B4.out.trans (hb.mono B4.out.size))
  have Kx_5 := Lib.hid (Kx_4.out.keep hb)
  clear hb B4 Kx_4
  obtain ⟨cx0, cx1, cx2, cx3, cx4, cx5⟩ := cells6 Kx_5.out
  have zx := Kx_5.out.lt
  go_wp2_with fail
  refine (S_sq.out _ (HG.out.keep B5.out) (HS.out.keep B5.out) (HQ.out.keep B5.out)).mono ?_
  rintro e w6 ⟨rfl, hb⟩
  clear cx0 cx1 cx2 cx3 cx4 cx5 zx
  have B6 := Lib.hid (B5.out.trans (hb.mono B5.out.size))
  have Kx_6 := Lib.hid (Kx_5.out.keep hb)
  clear hb B5 Kx_5
  obtain ⟨cx0, cx1, cx2, cx3, cx4, cx5⟩ := cells6 Kx_6.out
  have zx := Kx_6.out.lt
  unfold pv arr6
  go_wp2_with fail
  clear cx0 cx1 cx2 cx3 cx4 cx5 zx
  have B7 := Lib.hid (B6.out.alloc B6.out.size (Obj.cells #[.int .u64 (wd (fe Mp (Wd ^ 6) R) 0), .int .u64 (wd (fe Mp (Wd ^ 6) R) 1), .int .u64 (wd (fe Mp (Wd ^ 6) R) 2), .int .u64 (wd (fe Mp (Wd ^ 6) R) 3), .int .u64 (wd (fe Mp (Wd ^ 6) R) 4), .int .u64 (wd (fe Mp (Wd ^ 6) R) 5)] 27))
  have Kx_7 := Lib.hid (Kx_6.out.alloc (Obj.cells #[.int .u64 (wd (fe Mp (Wd ^ 6) R) 0), .int .u64 (wd (fe Mp (Wd ^ 6) R) 1), .int .u64 (wd (fe Mp (Wd ^ 6) R) 2), .int .u64 (wd (fe Mp (Wd ^ 6) R) 3), .int .u64 (wd (fe Mp (Wd ^ 6) R) 4), .int .u64 (wd (fe Mp (Wd ^ 6) R) 5)] 27))
  have Ky_7 := Lib.hid (Blk.new w6 27 #[.int .u64 (wd (fe Mp (Wd ^ 6) R) 0), .int .u64 (wd (fe Mp (Wd ^ 6) R) 1), .int .u64 (wd (fe Mp (Wd ^ 6) R) 2), .int .u64 (wd (fe Mp (Wd ^ 6) R) 3), .int .u64 (wd (fe Mp (Wd ^ 6) R) 4), .int .u64 (wd (fe Mp (Wd ^ 6) R) 5)])
  obtain ⟨gy, hgy⟩ : ∃ g, g = w6.heap.size := ⟨_, rfl⟩
  obtain ⟨w7, hw7⟩ : ∃ W, W = w6.alloc (Obj.cells #[.int .u64 (wd (fe Mp (Wd ^ 6) R) 0), .int .u64 (wd (fe Mp (Wd ^ 6) R) 1), .int .u64 (wd (fe Mp (Wd ^ 6) R) 2), .int .u64 (wd (fe Mp (Wd ^ 6) R) 3), .int .u64 (wd (fe Mp (Wd ^ 6) R) 4), .int .u64 (wd (fe Mp (Wd ^ 6) R) 5)] 27) := ⟨_, rfl⟩
  rw [← hgy] at Ky_7
  simp only [← hw7] at B7 Kx_7 Ky_7
  rw [← hw7, ← hgy]
  clear hw7 hgy B6 Kx_6
  obtain ⟨cx0, cx1, cx2, cx3, cx4, cx5⟩ := cells6 Kx_7.out
  have zx := Kx_7.out.lt
  obtain ⟨cy0, cy1, cy2, cy3, cy4, cy5⟩ := cells6 Ky_7.out
  have zy := Ky_7.out.lt
  have GV1 := Lib.hid (HG.out.keep B7.out)
  have h1_0 := based_negp w7 GV1.out (X0)
  rw [← HN.out] at h1_0
  unfold pv arr6 at h1_0
  have A1_0 := Lib.hid h1_0
  clear h1_0
  clear cx0 cx1 cx2 cx3 cx4 cx5 zx cy0 cy1 cy2 cy3 cy4 cy5 zy
  have D7 := hid_drew w7
  have SS7 : Hid (∀ W, Hid (Below w7.heap.size w7 W) → W.cell? ⟨gx, 0, none⟩ = some (.int .u64 (wd (fe Mp (Wd ^ 6) X0) 0)) ∧ W.cell? ⟨gx, 1, none⟩ = some (.int .u64 (wd (fe Mp (Wd ^ 6) X0) 1)) ∧ W.cell? ⟨gx, 2, none⟩ = some (.int .u64 (wd (fe Mp (Wd ^ 6) X0) 2)) ∧ W.cell? ⟨gx, 3, none⟩ = some (.int .u64 (wd (fe Mp (Wd ^ 6) X0) 3)) ∧ W.cell? ⟨gx, 4, none⟩ = some (.int .u64 (wd (fe Mp (Wd ^ 6) X0) 4)) ∧ W.cell? ⟨gx, 5, none⟩ = some (.int .u64 (wd (fe Mp (Wd ^ 6) X0) 5)) ∧ W.cell? ⟨gy, 0, none⟩ = some (.int .u64 (wd (fe Mp (Wd ^ 6) R) 0)) ∧ W.cell? ⟨gy, 1, none⟩ = some (.int .u64 (wd (fe Mp (Wd ^ 6) R) 1)) ∧ W.cell? ⟨gy, 2, none⟩ = some (.int .u64 (wd (fe Mp (Wd ^ 6) R) 2)) ∧ W.cell? ⟨gy, 3, none⟩ = some (.int .u64 (wd (fe Mp (Wd ^ 6) R) 3)) ∧ W.cell? ⟨gy, 4, none⟩ = some (.int .u64 (wd (fe Mp (Wd ^ 6) R) 4)) ∧ W.cell? ⟨gy, 5, none⟩ = some (.int .u64 (wd (fe Mp (Wd ^ 6) R) 5)) ∧ Hid (Below w7.heap.size w7 W)) := Lib.hid (fun W hW => by
    obtain ⟨qx0, qx1, qx2, qx3, qx4, qx5⟩ := cells6 (Kx_7.out.keep hW.out)
    obtain ⟨qy0, qy1, qy2, qy3, qy4, qy5⟩ := cells6 (Ky_7.out.keep hW.out)
    exact ⟨qx0, qx1, qx2, qx3, qx4, qx5, qy0, qy1, qy2, qy3, qy4, qy5, hW⟩)
  go_region_held3 (fun W => W.cell? ⟨gx, 0, none⟩ = some (.int .u64 (wd (fe Mp (Wd ^ 6) X0) 0)) ∧ W.cell? ⟨gx, 1, none⟩ = some (.int .u64 (wd (fe Mp (Wd ^ 6) X0) 1)) ∧ W.cell? ⟨gx, 2, none⟩ = some (.int .u64 (wd (fe Mp (Wd ^ 6) X0) 2)) ∧ W.cell? ⟨gx, 3, none⟩ = some (.int .u64 (wd (fe Mp (Wd ^ 6) X0) 3)) ∧ W.cell? ⟨gx, 4, none⟩ = some (.int .u64 (wd (fe Mp (Wd ^ 6) X0) 4)) ∧ W.cell? ⟨gx, 5, none⟩ = some (.int .u64 (wd (fe Mp (Wd ^ 6) X0) 5)) ∧ W.cell? ⟨gy, 0, none⟩ = some (.int .u64 (wd (fe Mp (Wd ^ 6) R) 0)) ∧ W.cell? ⟨gy, 1, none⟩ = some (.int .u64 (wd (fe Mp (Wd ^ 6) R) 1)) ∧ W.cell? ⟨gy, 2, none⟩ = some (.int .u64 (wd (fe Mp (Wd ^ 6) R) 2)) ∧ W.cell? ⟨gy, 3, none⟩ = some (.int .u64 (wd (fe Mp (Wd ^ 6) R) 3)) ∧ W.cell? ⟨gy, 4, none⟩ = some (.int .u64 (wd (fe Mp (Wd ^ 6) R) 4)) ∧ W.cell? ⟨gy, 5, none⟩ = some (.int .u64 (wd (fe Mp (Wd ^ 6) R) 5)) ∧ Hid (Below w7.heap.size w7 W)) (first | exact SS7.out _ D7 | exact SS7.out _ (by with_reducible assumption)) (first
    | (go_at_call 16; (with_reducible refine (A1_0.out _ (by first | exact D7 | with_reducible assumption)).mono ?_); rintro e w8 ⟨rfl, HB8⟩))
  have B8 := Lib.hid (B7.out.trans (HB8.out.mono B7.out.size))
  have Kx_8 := Lib.hid (Kx_7.out.keep HB8.out)
  have Ky_8 := Lib.hid (Ky_7.out.keep HB8.out)
  clear B7 SS7 D7 HB8 Kx_7 Ky_7 A1_0
  obtain ⟨cx0, cx1, cx2, cx3, cx4, cx5⟩ := cells6 Kx_8.out
  have zx := Kx_8.out.lt
  obtain ⟨cy0, cy1, cy2, cy3, cy4, cy5⟩ := cells6 Ky_8.out
  have zy := Ky_8.out.lt
  go_wp2_with fail
  refine (S_xs.out _ (HG.out.keep B8.out) (HS.out.keep B8.out) (HQ.out.keep B8.out)).mono ?_
  rintro e w9 ⟨rfl, hb⟩
  clear cx0 cx1 cx2 cx3 cx4 cx5 zx cy0 cy1 cy2 cy3 cy4 cy5 zy
  have B9 := Lib.hid (B8.out.trans (hb.mono B8.out.size))
  have Kx_9 := Lib.hid (Kx_8.out.keep hb)
  have Ky_9 := Lib.hid (Ky_8.out.keep hb)
  clear hb B8 Kx_8 Ky_8
  obtain ⟨cx0, cx1, cx2, cx3, cx4, cx5⟩ := cells6 Kx_9.out
  have zx := Kx_9.out.lt
  obtain ⟨cy0, cy1, cy2, cy3, cy4, cy5⟩ := cells6 Ky_9.out
  have zy := Ky_9.out.lt
  unfold pv arr6
  go_wp2_with fail
  clear cx0 cx1 cx2 cx3 cx4 cx5 zx cy0 cy1 cy2 cy3 cy4 cy5 zy
  have B10 := Lib.hid (B9.out.alloc B9.out.size (Obj.cells #[.int .u64 (wd (fe Mp (Wd ^ 6) 0) 0), .int .u64 (wd (fe Mp (Wd ^ 6) 0) 1), .int .u64 (wd (fe Mp (Wd ^ 6) 0) 2), .int .u64 (wd (fe Mp (Wd ^ 6) 0) 3), .int .u64 (wd (fe Mp (Wd ^ 6) 0) 4), .int .u64 (wd (fe Mp (Wd ^ 6) 0) 5)] 27))
  have Kx_10 := Lib.hid (Kx_9.out.alloc (Obj.cells #[.int .u64 (wd (fe Mp (Wd ^ 6) 0) 0), .int .u64 (wd (fe Mp (Wd ^ 6) 0) 1), .int .u64 (wd (fe Mp (Wd ^ 6) 0) 2), .int .u64 (wd (fe Mp (Wd ^ 6) 0) 3), .int .u64 (wd (fe Mp (Wd ^ 6) 0) 4), .int .u64 (wd (fe Mp (Wd ^ 6) 0) 5)] 27))
  have Ky_10 := Lib.hid (Ky_9.out.alloc (Obj.cells #[.int .u64 (wd (fe Mp (Wd ^ 6) 0) 0), .int .u64 (wd (fe Mp (Wd ^ 6) 0) 1), .int .u64 (wd (fe Mp (Wd ^ 6) 0) 2), .int .u64 (wd (fe Mp (Wd ^ 6) 0) 3), .int .u64 (wd (fe Mp (Wd ^ 6) 0) 4), .int .u64 (wd (fe Mp (Wd ^ 6) 0) 5)] 27))
  have Ku_10 := Lib.hid (Blk.new w9 27 #[.int .u64 (wd (fe Mp (Wd ^ 6) 0) 0), .int .u64 (wd (fe Mp (Wd ^ 6) 0) 1), .int .u64 (wd (fe Mp (Wd ^ 6) 0) 2), .int .u64 (wd (fe Mp (Wd ^ 6) 0) 3), .int .u64 (wd (fe Mp (Wd ^ 6) 0) 4), .int .u64 (wd (fe Mp (Wd ^ 6) 0) 5)])
  obtain ⟨gu, hgu⟩ : ∃ g, g = w9.heap.size := ⟨_, rfl⟩
  obtain ⟨w10, hw10⟩ : ∃ W, W = w9.alloc (Obj.cells #[.int .u64 (wd (fe Mp (Wd ^ 6) 0) 0), .int .u64 (wd (fe Mp (Wd ^ 6) 0) 1), .int .u64 (wd (fe Mp (Wd ^ 6) 0) 2), .int .u64 (wd (fe Mp (Wd ^ 6) 0) 3), .int .u64 (wd (fe Mp (Wd ^ 6) 0) 4), .int .u64 (wd (fe Mp (Wd ^ 6) 0) 5)] 27) := ⟨_, rfl⟩
  rw [← hgu] at Ku_10
  simp only [← hw10] at B10 Kx_10 Ky_10 Ku_10
  rw [← hw10, ← hgu]
  clear hw10 hgu B9 Kx_9 Ky_9
  obtain ⟨cx0, cx1, cx2, cx3, cx4, cx5⟩ := cells6 Kx_10.out
  have zx := Kx_10.out.lt
  obtain ⟨cy0, cy1, cy2, cy3, cy4, cy5⟩ := cells6 Ky_10.out
  have zy := Ky_10.out.lt
  obtain ⟨cu0, cu1, cu2, cu3, cu4, cu5⟩ := cells6 Ku_10.out
  have zu := Ku_10.out.lt
  refine (fp_neg X0 _ (HG.out.keep B10.out)).mono ?_
  rintro e w11 ⟨rfl, hb⟩
  clear cx0 cx1 cx2 cx3 cx4 cx5 zx cy0 cy1 cy2 cy3 cy4 cy5 zy cu0 cu1 cu2 cu3 cu4 cu5 zu
  have B11 := Lib.hid (B10.out.trans (hb.mono B10.out.size))
  have Kx_11 := Lib.hid (Kx_10.out.keep hb)
  have Ky_11 := Lib.hid (Ky_10.out.keep hb)
  have Ku_11 := Lib.hid (Ku_10.out.keep hb)
  clear hb B10 Kx_10 Ky_10 Ku_10
  obtain ⟨cx0, cx1, cx2, cx3, cx4, cx5⟩ := cells6 Kx_11.out
  have zx := Kx_11.out.lt
  obtain ⟨cy0, cy1, cy2, cy3, cy4, cy5⟩ := cells6 Ky_11.out
  have zy := Ky_11.out.lt
  obtain ⟨cu0, cu1, cu2, cu3, cu4, cu5⟩ := cells6 Ku_11.out
  have zu := Ku_11.out.lt
  rw [← HN.out]
  go_wp2_with fail
  refine (S_ns.out _ (HG.out.keep B11.out) (HS.out.keep B11.out) (HQ.out.keep B11.out)).mono ?_
  rintro e w12 ⟨rfl, hb⟩
  clear cx0 cx1 cx2 cx3 cx4 cx5 zx cy0 cy1 cy2 cy3 cy4 cy5 zy cu0 cu1 cu2 cu3 cu4 cu5 zu
  have B12 := Lib.hid (B11.out.trans (hb.mono B11.out.size))
  have Kx_12 := Lib.hid (Kx_11.out.keep hb)
  have Ky_12 := Lib.hid (Ky_11.out.keep hb)
  have Ku_12 := Lib.hid (Ku_11.out.keep hb)
  clear hb B11 Kx_11 Ky_11 Ku_11
  obtain ⟨cx0, cx1, cx2, cx3, cx4, cx5⟩ := cells6 Kx_12.out
  have zx := Kx_12.out.lt
  obtain ⟨cy0, cy1, cy2, cy3, cy4, cy5⟩ := cells6 Ky_12.out
  have zy := Ky_12.out.lt
  obtain ⟨cu0, cu1, cu2, cu3, cu4, cu5⟩ := cells6 Ku_12.out
  have zu := Ku_12.out.lt
  unfold pv arr6
  go_wp2_with fail
  clear cx0 cx1 cx2 cx3 cx4 cx5 zx cy0 cy1 cy2 cy3 cy4 cy5 zy cu0 cu1 cu2 cu3 cu4 cu5 zu
  have B13 := Lib.hid (B12.out.alloc B12.out.size (Obj.cells #[.int .u64 (wd (fe Mp (Wd ^ 6) B) 0), .int .u64 (wd (fe Mp (Wd ^ 6) B) 1), .int .u64 (wd (fe Mp (Wd ^ 6) B) 2), .int .u64 (wd (fe Mp (Wd ^ 6) B) 3), .int .u64 (wd (fe Mp (Wd ^ 6) B) 4), .int .u64 (wd (fe Mp (Wd ^ 6) B) 5)] 27))
  have Kx_13 := Lib.hid (Kx_12.out.alloc (Obj.cells #[.int .u64 (wd (fe Mp (Wd ^ 6) B) 0), .int .u64 (wd (fe Mp (Wd ^ 6) B) 1), .int .u64 (wd (fe Mp (Wd ^ 6) B) 2), .int .u64 (wd (fe Mp (Wd ^ 6) B) 3), .int .u64 (wd (fe Mp (Wd ^ 6) B) 4), .int .u64 (wd (fe Mp (Wd ^ 6) B) 5)] 27))
  have Ky_13 := Lib.hid (Ky_12.out.alloc (Obj.cells #[.int .u64 (wd (fe Mp (Wd ^ 6) B) 0), .int .u64 (wd (fe Mp (Wd ^ 6) B) 1), .int .u64 (wd (fe Mp (Wd ^ 6) B) 2), .int .u64 (wd (fe Mp (Wd ^ 6) B) 3), .int .u64 (wd (fe Mp (Wd ^ 6) B) 4), .int .u64 (wd (fe Mp (Wd ^ 6) B) 5)] 27))
  have Ku_13 := Lib.hid (Ku_12.out.alloc (Obj.cells #[.int .u64 (wd (fe Mp (Wd ^ 6) B) 0), .int .u64 (wd (fe Mp (Wd ^ 6) B) 1), .int .u64 (wd (fe Mp (Wd ^ 6) B) 2), .int .u64 (wd (fe Mp (Wd ^ 6) B) 3), .int .u64 (wd (fe Mp (Wd ^ 6) B) 4), .int .u64 (wd (fe Mp (Wd ^ 6) B) 5)] 27))
  have Kv_13 := Lib.hid (Blk.new w12 27 #[.int .u64 (wd (fe Mp (Wd ^ 6) B) 0), .int .u64 (wd (fe Mp (Wd ^ 6) B) 1), .int .u64 (wd (fe Mp (Wd ^ 6) B) 2), .int .u64 (wd (fe Mp (Wd ^ 6) B) 3), .int .u64 (wd (fe Mp (Wd ^ 6) B) 4), .int .u64 (wd (fe Mp (Wd ^ 6) B) 5)])
  obtain ⟨gv, hgv⟩ : ∃ g, g = w12.heap.size := ⟨_, rfl⟩
  obtain ⟨w13, hw13⟩ : ∃ W, W = w12.alloc (Obj.cells #[.int .u64 (wd (fe Mp (Wd ^ 6) B) 0), .int .u64 (wd (fe Mp (Wd ^ 6) B) 1), .int .u64 (wd (fe Mp (Wd ^ 6) B) 2), .int .u64 (wd (fe Mp (Wd ^ 6) B) 3), .int .u64 (wd (fe Mp (Wd ^ 6) B) 4), .int .u64 (wd (fe Mp (Wd ^ 6) B) 5)] 27) := ⟨_, rfl⟩
  rw [← hgv] at Kv_13
  simp only [← hw13] at B13 Kx_13 Ky_13 Ku_13 Kv_13
  rw [← hw13, ← hgv]
  clear hw13 hgv B12 Kx_12 Ky_12 Ku_12
  obtain ⟨cx0, cx1, cx2, cx3, cx4, cx5⟩ := cells6 Kx_13.out
  have zx := Kx_13.out.lt
  obtain ⟨cy0, cy1, cy2, cy3, cy4, cy5⟩ := cells6 Ky_13.out
  have zy := Ky_13.out.lt
  obtain ⟨cu0, cu1, cu2, cu3, cu4, cu5⟩ := cells6 Ku_13.out
  have zu := Ku_13.out.lt
  obtain ⟨cv0, cv1, cv2, cv3, cv4, cv5⟩ := cells6 Kv_13.out
  have zv := Kv_13.out.lt
  refine (fp_zero X0 _).mono ?_
  rintro e w14 ⟨rfl, hb⟩
  clear cx0 cx1 cx2 cx3 cx4 cx5 zx cy0 cy1 cy2 cy3 cy4 cy5 zy cu0 cu1 cu2 cu3 cu4 cu5 zu cv0 cv1 cv2 cv3 cv4 cv5 zv
  have B14 := Lib.hid (B13.out.trans (hb.mono B13.out.size))
  have Kx_14 := Lib.hid (Kx_13.out.keep hb)
  have Ky_14 := Lib.hid (Ky_13.out.keep hb)
  have Ku_14 := Lib.hid (Ku_13.out.keep hb)
  have Kv_14 := Lib.hid (Kv_13.out.keep hb)
  clear hb B13 Kx_13 Ky_13 Ku_13 Kv_13
  obtain ⟨cx0, cx1, cx2, cx3, cx4, cx5⟩ := cells6 Kx_14.out
  have zx := Kx_14.out.lt
  obtain ⟨cy0, cy1, cy2, cy3, cy4, cy5⟩ := cells6 Ky_14.out
  have zy := Ky_14.out.lt
  obtain ⟨cu0, cu1, cu2, cu3, cu4, cu5⟩ := cells6 Ku_14.out
  have zu := Ku_14.out.lt
  obtain ⟨cv0, cv1, cv2, cv3, cv4, cv5⟩ := cells6 Kv_14.out
  have zv := Kv_14.out.lt
  rw [HZ.out]
  go_wp2_with fail
  by_cases ho : X0 % Mp % 2 = 1
  · have hn : ¬ N % Mp % 2 = 1 := fun h => HOD.out.1 h ho
    have O1 := Lib.hid (show decide (X0 % Mp % 2 = 1) = true by simpa using ho)
    have O2 := Lib.hid (show decide (N % Mp % 2 = 1) = false by simpa using hn)
    clear ho hn
    by_cases hl : X0 % Mp < Up
    · have hm : Up ≤ N % Mp := HLA.out.2 hl
      have M1 := Lib.hid hl
      have M2 := Lib.hid hm
      clear hm
      clear hl
      have GV2 := Lib.hid (HG.out.keep B14.out)
      have UV2 := Lib.hid (HU.out.keep B14.out)
      have h2_0 := based_oddp w14 GV2.out (X0)
      rw [O1.out] at h2_0
      unfold pv arr6 at h2_0
      have A2_0 := Lib.hid h2_0
      clear h2_0
      have h2_1 := based_negp w14 GV2.out (X0)
      rw [← HN.out] at h2_1
      unfold pv arr6 at h2_1
      have A2_1 := Lib.hid h2_1
      clear h2_1
      have h2_2 := based_oddp w14 GV2.out (N)
      rw [O2.out] at h2_2
      unfold pv arr6 at h2_2
      have A2_2 := Lib.hid h2_2
      clear h2_2
      have h2_3 := based_largeltp w14 GV2.out UV2.out (X0) M1.out
      unfold pv arr6 at h2_3
      have A2_3 := Lib.hid h2_3
      clear h2_3
      have h2_4 := based_largegep w14 GV2.out UV2.out (N) M2.out
      unfold pv arr6 at h2_4
      have A2_4 := Lib.hid h2_4
      clear h2_4
      clear cx0 cx1 cx2 cx3 cx4 cx5 zx cy0 cy1 cy2 cy3 cy4 cy5 zy cu0 cu1 cu2 cu3 cu4 cu5 zu cv0 cv1 cv2 cv3 cv4 cv5 zv
      have D14 := hid_drew w14
      have SS14 : Hid (∀ W, Hid (Below w14.heap.size w14 W) → W.cell? ⟨gx, 0, none⟩ = some (.int .u64 (wd (fe Mp (Wd ^ 6) X0) 0)) ∧ W.cell? ⟨gx, 1, none⟩ = some (.int .u64 (wd (fe Mp (Wd ^ 6) X0) 1)) ∧ W.cell? ⟨gx, 2, none⟩ = some (.int .u64 (wd (fe Mp (Wd ^ 6) X0) 2)) ∧ W.cell? ⟨gx, 3, none⟩ = some (.int .u64 (wd (fe Mp (Wd ^ 6) X0) 3)) ∧ W.cell? ⟨gx, 4, none⟩ = some (.int .u64 (wd (fe Mp (Wd ^ 6) X0) 4)) ∧ W.cell? ⟨gx, 5, none⟩ = some (.int .u64 (wd (fe Mp (Wd ^ 6) X0) 5)) ∧ W.cell? ⟨gy, 0, none⟩ = some (.int .u64 (wd (fe Mp (Wd ^ 6) R) 0)) ∧ W.cell? ⟨gy, 1, none⟩ = some (.int .u64 (wd (fe Mp (Wd ^ 6) R) 1)) ∧ W.cell? ⟨gy, 2, none⟩ = some (.int .u64 (wd (fe Mp (Wd ^ 6) R) 2)) ∧ W.cell? ⟨gy, 3, none⟩ = some (.int .u64 (wd (fe Mp (Wd ^ 6) R) 3)) ∧ W.cell? ⟨gy, 4, none⟩ = some (.int .u64 (wd (fe Mp (Wd ^ 6) R) 4)) ∧ W.cell? ⟨gy, 5, none⟩ = some (.int .u64 (wd (fe Mp (Wd ^ 6) R) 5)) ∧ W.cell? ⟨gu, 0, none⟩ = some (.int .u64 (wd (fe Mp (Wd ^ 6) 0) 0)) ∧ W.cell? ⟨gu, 1, none⟩ = some (.int .u64 (wd (fe Mp (Wd ^ 6) 0) 1)) ∧ W.cell? ⟨gu, 2, none⟩ = some (.int .u64 (wd (fe Mp (Wd ^ 6) 0) 2)) ∧ W.cell? ⟨gu, 3, none⟩ = some (.int .u64 (wd (fe Mp (Wd ^ 6) 0) 3)) ∧ W.cell? ⟨gu, 4, none⟩ = some (.int .u64 (wd (fe Mp (Wd ^ 6) 0) 4)) ∧ W.cell? ⟨gu, 5, none⟩ = some (.int .u64 (wd (fe Mp (Wd ^ 6) 0) 5)) ∧ W.cell? ⟨gv, 0, none⟩ = some (.int .u64 (wd (fe Mp (Wd ^ 6) B) 0)) ∧ W.cell? ⟨gv, 1, none⟩ = some (.int .u64 (wd (fe Mp (Wd ^ 6) B) 1)) ∧ W.cell? ⟨gv, 2, none⟩ = some (.int .u64 (wd (fe Mp (Wd ^ 6) B) 2)) ∧ W.cell? ⟨gv, 3, none⟩ = some (.int .u64 (wd (fe Mp (Wd ^ 6) B) 3)) ∧ W.cell? ⟨gv, 4, none⟩ = some (.int .u64 (wd (fe Mp (Wd ^ 6) B) 4)) ∧ W.cell? ⟨gv, 5, none⟩ = some (.int .u64 (wd (fe Mp (Wd ^ 6) B) 5)) ∧ Hid (Below w14.heap.size w14 W)) := Lib.hid (fun W hW => by
        obtain ⟨qx0, qx1, qx2, qx3, qx4, qx5⟩ := cells6 (Kx_14.out.keep hW.out)
        obtain ⟨qy0, qy1, qy2, qy3, qy4, qy5⟩ := cells6 (Ky_14.out.keep hW.out)
        obtain ⟨qu0, qu1, qu2, qu3, qu4, qu5⟩ := cells6 (Ku_14.out.keep hW.out)
        obtain ⟨qv0, qv1, qv2, qv3, qv4, qv5⟩ := cells6 (Kv_14.out.keep hW.out)
        exact ⟨qx0, qx1, qx2, qx3, qx4, qx5, qy0, qy1, qy2, qy3, qy4, qy5, qu0, qu1, qu2, qu3, qu4, qu5, qv0, qv1, qv2, qv3, qv4, qv5, hW⟩)
      go_region_held3 (fun W => W.cell? ⟨gx, 0, none⟩ = some (.int .u64 (wd (fe Mp (Wd ^ 6) X0) 0)) ∧ W.cell? ⟨gx, 1, none⟩ = some (.int .u64 (wd (fe Mp (Wd ^ 6) X0) 1)) ∧ W.cell? ⟨gx, 2, none⟩ = some (.int .u64 (wd (fe Mp (Wd ^ 6) X0) 2)) ∧ W.cell? ⟨gx, 3, none⟩ = some (.int .u64 (wd (fe Mp (Wd ^ 6) X0) 3)) ∧ W.cell? ⟨gx, 4, none⟩ = some (.int .u64 (wd (fe Mp (Wd ^ 6) X0) 4)) ∧ W.cell? ⟨gx, 5, none⟩ = some (.int .u64 (wd (fe Mp (Wd ^ 6) X0) 5)) ∧ W.cell? ⟨gy, 0, none⟩ = some (.int .u64 (wd (fe Mp (Wd ^ 6) R) 0)) ∧ W.cell? ⟨gy, 1, none⟩ = some (.int .u64 (wd (fe Mp (Wd ^ 6) R) 1)) ∧ W.cell? ⟨gy, 2, none⟩ = some (.int .u64 (wd (fe Mp (Wd ^ 6) R) 2)) ∧ W.cell? ⟨gy, 3, none⟩ = some (.int .u64 (wd (fe Mp (Wd ^ 6) R) 3)) ∧ W.cell? ⟨gy, 4, none⟩ = some (.int .u64 (wd (fe Mp (Wd ^ 6) R) 4)) ∧ W.cell? ⟨gy, 5, none⟩ = some (.int .u64 (wd (fe Mp (Wd ^ 6) R) 5)) ∧ W.cell? ⟨gu, 0, none⟩ = some (.int .u64 (wd (fe Mp (Wd ^ 6) 0) 0)) ∧ W.cell? ⟨gu, 1, none⟩ = some (.int .u64 (wd (fe Mp (Wd ^ 6) 0) 1)) ∧ W.cell? ⟨gu, 2, none⟩ = some (.int .u64 (wd (fe Mp (Wd ^ 6) 0) 2)) ∧ W.cell? ⟨gu, 3, none⟩ = some (.int .u64 (wd (fe Mp (Wd ^ 6) 0) 3)) ∧ W.cell? ⟨gu, 4, none⟩ = some (.int .u64 (wd (fe Mp (Wd ^ 6) 0) 4)) ∧ W.cell? ⟨gu, 5, none⟩ = some (.int .u64 (wd (fe Mp (Wd ^ 6) 0) 5)) ∧ W.cell? ⟨gv, 0, none⟩ = some (.int .u64 (wd (fe Mp (Wd ^ 6) B) 0)) ∧ W.cell? ⟨gv, 1, none⟩ = some (.int .u64 (wd (fe Mp (Wd ^ 6) B) 1)) ∧ W.cell? ⟨gv, 2, none⟩ = some (.int .u64 (wd (fe Mp (Wd ^ 6) B) 2)) ∧ W.cell? ⟨gv, 3, none⟩ = some (.int .u64 (wd (fe Mp (Wd ^ 6) B) 3)) ∧ W.cell? ⟨gv, 4, none⟩ = some (.int .u64 (wd (fe Mp (Wd ^ 6) B) 4)) ∧ W.cell? ⟨gv, 5, none⟩ = some (.int .u64 (wd (fe Mp (Wd ^ 6) B) 5)) ∧ Hid (Below w14.heap.size w14 W)) (first | exact SS14.out _ D14 | exact SS14.out _ (by with_reducible assumption)) (first
        | (go_at_call 18; (with_reducible refine (A2_0.out _ (by first | exact D14 | with_reducible assumption)).mono ?_); rintro e w15 ⟨rfl, HB15⟩)
        | (go_at_call 16; (with_reducible refine (A2_1.out _ (by first | exact D14 | with_reducible assumption)).mono ?_); rintro e w15 ⟨rfl, HB15⟩)
        | (go_at_call 18; (with_reducible refine (A2_2.out _ (by first | exact D14 | with_reducible assumption)).mono ?_); rintro e w15 ⟨rfl, HB15⟩)
        | (go_at_call 19; (with_reducible refine (A2_3.out _ (by first | exact D14 | with_reducible assumption)).mono ?_); rintro e w15 ⟨rfl, HB15⟩)
        | (go_at_call 19; (with_reducible refine (A2_4.out _ (by first | exact D14 | with_reducible assumption)).mono ?_); rintro e w15 ⟨rfl, HB15⟩))
      have B15 := Lib.hid (B14.out.trans (HB15.out.mono B14.out.size))
      have Kx_15 := Lib.hid (Kx_14.out.keep HB15.out)
      have Ky_15 := Lib.hid (Ky_14.out.keep HB15.out)
      have Ku_15 := Lib.hid (Ku_14.out.keep HB15.out)
      have Kv_15 := Lib.hid (Kv_14.out.keep HB15.out)
      clear B14 SS14 D14 HB15 Kx_14 Ky_14 Ku_14 Kv_14 A2_0 A2_1 A2_2 A2_3 A2_4
      obtain ⟨cx0, cx1, cx2, cx3, cx4, cx5⟩ := cells6 Kx_15.out
      have zx := Kx_15.out.lt
      obtain ⟨cy0, cy1, cy2, cy3, cy4, cy5⟩ := cells6 Ky_15.out
      have zy := Ky_15.out.lt
      obtain ⟨cu0, cu1, cu2, cu3, cu4, cu5⟩ := cells6 Ku_15.out
      have zu := Ku_15.out.lt
      obtain ⟨cv0, cv1, cv2, cv3, cv4, cv5⟩ := cells6 Kv_15.out
      have zv := Kv_15.out.lt
      go_wp2_with fail
      go_ret
      exact ⟨rfl, B15.out⟩
    · have hm : N % Mp < Up := by have := HLA.out; omega
      have hl : Up ≤ X0 % Mp := by omega
      have M1 := Lib.hid hl
      have M2 := Lib.hid hm
      clear hm
      clear hl
      have GV2 := Lib.hid (HG.out.keep B14.out)
      have UV2 := Lib.hid (HU.out.keep B14.out)
      have h2_0 := based_oddp w14 GV2.out (X0)
      rw [O1.out] at h2_0
      unfold pv arr6 at h2_0
      have A2_0 := Lib.hid h2_0
      clear h2_0
      have h2_1 := based_negp w14 GV2.out (X0)
      rw [← HN.out] at h2_1
      unfold pv arr6 at h2_1
      have A2_1 := Lib.hid h2_1
      clear h2_1
      have h2_2 := based_oddp w14 GV2.out (N)
      rw [O2.out] at h2_2
      unfold pv arr6 at h2_2
      have A2_2 := Lib.hid h2_2
      clear h2_2
      have h2_3 := based_largegep w14 GV2.out UV2.out (X0) M1.out
      unfold pv arr6 at h2_3
      have A2_3 := Lib.hid h2_3
      clear h2_3
      have h2_4 := based_largeltp w14 GV2.out UV2.out (N) M2.out
      unfold pv arr6 at h2_4
      have A2_4 := Lib.hid h2_4
      clear h2_4
      clear cx0 cx1 cx2 cx3 cx4 cx5 zx cy0 cy1 cy2 cy3 cy4 cy5 zy cu0 cu1 cu2 cu3 cu4 cu5 zu cv0 cv1 cv2 cv3 cv4 cv5 zv
      have D14 := hid_drew w14
      have SS14 : Hid (∀ W, Hid (Below w14.heap.size w14 W) → W.cell? ⟨gx, 0, none⟩ = some (.int .u64 (wd (fe Mp (Wd ^ 6) X0) 0)) ∧ W.cell? ⟨gx, 1, none⟩ = some (.int .u64 (wd (fe Mp (Wd ^ 6) X0) 1)) ∧ W.cell? ⟨gx, 2, none⟩ = some (.int .u64 (wd (fe Mp (Wd ^ 6) X0) 2)) ∧ W.cell? ⟨gx, 3, none⟩ = some (.int .u64 (wd (fe Mp (Wd ^ 6) X0) 3)) ∧ W.cell? ⟨gx, 4, none⟩ = some (.int .u64 (wd (fe Mp (Wd ^ 6) X0) 4)) ∧ W.cell? ⟨gx, 5, none⟩ = some (.int .u64 (wd (fe Mp (Wd ^ 6) X0) 5)) ∧ W.cell? ⟨gy, 0, none⟩ = some (.int .u64 (wd (fe Mp (Wd ^ 6) R) 0)) ∧ W.cell? ⟨gy, 1, none⟩ = some (.int .u64 (wd (fe Mp (Wd ^ 6) R) 1)) ∧ W.cell? ⟨gy, 2, none⟩ = some (.int .u64 (wd (fe Mp (Wd ^ 6) R) 2)) ∧ W.cell? ⟨gy, 3, none⟩ = some (.int .u64 (wd (fe Mp (Wd ^ 6) R) 3)) ∧ W.cell? ⟨gy, 4, none⟩ = some (.int .u64 (wd (fe Mp (Wd ^ 6) R) 4)) ∧ W.cell? ⟨gy, 5, none⟩ = some (.int .u64 (wd (fe Mp (Wd ^ 6) R) 5)) ∧ W.cell? ⟨gu, 0, none⟩ = some (.int .u64 (wd (fe Mp (Wd ^ 6) 0) 0)) ∧ W.cell? ⟨gu, 1, none⟩ = some (.int .u64 (wd (fe Mp (Wd ^ 6) 0) 1)) ∧ W.cell? ⟨gu, 2, none⟩ = some (.int .u64 (wd (fe Mp (Wd ^ 6) 0) 2)) ∧ W.cell? ⟨gu, 3, none⟩ = some (.int .u64 (wd (fe Mp (Wd ^ 6) 0) 3)) ∧ W.cell? ⟨gu, 4, none⟩ = some (.int .u64 (wd (fe Mp (Wd ^ 6) 0) 4)) ∧ W.cell? ⟨gu, 5, none⟩ = some (.int .u64 (wd (fe Mp (Wd ^ 6) 0) 5)) ∧ W.cell? ⟨gv, 0, none⟩ = some (.int .u64 (wd (fe Mp (Wd ^ 6) B) 0)) ∧ W.cell? ⟨gv, 1, none⟩ = some (.int .u64 (wd (fe Mp (Wd ^ 6) B) 1)) ∧ W.cell? ⟨gv, 2, none⟩ = some (.int .u64 (wd (fe Mp (Wd ^ 6) B) 2)) ∧ W.cell? ⟨gv, 3, none⟩ = some (.int .u64 (wd (fe Mp (Wd ^ 6) B) 3)) ∧ W.cell? ⟨gv, 4, none⟩ = some (.int .u64 (wd (fe Mp (Wd ^ 6) B) 4)) ∧ W.cell? ⟨gv, 5, none⟩ = some (.int .u64 (wd (fe Mp (Wd ^ 6) B) 5)) ∧ Hid (Below w14.heap.size w14 W)) := Lib.hid (fun W hW => by
        obtain ⟨qx0, qx1, qx2, qx3, qx4, qx5⟩ := cells6 (Kx_14.out.keep hW.out)
        obtain ⟨qy0, qy1, qy2, qy3, qy4, qy5⟩ := cells6 (Ky_14.out.keep hW.out)
        obtain ⟨qu0, qu1, qu2, qu3, qu4, qu5⟩ := cells6 (Ku_14.out.keep hW.out)
        obtain ⟨qv0, qv1, qv2, qv3, qv4, qv5⟩ := cells6 (Kv_14.out.keep hW.out)
        exact ⟨qx0, qx1, qx2, qx3, qx4, qx5, qy0, qy1, qy2, qy3, qy4, qy5, qu0, qu1, qu2, qu3, qu4, qu5, qv0, qv1, qv2, qv3, qv4, qv5, hW⟩)
      go_region_held3 (fun W => W.cell? ⟨gx, 0, none⟩ = some (.int .u64 (wd (fe Mp (Wd ^ 6) X0) 0)) ∧ W.cell? ⟨gx, 1, none⟩ = some (.int .u64 (wd (fe Mp (Wd ^ 6) X0) 1)) ∧ W.cell? ⟨gx, 2, none⟩ = some (.int .u64 (wd (fe Mp (Wd ^ 6) X0) 2)) ∧ W.cell? ⟨gx, 3, none⟩ = some (.int .u64 (wd (fe Mp (Wd ^ 6) X0) 3)) ∧ W.cell? ⟨gx, 4, none⟩ = some (.int .u64 (wd (fe Mp (Wd ^ 6) X0) 4)) ∧ W.cell? ⟨gx, 5, none⟩ = some (.int .u64 (wd (fe Mp (Wd ^ 6) X0) 5)) ∧ W.cell? ⟨gy, 0, none⟩ = some (.int .u64 (wd (fe Mp (Wd ^ 6) R) 0)) ∧ W.cell? ⟨gy, 1, none⟩ = some (.int .u64 (wd (fe Mp (Wd ^ 6) R) 1)) ∧ W.cell? ⟨gy, 2, none⟩ = some (.int .u64 (wd (fe Mp (Wd ^ 6) R) 2)) ∧ W.cell? ⟨gy, 3, none⟩ = some (.int .u64 (wd (fe Mp (Wd ^ 6) R) 3)) ∧ W.cell? ⟨gy, 4, none⟩ = some (.int .u64 (wd (fe Mp (Wd ^ 6) R) 4)) ∧ W.cell? ⟨gy, 5, none⟩ = some (.int .u64 (wd (fe Mp (Wd ^ 6) R) 5)) ∧ W.cell? ⟨gu, 0, none⟩ = some (.int .u64 (wd (fe Mp (Wd ^ 6) 0) 0)) ∧ W.cell? ⟨gu, 1, none⟩ = some (.int .u64 (wd (fe Mp (Wd ^ 6) 0) 1)) ∧ W.cell? ⟨gu, 2, none⟩ = some (.int .u64 (wd (fe Mp (Wd ^ 6) 0) 2)) ∧ W.cell? ⟨gu, 3, none⟩ = some (.int .u64 (wd (fe Mp (Wd ^ 6) 0) 3)) ∧ W.cell? ⟨gu, 4, none⟩ = some (.int .u64 (wd (fe Mp (Wd ^ 6) 0) 4)) ∧ W.cell? ⟨gu, 5, none⟩ = some (.int .u64 (wd (fe Mp (Wd ^ 6) 0) 5)) ∧ W.cell? ⟨gv, 0, none⟩ = some (.int .u64 (wd (fe Mp (Wd ^ 6) B) 0)) ∧ W.cell? ⟨gv, 1, none⟩ = some (.int .u64 (wd (fe Mp (Wd ^ 6) B) 1)) ∧ W.cell? ⟨gv, 2, none⟩ = some (.int .u64 (wd (fe Mp (Wd ^ 6) B) 2)) ∧ W.cell? ⟨gv, 3, none⟩ = some (.int .u64 (wd (fe Mp (Wd ^ 6) B) 3)) ∧ W.cell? ⟨gv, 4, none⟩ = some (.int .u64 (wd (fe Mp (Wd ^ 6) B) 4)) ∧ W.cell? ⟨gv, 5, none⟩ = some (.int .u64 (wd (fe Mp (Wd ^ 6) B) 5)) ∧ Hid (Below w14.heap.size w14 W)) (first | exact SS14.out _ D14 | exact SS14.out _ (by with_reducible assumption)) (first
        | (go_at_call 18; (with_reducible refine (A2_0.out _ (by first | exact D14 | with_reducible assumption)).mono ?_); rintro e w15 ⟨rfl, HB15⟩)
        | (go_at_call 16; (with_reducible refine (A2_1.out _ (by first | exact D14 | with_reducible assumption)).mono ?_); rintro e w15 ⟨rfl, HB15⟩)
        | (go_at_call 18; (with_reducible refine (A2_2.out _ (by first | exact D14 | with_reducible assumption)).mono ?_); rintro e w15 ⟨rfl, HB15⟩)
        | (go_at_call 19; (with_reducible refine (A2_3.out _ (by first | exact D14 | with_reducible assumption)).mono ?_); rintro e w15 ⟨rfl, HB15⟩)
        | (go_at_call 19; (with_reducible refine (A2_4.out _ (by first | exact D14 | with_reducible assumption)).mono ?_); rintro e w15 ⟨rfl, HB15⟩))
      have B15 := Lib.hid (B14.out.trans (HB15.out.mono B14.out.size))
      have Kx_15 := Lib.hid (Kx_14.out.keep HB15.out)
      have Ky_15 := Lib.hid (Ky_14.out.keep HB15.out)
      have Ku_15 := Lib.hid (Ku_14.out.keep HB15.out)
      have Kv_15 := Lib.hid (Kv_14.out.keep HB15.out)
      clear B14 SS14 D14 HB15 Kx_14 Ky_14 Ku_14 Kv_14 A2_0 A2_1 A2_2 A2_3 A2_4
      obtain ⟨cx0, cx1, cx2, cx3, cx4, cx5⟩ := cells6 Kx_15.out
      have zx := Kx_15.out.lt
      obtain ⟨cy0, cy1, cy2, cy3, cy4, cy5⟩ := cells6 Ky_15.out
      have zy := Ky_15.out.lt
      obtain ⟨cu0, cu1, cu2, cu3, cu4, cu5⟩ := cells6 Ku_15.out
      have zu := Ku_15.out.lt
      obtain ⟨cv0, cv1, cv2, cv3, cv4, cv5⟩ := cells6 Kv_15.out
      have zv := Kv_15.out.lt
      go_wp2_with fail
      go_ret
      exact ⟨rfl, B15.out⟩
  · have hn : N % Mp % 2 = 1 := HOD.out.2 ho
    have O1 := Lib.hid (show decide (X0 % Mp % 2 = 1) = false by simpa using ho)
    have O2 := Lib.hid (show decide (N % Mp % 2 = 1) = true by simpa using hn)
    clear ho hn
    by_cases hl : X0 % Mp < Up
    · have hm : Up ≤ N % Mp := HLA.out.2 hl
      have M1 := Lib.hid hl
      have M2 := Lib.hid hm
      clear hm
      clear hl
      have GV2 := Lib.hid (HG.out.keep B14.out)
      have UV2 := Lib.hid (HU.out.keep B14.out)
      have h2_0 := based_oddp w14 GV2.out (X0)
      rw [O1.out] at h2_0
      unfold pv arr6 at h2_0
      have A2_0 := Lib.hid h2_0
      clear h2_0
      have h2_1 := based_negp w14 GV2.out (X0)
      rw [← HN.out] at h2_1
      unfold pv arr6 at h2_1
      have A2_1 := Lib.hid h2_1
      clear h2_1
      have h2_2 := based_oddp w14 GV2.out (N)
      rw [O2.out] at h2_2
      unfold pv arr6 at h2_2
      have A2_2 := Lib.hid h2_2
      clear h2_2
      have h2_3 := based_largeltp w14 GV2.out UV2.out (X0) M1.out
      unfold pv arr6 at h2_3
      have A2_3 := Lib.hid h2_3
      clear h2_3
      have h2_4 := based_largegep w14 GV2.out UV2.out (N) M2.out
      unfold pv arr6 at h2_4
      have A2_4 := Lib.hid h2_4
      clear h2_4
      clear cx0 cx1 cx2 cx3 cx4 cx5 zx cy0 cy1 cy2 cy3 cy4 cy5 zy cu0 cu1 cu2 cu3 cu4 cu5 zu cv0 cv1 cv2 cv3 cv4 cv5 zv
      have D14 := hid_drew w14
      have SS14 : Hid (∀ W, Hid (Below w14.heap.size w14 W) → W.cell? ⟨gx, 0, none⟩ = some (.int .u64 (wd (fe Mp (Wd ^ 6) X0) 0)) ∧ W.cell? ⟨gx, 1, none⟩ = some (.int .u64 (wd (fe Mp (Wd ^ 6) X0) 1)) ∧ W.cell? ⟨gx, 2, none⟩ = some (.int .u64 (wd (fe Mp (Wd ^ 6) X0) 2)) ∧ W.cell? ⟨gx, 3, none⟩ = some (.int .u64 (wd (fe Mp (Wd ^ 6) X0) 3)) ∧ W.cell? ⟨gx, 4, none⟩ = some (.int .u64 (wd (fe Mp (Wd ^ 6) X0) 4)) ∧ W.cell? ⟨gx, 5, none⟩ = some (.int .u64 (wd (fe Mp (Wd ^ 6) X0) 5)) ∧ W.cell? ⟨gy, 0, none⟩ = some (.int .u64 (wd (fe Mp (Wd ^ 6) R) 0)) ∧ W.cell? ⟨gy, 1, none⟩ = some (.int .u64 (wd (fe Mp (Wd ^ 6) R) 1)) ∧ W.cell? ⟨gy, 2, none⟩ = some (.int .u64 (wd (fe Mp (Wd ^ 6) R) 2)) ∧ W.cell? ⟨gy, 3, none⟩ = some (.int .u64 (wd (fe Mp (Wd ^ 6) R) 3)) ∧ W.cell? ⟨gy, 4, none⟩ = some (.int .u64 (wd (fe Mp (Wd ^ 6) R) 4)) ∧ W.cell? ⟨gy, 5, none⟩ = some (.int .u64 (wd (fe Mp (Wd ^ 6) R) 5)) ∧ W.cell? ⟨gu, 0, none⟩ = some (.int .u64 (wd (fe Mp (Wd ^ 6) 0) 0)) ∧ W.cell? ⟨gu, 1, none⟩ = some (.int .u64 (wd (fe Mp (Wd ^ 6) 0) 1)) ∧ W.cell? ⟨gu, 2, none⟩ = some (.int .u64 (wd (fe Mp (Wd ^ 6) 0) 2)) ∧ W.cell? ⟨gu, 3, none⟩ = some (.int .u64 (wd (fe Mp (Wd ^ 6) 0) 3)) ∧ W.cell? ⟨gu, 4, none⟩ = some (.int .u64 (wd (fe Mp (Wd ^ 6) 0) 4)) ∧ W.cell? ⟨gu, 5, none⟩ = some (.int .u64 (wd (fe Mp (Wd ^ 6) 0) 5)) ∧ W.cell? ⟨gv, 0, none⟩ = some (.int .u64 (wd (fe Mp (Wd ^ 6) B) 0)) ∧ W.cell? ⟨gv, 1, none⟩ = some (.int .u64 (wd (fe Mp (Wd ^ 6) B) 1)) ∧ W.cell? ⟨gv, 2, none⟩ = some (.int .u64 (wd (fe Mp (Wd ^ 6) B) 2)) ∧ W.cell? ⟨gv, 3, none⟩ = some (.int .u64 (wd (fe Mp (Wd ^ 6) B) 3)) ∧ W.cell? ⟨gv, 4, none⟩ = some (.int .u64 (wd (fe Mp (Wd ^ 6) B) 4)) ∧ W.cell? ⟨gv, 5, none⟩ = some (.int .u64 (wd (fe Mp (Wd ^ 6) B) 5)) ∧ Hid (Below w14.heap.size w14 W)) := Lib.hid (fun W hW => by
        obtain ⟨qx0, qx1, qx2, qx3, qx4, qx5⟩ := cells6 (Kx_14.out.keep hW.out)
        obtain ⟨qy0, qy1, qy2, qy3, qy4, qy5⟩ := cells6 (Ky_14.out.keep hW.out)
        obtain ⟨qu0, qu1, qu2, qu3, qu4, qu5⟩ := cells6 (Ku_14.out.keep hW.out)
        obtain ⟨qv0, qv1, qv2, qv3, qv4, qv5⟩ := cells6 (Kv_14.out.keep hW.out)
        exact ⟨qx0, qx1, qx2, qx3, qx4, qx5, qy0, qy1, qy2, qy3, qy4, qy5, qu0, qu1, qu2, qu3, qu4, qu5, qv0, qv1, qv2, qv3, qv4, qv5, hW⟩)
      go_region_held3 (fun W => W.cell? ⟨gx, 0, none⟩ = some (.int .u64 (wd (fe Mp (Wd ^ 6) X0) 0)) ∧ W.cell? ⟨gx, 1, none⟩ = some (.int .u64 (wd (fe Mp (Wd ^ 6) X0) 1)) ∧ W.cell? ⟨gx, 2, none⟩ = some (.int .u64 (wd (fe Mp (Wd ^ 6) X0) 2)) ∧ W.cell? ⟨gx, 3, none⟩ = some (.int .u64 (wd (fe Mp (Wd ^ 6) X0) 3)) ∧ W.cell? ⟨gx, 4, none⟩ = some (.int .u64 (wd (fe Mp (Wd ^ 6) X0) 4)) ∧ W.cell? ⟨gx, 5, none⟩ = some (.int .u64 (wd (fe Mp (Wd ^ 6) X0) 5)) ∧ W.cell? ⟨gy, 0, none⟩ = some (.int .u64 (wd (fe Mp (Wd ^ 6) R) 0)) ∧ W.cell? ⟨gy, 1, none⟩ = some (.int .u64 (wd (fe Mp (Wd ^ 6) R) 1)) ∧ W.cell? ⟨gy, 2, none⟩ = some (.int .u64 (wd (fe Mp (Wd ^ 6) R) 2)) ∧ W.cell? ⟨gy, 3, none⟩ = some (.int .u64 (wd (fe Mp (Wd ^ 6) R) 3)) ∧ W.cell? ⟨gy, 4, none⟩ = some (.int .u64 (wd (fe Mp (Wd ^ 6) R) 4)) ∧ W.cell? ⟨gy, 5, none⟩ = some (.int .u64 (wd (fe Mp (Wd ^ 6) R) 5)) ∧ W.cell? ⟨gu, 0, none⟩ = some (.int .u64 (wd (fe Mp (Wd ^ 6) 0) 0)) ∧ W.cell? ⟨gu, 1, none⟩ = some (.int .u64 (wd (fe Mp (Wd ^ 6) 0) 1)) ∧ W.cell? ⟨gu, 2, none⟩ = some (.int .u64 (wd (fe Mp (Wd ^ 6) 0) 2)) ∧ W.cell? ⟨gu, 3, none⟩ = some (.int .u64 (wd (fe Mp (Wd ^ 6) 0) 3)) ∧ W.cell? ⟨gu, 4, none⟩ = some (.int .u64 (wd (fe Mp (Wd ^ 6) 0) 4)) ∧ W.cell? ⟨gu, 5, none⟩ = some (.int .u64 (wd (fe Mp (Wd ^ 6) 0) 5)) ∧ W.cell? ⟨gv, 0, none⟩ = some (.int .u64 (wd (fe Mp (Wd ^ 6) B) 0)) ∧ W.cell? ⟨gv, 1, none⟩ = some (.int .u64 (wd (fe Mp (Wd ^ 6) B) 1)) ∧ W.cell? ⟨gv, 2, none⟩ = some (.int .u64 (wd (fe Mp (Wd ^ 6) B) 2)) ∧ W.cell? ⟨gv, 3, none⟩ = some (.int .u64 (wd (fe Mp (Wd ^ 6) B) 3)) ∧ W.cell? ⟨gv, 4, none⟩ = some (.int .u64 (wd (fe Mp (Wd ^ 6) B) 4)) ∧ W.cell? ⟨gv, 5, none⟩ = some (.int .u64 (wd (fe Mp (Wd ^ 6) B) 5)) ∧ Hid (Below w14.heap.size w14 W)) (first | exact SS14.out _ D14 | exact SS14.out _ (by with_reducible assumption)) (first
        | (go_at_call 18; (with_reducible refine (A2_0.out _ (by first | exact D14 | with_reducible assumption)).mono ?_); rintro e w15 ⟨rfl, HB15⟩)
        | (go_at_call 16; (with_reducible refine (A2_1.out _ (by first | exact D14 | with_reducible assumption)).mono ?_); rintro e w15 ⟨rfl, HB15⟩)
        | (go_at_call 18; (with_reducible refine (A2_2.out _ (by first | exact D14 | with_reducible assumption)).mono ?_); rintro e w15 ⟨rfl, HB15⟩)
        | (go_at_call 19; (with_reducible refine (A2_3.out _ (by first | exact D14 | with_reducible assumption)).mono ?_); rintro e w15 ⟨rfl, HB15⟩)
        | (go_at_call 19; (with_reducible refine (A2_4.out _ (by first | exact D14 | with_reducible assumption)).mono ?_); rintro e w15 ⟨rfl, HB15⟩))
      have B15 := Lib.hid (B14.out.trans (HB15.out.mono B14.out.size))
      have Kx_15 := Lib.hid (Kx_14.out.keep HB15.out)
      have Ky_15 := Lib.hid (Ky_14.out.keep HB15.out)
      have Ku_15 := Lib.hid (Ku_14.out.keep HB15.out)
      have Kv_15 := Lib.hid (Kv_14.out.keep HB15.out)
      clear B14 SS14 D14 HB15 Kx_14 Ky_14 Ku_14 Kv_14 A2_0 A2_1 A2_2 A2_3 A2_4
      obtain ⟨cx0, cx1, cx2, cx3, cx4, cx5⟩ := cells6 Kx_15.out
      have zx := Kx_15.out.lt
      obtain ⟨cy0, cy1, cy2, cy3, cy4, cy5⟩ := cells6 Ky_15.out
      have zy := Ky_15.out.lt
      obtain ⟨cu0, cu1, cu2, cu3, cu4, cu5⟩ := cells6 Ku_15.out
      have zu := Ku_15.out.lt
      obtain ⟨cv0, cv1, cv2, cv3, cv4, cv5⟩ := cells6 Kv_15.out
      have zv := Kv_15.out.lt
      go_wp2_with fail
      go_ret
      exact ⟨rfl, B15.out⟩
    · have hm : N % Mp < Up := by have := HLA.out; omega
      have hl : Up ≤ X0 % Mp := by omega
      have M1 := Lib.hid hl
      have M2 := Lib.hid hm
      clear hm
      clear hl
      have GV2 := Lib.hid (HG.out.keep B14.out)
      have UV2 := Lib.hid (HU.out.keep B14.out)
      have h2_0 := based_oddp w14 GV2.out (X0)
      rw [O1.out] at h2_0
      unfold pv arr6 at h2_0
      have A2_0 := Lib.hid h2_0
      clear h2_0
      have h2_1 := based_negp w14 GV2.out (X0)
      rw [← HN.out] at h2_1
      unfold pv arr6 at h2_1
      have A2_1 := Lib.hid h2_1
      clear h2_1
      have h2_2 := based_oddp w14 GV2.out (N)
      rw [O2.out] at h2_2
      unfold pv arr6 at h2_2
      have A2_2 := Lib.hid h2_2
      clear h2_2
      have h2_3 := based_largegep w14 GV2.out UV2.out (X0) M1.out
      unfold pv arr6 at h2_3
      have A2_3 := Lib.hid h2_3
      clear h2_3
      have h2_4 := based_largeltp w14 GV2.out UV2.out (N) M2.out
      unfold pv arr6 at h2_4
      have A2_4 := Lib.hid h2_4
      clear h2_4
      clear cx0 cx1 cx2 cx3 cx4 cx5 zx cy0 cy1 cy2 cy3 cy4 cy5 zy cu0 cu1 cu2 cu3 cu4 cu5 zu cv0 cv1 cv2 cv3 cv4 cv5 zv
      have D14 := hid_drew w14
      have SS14 : Hid (∀ W, Hid (Below w14.heap.size w14 W) → W.cell? ⟨gx, 0, none⟩ = some (.int .u64 (wd (fe Mp (Wd ^ 6) X0) 0)) ∧ W.cell? ⟨gx, 1, none⟩ = some (.int .u64 (wd (fe Mp (Wd ^ 6) X0) 1)) ∧ W.cell? ⟨gx, 2, none⟩ = some (.int .u64 (wd (fe Mp (Wd ^ 6) X0) 2)) ∧ W.cell? ⟨gx, 3, none⟩ = some (.int .u64 (wd (fe Mp (Wd ^ 6) X0) 3)) ∧ W.cell? ⟨gx, 4, none⟩ = some (.int .u64 (wd (fe Mp (Wd ^ 6) X0) 4)) ∧ W.cell? ⟨gx, 5, none⟩ = some (.int .u64 (wd (fe Mp (Wd ^ 6) X0) 5)) ∧ W.cell? ⟨gy, 0, none⟩ = some (.int .u64 (wd (fe Mp (Wd ^ 6) R) 0)) ∧ W.cell? ⟨gy, 1, none⟩ = some (.int .u64 (wd (fe Mp (Wd ^ 6) R) 1)) ∧ W.cell? ⟨gy, 2, none⟩ = some (.int .u64 (wd (fe Mp (Wd ^ 6) R) 2)) ∧ W.cell? ⟨gy, 3, none⟩ = some (.int .u64 (wd (fe Mp (Wd ^ 6) R) 3)) ∧ W.cell? ⟨gy, 4, none⟩ = some (.int .u64 (wd (fe Mp (Wd ^ 6) R) 4)) ∧ W.cell? ⟨gy, 5, none⟩ = some (.int .u64 (wd (fe Mp (Wd ^ 6) R) 5)) ∧ W.cell? ⟨gu, 0, none⟩ = some (.int .u64 (wd (fe Mp (Wd ^ 6) 0) 0)) ∧ W.cell? ⟨gu, 1, none⟩ = some (.int .u64 (wd (fe Mp (Wd ^ 6) 0) 1)) ∧ W.cell? ⟨gu, 2, none⟩ = some (.int .u64 (wd (fe Mp (Wd ^ 6) 0) 2)) ∧ W.cell? ⟨gu, 3, none⟩ = some (.int .u64 (wd (fe Mp (Wd ^ 6) 0) 3)) ∧ W.cell? ⟨gu, 4, none⟩ = some (.int .u64 (wd (fe Mp (Wd ^ 6) 0) 4)) ∧ W.cell? ⟨gu, 5, none⟩ = some (.int .u64 (wd (fe Mp (Wd ^ 6) 0) 5)) ∧ W.cell? ⟨gv, 0, none⟩ = some (.int .u64 (wd (fe Mp (Wd ^ 6) B) 0)) ∧ W.cell? ⟨gv, 1, none⟩ = some (.int .u64 (wd (fe Mp (Wd ^ 6) B) 1)) ∧ W.cell? ⟨gv, 2, none⟩ = some (.int .u64 (wd (fe Mp (Wd ^ 6) B) 2)) ∧ W.cell? ⟨gv, 3, none⟩ = some (.int .u64 (wd (fe Mp (Wd ^ 6) B) 3)) ∧ W.cell? ⟨gv, 4, none⟩ = some (.int .u64 (wd (fe Mp (Wd ^ 6) B) 4)) ∧ W.cell? ⟨gv, 5, none⟩ = some (.int .u64 (wd (fe Mp (Wd ^ 6) B) 5)) ∧ Hid (Below w14.heap.size w14 W)) := Lib.hid (fun W hW => by
        obtain ⟨qx0, qx1, qx2, qx3, qx4, qx5⟩ := cells6 (Kx_14.out.keep hW.out)
        obtain ⟨qy0, qy1, qy2, qy3, qy4, qy5⟩ := cells6 (Ky_14.out.keep hW.out)
        obtain ⟨qu0, qu1, qu2, qu3, qu4, qu5⟩ := cells6 (Ku_14.out.keep hW.out)
        obtain ⟨qv0, qv1, qv2, qv3, qv4, qv5⟩ := cells6 (Kv_14.out.keep hW.out)
        exact ⟨qx0, qx1, qx2, qx3, qx4, qx5, qy0, qy1, qy2, qy3, qy4, qy5, qu0, qu1, qu2, qu3, qu4, qu5, qv0, qv1, qv2, qv3, qv4, qv5, hW⟩)
      go_region_held3 (fun W => W.cell? ⟨gx, 0, none⟩ = some (.int .u64 (wd (fe Mp (Wd ^ 6) X0) 0)) ∧ W.cell? ⟨gx, 1, none⟩ = some (.int .u64 (wd (fe Mp (Wd ^ 6) X0) 1)) ∧ W.cell? ⟨gx, 2, none⟩ = some (.int .u64 (wd (fe Mp (Wd ^ 6) X0) 2)) ∧ W.cell? ⟨gx, 3, none⟩ = some (.int .u64 (wd (fe Mp (Wd ^ 6) X0) 3)) ∧ W.cell? ⟨gx, 4, none⟩ = some (.int .u64 (wd (fe Mp (Wd ^ 6) X0) 4)) ∧ W.cell? ⟨gx, 5, none⟩ = some (.int .u64 (wd (fe Mp (Wd ^ 6) X0) 5)) ∧ W.cell? ⟨gy, 0, none⟩ = some (.int .u64 (wd (fe Mp (Wd ^ 6) R) 0)) ∧ W.cell? ⟨gy, 1, none⟩ = some (.int .u64 (wd (fe Mp (Wd ^ 6) R) 1)) ∧ W.cell? ⟨gy, 2, none⟩ = some (.int .u64 (wd (fe Mp (Wd ^ 6) R) 2)) ∧ W.cell? ⟨gy, 3, none⟩ = some (.int .u64 (wd (fe Mp (Wd ^ 6) R) 3)) ∧ W.cell? ⟨gy, 4, none⟩ = some (.int .u64 (wd (fe Mp (Wd ^ 6) R) 4)) ∧ W.cell? ⟨gy, 5, none⟩ = some (.int .u64 (wd (fe Mp (Wd ^ 6) R) 5)) ∧ W.cell? ⟨gu, 0, none⟩ = some (.int .u64 (wd (fe Mp (Wd ^ 6) 0) 0)) ∧ W.cell? ⟨gu, 1, none⟩ = some (.int .u64 (wd (fe Mp (Wd ^ 6) 0) 1)) ∧ W.cell? ⟨gu, 2, none⟩ = some (.int .u64 (wd (fe Mp (Wd ^ 6) 0) 2)) ∧ W.cell? ⟨gu, 3, none⟩ = some (.int .u64 (wd (fe Mp (Wd ^ 6) 0) 3)) ∧ W.cell? ⟨gu, 4, none⟩ = some (.int .u64 (wd (fe Mp (Wd ^ 6) 0) 4)) ∧ W.cell? ⟨gu, 5, none⟩ = some (.int .u64 (wd (fe Mp (Wd ^ 6) 0) 5)) ∧ W.cell? ⟨gv, 0, none⟩ = some (.int .u64 (wd (fe Mp (Wd ^ 6) B) 0)) ∧ W.cell? ⟨gv, 1, none⟩ = some (.int .u64 (wd (fe Mp (Wd ^ 6) B) 1)) ∧ W.cell? ⟨gv, 2, none⟩ = some (.int .u64 (wd (fe Mp (Wd ^ 6) B) 2)) ∧ W.cell? ⟨gv, 3, none⟩ = some (.int .u64 (wd (fe Mp (Wd ^ 6) B) 3)) ∧ W.cell? ⟨gv, 4, none⟩ = some (.int .u64 (wd (fe Mp (Wd ^ 6) B) 4)) ∧ W.cell? ⟨gv, 5, none⟩ = some (.int .u64 (wd (fe Mp (Wd ^ 6) B) 5)) ∧ Hid (Below w14.heap.size w14 W)) (first | exact SS14.out _ D14 | exact SS14.out _ (by with_reducible assumption)) (first
        | (go_at_call 18; (with_reducible refine (A2_0.out _ (by first | exact D14 | with_reducible assumption)).mono ?_); rintro e w15 ⟨rfl, HB15⟩)
        | (go_at_call 16; (with_reducible refine (A2_1.out _ (by first | exact D14 | with_reducible assumption)).mono ?_); rintro e w15 ⟨rfl, HB15⟩)
        | (go_at_call 18; (with_reducible refine (A2_2.out _ (by first | exact D14 | with_reducible assumption)).mono ?_); rintro e w15 ⟨rfl, HB15⟩)
        | (go_at_call 19; (with_reducible refine (A2_3.out _ (by first | exact D14 | with_reducible assumption)).mono ?_); rintro e w15 ⟨rfl, HB15⟩)
        | (go_at_call 19; (with_reducible refine (A2_4.out _ (by first | exact D14 | with_reducible assumption)).mono ?_); rintro e w15 ⟨rfl, HB15⟩))
      have B15 := Lib.hid (B14.out.trans (HB15.out.mono B14.out.size))
      have Kx_15 := Lib.hid (Kx_14.out.keep HB15.out)
      have Ky_15 := Lib.hid (Ky_14.out.keep HB15.out)
      have Ku_15 := Lib.hid (Ku_14.out.keep HB15.out)
      have Kv_15 := Lib.hid (Kv_14.out.keep HB15.out)
      clear B14 SS14 D14 HB15 Kx_14 Ky_14 Ku_14 Kv_14 A2_0 A2_1 A2_2 A2_3 A2_4
      obtain ⟨cx0, cx1, cx2, cx3, cx4, cx5⟩ := cells6 Kx_15.out
      have zx := Kx_15.out.lt
      obtain ⟨cy0, cy1, cy2, cy3, cy4, cy5⟩ := cells6 Ky_15.out
      have zy := Ky_15.out.lt
      obtain ⟨cu0, cu1, cu2, cu3, cu4, cu5⟩ := cells6 Ku_15.out
      have zu := Ku_15.out.lt
      obtain ⟨cv0, cv1, cv2, cv3, cv4, cv5⟩ := cells6 Kv_15.out
      have zv := Kv_15.out.lt
      go_wp2_with fail
      go_ret
      exact ⟨rfl, B15.out⟩
set_option maxRecDepth 100000 in
set_option maxHeartbeats 8000000 in
theorem squaresp_big (w : World) (hG : GM0 w) (hS : GSqp w) (hH : GShp w) (hQ : GQp w) (hU : GUp w) (A0 : Option Addr) (L0 c0 : Nat) (bs0 : List Int) (hr0 : Reads w w.heap.size A0 L0 (bs0.map (Value.int .u8))) (ho0 : Oct bs0) (h0 : 400 < L0) :
    Calls Tryd.prog 3 #[.slice A0 L0 c0] w fun e w' => e = .returned (.bool true) ∧ Below w.heap.size w w' := by
  have HG := Lib.hid hG
  have HS := Lib.hid hS
  have HH := Lib.hid hH
  have HQ := Lib.hid hQ
  have HU := Lib.hid hU
  have HR0 := Lib.hid hr0
  have HO0 := Lib.hid ho0
  have HL0 := Lib.hid (show bs0.length = L0 by simpa using hr0.1)
  obtain ⟨X0, hX0⟩ : ∃ X, X = num bs0 := ⟨_, rfl⟩
  clear HR0 HO0 HL0 hX0 hr0 ho0 HH hH
  clear hG hS hQ hU
  have B0 : Hid (Below w.heap.size w w) := Lib.hid (Below.refl _ _)
  go_enter Tryd.func3, Tryd.ntmps3
  go_wp2_with fail
  refine (fp_head _ (HG.out.keep B0.out) (HS.out.keep B0.out) (HQ.out.keep B0.out) (HU.out.keep B0.out)).mono ?_
  rintro e w1 ⟨rfl, hb⟩
  have B1 := Lib.hid (B0.out.trans (hb.mono B0.out.size))
  clear hb B0 
  go_wp2_with fail
  go_ret
  exact ⟨rfl, B1.out⟩
theorem squaresp_any (w : World) (hG : GM0 w) (hS : GSqp w) (hH : GShp w) (hQ : GQp w) (hU : GUp w) (A0 : Option Addr) (L0 c0 : Nat) (bs0 : List Int) (hr0 : Reads w w.heap.size A0 L0 (bs0.map (Value.int .u8))) (ho0 : Oct bs0) :
    Calls Tryd.prog 3 #[.slice A0 L0 c0] w fun e w' => e = .returned (.bool true) ∧ Below w.heap.size w w' := by
  rcases Nat.lt_or_ge 400 L0 with h0 | h0
  · exact squaresp_big w hG hS hH hQ hU A0 L0 c0 bs0 hr0 ho0 h0
  by_cases hx : num bs0 % Mp = 0
  · exact squaresp_n w hG hS hH hQ hU A0 L0 c0 bs0 hr0 ho0 h0 hx
  by_cases hr : (num bs0 * num bs0) ^ Qp % Mp = num bs0 % Mp <;> by_cases hs : num bs0 ^ Qp * num bs0 ^ Qp % Mp = num bs0 % Mp
  · exact squaresp_ps w hG hS hH hQ hU A0 L0 c0 bs0 hr0 ho0 h0 hx hr hs
  · exact squaresp_pn w hG hS hH hQ hU A0 L0 c0 bs0 hr0 ho0 h0 hx hr hs
  · exact squaresp_ms w hG hS hH hQ hU A0 L0 c0 bs0 hr0 ho0 h0 hx hr hs
  · exact squaresp_mn w hG hS hH hQ hU A0 L0 c0 bs0 hr0 ho0 h0 hx hr hs
end Go.Proofs.YtnebmgiajfbnaaaDoor
