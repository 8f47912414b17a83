/-
  FrCounts: the walk.
-/
import Derived.Test.YtcokhnfoadpmoaaDoorFrL
namespace Go.Proofs.YtcokhnfoadpmoaaDoor
open Go.RowKit
theorem cells4 {w : World} {g : Nat} {t : TypeId} {a b c d : Value} (h : Blk w g t #[a, b, c, d]) : w.cell? ⟨g, 0, none⟩ = some a ∧ w.cell? ⟨g, 1, none⟩ = some b ∧ w.cell? ⟨g, 2, none⟩ = some c ∧ w.cell? ⟨g, 3, none⟩ = some d :=
  ⟨h.at_ rfl, h.at_ rfl, h.at_ rfl, h.at_ rfl⟩
set_option maxRecDepth 100000 in
set_option maxHeartbeats 4000000 in
theorem counts_eq (a b : Int) (w : World) (hG : GMr w) (hS : GSq w) (ha0 : 0 ≤ a) (ha : a < 4294967296) (hb0 : 0 ≤ b) (hb : b < 4294967296) (hab : a = b) :
    Calls Tryd.prog 8 #[.int .u32 a, .int .u32 b] w fun e w' => e = .returned (.bool true) ∧ Below w.heap.size w w' := by
  have HG := Lib.hid hG
  have HS := Lib.hid hS
  have hW : (4294967296 : Int) * 4294967296 = Wd := by simp [Wd]
  have hp0 : 0 ≤ a * b := Int.mul_nonneg ha0 hb0
  have hp : a * b ≤ 4294967295 * 4294967295 := Int.mul_le_mul (by omega) (by omega) hb0 (by omega)
  have hp2 : a * b < Wd := by omega
  have aW : a < Wd := by omega
  have bW : b < Wd := by omega
  have sW : a + b < Wd := by omega
  have hM : (4294967296 : Int) < Mr := by simp [Mr]
  have hma : a % Mr = a := Int.emod_eq_of_lt ha0 (by omega)
  have hmb : b % Mr = b := Int.emod_eq_of_lt hb0 (by omega)
  have q3 := fv_same a b (by rw [hab])
  have j1 : (a == b) = true := by simpa using hab
  have q1 := fv_same (a + b) (a + b) rfl
  have q2 := fv_same (a * b) (a * b) rfl
  have q4 := fv_same (a - b) (a - b) rfl
  have u5 : IntKind.u64.wrap (a - b) = a - b := by rw [wrapU]; exact loW_of (by omega) (by omega)
  have i5 : b ≤ a := by omega
  have u1 : IntKind.u64.wrap a = a := by rw [wrapU]; exact loW_of ha0 aW
  have u2 : IntKind.u64.wrap b = b := by rw [wrapU]; exact loW_of hb0 bW
  have u3 : IntKind.u64.wrap (a + b) = a + b := by rw [wrapU]; exact loW_of (by omega) sW
  have u4 : IntKind.u64.wrap (a * b) = a * b := by rw [wrapU]; exact loW_of hp0 hp2
  have AW := Lib.hid aW
  have BW := Lib.hid bW
  have SW := Lib.hid sW
  have PW0 := Lib.hid hp0
  have PW1 := Lib.hid hp2
  clear hG hS hW hp0 hp hp2 aW bW sW hM hma hmb
  have HAB := Lib.hid hab
  clear hab
  have B0 : Hid (Below w.heap.size w w) := Lib.hid (Below.refl _ _)
  go_enter Tryd.func8, Tryd.ntmps8
  go_wp2_with fail
  refine (fr_head _ (HG.out.keep B0.out) (HS.out.keep B0.out)).mono ?_
  rintro e w1 ⟨rfl, hb⟩
  have B1 := Lib.hid (B0.out.trans (hb.mono B0.out.size))
  clear hb B0 
  go_wp2_with fail
  refine (fr_of a _ (HG.out.keep B1.out) (HS.out.keep B1.out) ha0 AW.out).mono ?_
  rintro e w2 ⟨rfl, hb⟩
  have B2 := Lib.hid (B1.out.trans (hb.mono B1.out.size))
  clear hb B1 
  unfold fv arr4
  go_wp2_with fail
  have B3 := Lib.hid (B2.out.alloc B2.out.size (Obj.cells #[.int .u64 (wd (fe Mr (Wd ^ 4) a) 0), .int .u64 (wd (fe Mr (Wd ^ 4) a) 1), .int .u64 (wd (fe Mr (Wd ^ 4) a) 2), .int .u64 (wd (fe Mr (Wd ^ 4) a) 3)] 28))
  have Kx_3 := Lib.hid (Blk.new w2 28 #[.int .u64 (wd (fe Mr (Wd ^ 4) a) 0), .int .u64 (wd (fe Mr (Wd ^ 4) a) 1), .int .u64 (wd (fe Mr (Wd ^ 4) a) 2), .int .u64 (wd (fe Mr (Wd ^ 4) a) 3)])
  obtain ⟨gx, hgx⟩ : ∃ g, g = w2.heap.size := ⟨_, rfl⟩
  obtain ⟨w3, hw3⟩ : ∃ W, W = w2.alloc (Obj.cells #[.int .u64 (wd (fe Mr (Wd ^ 4) a) 0), .int .u64 (wd (fe Mr (Wd ^ 4) a) 1), .int .u64 (wd (fe Mr (Wd ^ 4) a) 2), .int .u64 (wd (fe Mr (Wd ^ 4) a) 3)] 28) := ⟨_, rfl⟩
  rw [← hgx] at Kx_3
  simp only [← hw3] at B3 Kx_3
  rw [← hw3, ← hgx]
  clear hw3 hgx B2 
  obtain ⟨cx0, cx1, cx2, cx3⟩ := cells4 Kx_3.out
  have zx := Kx_3.out.lt
  refine (fr_of b _ (HG.out.keep B3.out) (HS.out.keep B3.out) hb0 BW.out).mono ?_
  rintro e w4 ⟨rfl, hb⟩
  clear cx0 cx1 cx2 cx3 zx
  have B4 := Lib.hid (B3.out.trans (hb.mono B3.out.size))
  have Kx_4 := Lib.hid (Kx_3.out.keep hb)
  clear hb B3 Kx_3
  obtain ⟨cx0, cx1, cx2, cx3⟩ := cells4 Kx_4.out
  have zx := Kx_4.out.lt
  unfold fv arr4
  go_wp2_with fail
  clear cx0 cx1 cx2 cx3 zx
  have B5 := Lib.hid (B4.out.alloc B4.out.size (Obj.cells #[.int .u64 (wd (fe Mr (Wd ^ 4) b) 0), .int .u64 (wd (fe Mr (Wd ^ 4) b) 1), .int .u64 (wd (fe Mr (Wd ^ 4) b) 2), .int .u64 (wd (fe Mr (Wd ^ 4) b) 3)] 28))
  have Kx_5 := Lib.hid (Kx_4.out.alloc (Obj.cells #[.int .u64 (wd (fe Mr (Wd ^ 4) b) 0), .int .u64 (wd (fe Mr (Wd ^ 4) b) 1), .int .u64 (wd (fe Mr (Wd ^ 4) b) 2), .int .u64 (wd (fe Mr (Wd ^ 4) b) 3)] 28))
  have Ky_5 := Lib.hid (Blk.new w4 28 #[.int .u64 (wd (fe Mr (Wd ^ 4) b) 0), .int .u64 (wd (fe Mr (Wd ^ 4) b) 1), .int .u64 (wd (fe Mr (Wd ^ 4) b) 2), .int .u64 (wd (fe Mr (Wd ^ 4) b) 3)])
  obtain ⟨gy, hgy⟩ : ∃ g, g = w4.heap.size := ⟨_, rfl⟩
  obtain ⟨w5, hw5⟩ : ∃ W, W = w4.alloc (Obj.cells #[.int .u64 (wd (fe Mr (Wd ^ 4) b) 0), .int .u64 (wd (fe Mr (Wd ^ 4) b) 1), .int .u64 (wd (fe Mr (Wd ^ 4) b) 2), .int .u64 (wd (fe Mr (Wd ^ 4) b) 3)] 28) := ⟨_, rfl⟩
  rw [← hgy] at Ky_5
  simp only [← hw5] at B5 Kx_5 Ky_5
  rw [← hw5, ← hgy]
  clear hw5 hgy B4 Kx_4
  obtain ⟨cx0, cx1, cx2, cx3⟩ := cells4 Kx_5.out
  have zx := Kx_5.out.lt
  obtain ⟨cy0, cy1, cy2, cy3⟩ := cells4 Ky_5.out
  have zy := Ky_5.out.lt
  refine (fr_add a b _ (HG.out.keep B5.out)).mono ?_
  rintro e w6 ⟨rfl, hb⟩
  clear cx0 cx1 cx2 cx3 zx cy0 cy1 cy2 cy3 zy
  have B6 := Lib.hid (B5.out.trans (hb.mono B5.out.size))
  have Kx_6 := Lib.hid (Kx_5.out.keep hb)
  have Ky_6 := Lib.hid (Ky_5.out.keep hb)
  clear hb B5 Kx_5 Ky_5
  obtain ⟨cx0, cx1, cx2, cx3⟩ := cells4 Kx_6.out
  have zx := Kx_6.out.lt
  obtain ⟨cy0, cy1, cy2, cy3⟩ := cells4 Ky_6.out
  have zy := Ky_6.out.lt
  unfold fv arr4
  go_wp2_with fail
  refine (fr_of (a + b) _ (HG.out.keep B6.out) (HS.out.keep B6.out) (by omega) SW.out).mono ?_
  rintro e w7 ⟨rfl, hb⟩
  clear cx0 cx1 cx2 cx3 zx cy0 cy1 cy2 cy3 zy
  have B7 := Lib.hid (B6.out.trans (hb.mono B6.out.size))
  have Kx_7 := Lib.hid (Kx_6.out.keep hb)
  have Ky_7 := Lib.hid (Ky_6.out.keep hb)
  clear hb B6 Kx_6 Ky_6
  obtain ⟨cx0, cx1, cx2, cx3⟩ := cells4 Kx_7.out
  have zx := Kx_7.out.lt
  obtain ⟨cy0, cy1, cy2, cy3⟩ := cells4 Ky_7.out
  have zy := Ky_7.out.lt
  unfold fv arr4
  go_wp2_with fail
  refine (fr_mul a b _ (HG.out.keep B7.out)).mono ?_
  rintro e w8 ⟨rfl, hb⟩
  clear cx0 cx1 cx2 cx3 zx cy0 cy1 cy2 cy3 zy
  have B8 := Lib.hid (B7.out.trans (hb.mono B7.out.size))
  have Kx_8 := Lib.hid (Kx_7.out.keep hb)
  have Ky_8 := Lib.hid (Ky_7.out.keep hb)
  clear hb B7 Kx_7 Ky_7
  obtain ⟨cx0, cx1, cx2, cx3⟩ := cells4 Kx_8.out
  have zx := Kx_8.out.lt
  obtain ⟨cy0, cy1, cy2, cy3⟩ := cells4 Ky_8.out
  have zy := Ky_8.out.lt
  unfold fv arr4
  go_wp2_with fail
  refine (fr_of (a * b) _ (HG.out.keep B8.out) (HS.out.keep B8.out) PW0.out PW1.out).mono ?_
  rintro e w9 ⟨rfl, hb⟩
  clear cx0 cx1 cx2 cx3 zx cy0 cy1 cy2 cy3 zy
  have B9 := Lib.hid (B8.out.trans (hb.mono B8.out.size))
  have Kx_9 := Lib.hid (Kx_8.out.keep hb)
  have Ky_9 := Lib.hid (Ky_8.out.keep hb)
  clear hb B8 Kx_8 Ky_8
  obtain ⟨cx0, cx1, cx2, cx3⟩ := cells4 Kx_9.out
  have zx := Kx_9.out.lt
  obtain ⟨cy0, cy1, cy2, cy3⟩ := cells4 Ky_9.out
  have zy := Ky_9.out.lt
  unfold fv arr4
  go_wp2_with fail
  refine (fr_sub a b _ (HG.out.keep B9.out)).mono ?_
  rintro e w10 ⟨rfl, hb⟩
  clear cx0 cx1 cx2 cx3 zx cy0 cy1 cy2 cy3 zy
  have B10 := Lib.hid (B9.out.trans (hb.mono B9.out.size))
  have Kx_10 := Lib.hid (Kx_9.out.keep hb)
  have Ky_10 := Lib.hid (Ky_9.out.keep hb)
  clear hb B9 Kx_9 Ky_9
  obtain ⟨cx0, cx1, cx2, cx3⟩ := cells4 Kx_10.out
  have zx := Kx_10.out.lt
  obtain ⟨cy0, cy1, cy2, cy3⟩ := cells4 Ky_10.out
  have zy := Ky_10.out.lt
  unfold fv arr4
  go_wp2_with fail
  refine (fr_of (a - b) _ (HG.out.keep B10.out) (HS.out.keep B10.out) (by omega) (by have := AW.out; omega)).mono ?_
  rintro e w11 ⟨rfl, hb⟩
  clear cx0 cx1 cx2 cx3 zx cy0 cy1 cy2 cy3 zy
  have B11 := Lib.hid (B10.out.trans (hb.mono B10.out.size))
  have Kx_11 := Lib.hid (Kx_10.out.keep hb)
  have Ky_11 := Lib.hid (Ky_10.out.keep hb)
  clear hb B10 Kx_10 Ky_10
  obtain ⟨cx0, cx1, cx2, cx3⟩ := cells4 Kx_11.out
  have zx := Kx_11.out.lt
  obtain ⟨cy0, cy1, cy2, cy3⟩ := cells4 Ky_11.out
  have zy := Ky_11.out.lt
  unfold fv arr4
  go_wp2_with fail
  go_ret
  exact ⟨rfl, B11.out⟩
set_option maxRecDepth 100000 in
set_option maxHeartbeats 4000000 in
theorem counts_gt (a b : Int) (w : World) (hG : GMr w) (hS : GSq w) (ha0 : 0 ≤ a) (ha : a < 4294967296) (hb0 : 0 ≤ b) (hb : b < 4294967296) (hab : b < a) :
    Calls Tryd.prog 8 #[.int .u32 a, .int .u32 b] w fun e w' => e = .returned (.bool true) ∧ Below w.heap.size w w' := by
  have HG := Lib.hid hG
  have HS := Lib.hid hS
  have hW : (4294967296 : Int) * 4294967296 = Wd := by simp [Wd]
  have hp0 : 0 ≤ a * b := Int.mul_nonneg ha0 hb0
  have hp : a * b ≤ 4294967295 * 4294967295 := Int.mul_le_mul (by omega) (by omega) hb0 (by omega)
  have hp2 : a * b < Wd := by omega
  have aW : a < Wd := by omega
  have bW : b < Wd := by omega
  have sW : a + b < Wd := by omega
  have hM : (4294967296 : Int) < Mr := by simp [Mr]
  have hma : a % Mr = a := Int.emod_eq_of_lt ha0 (by omega)
  have hmb : b % Mr = b := Int.emod_eq_of_lt hb0 (by omega)
  have hne : a ≠ b := by omega
  have q3 := fv_unlike a b (by rw [hma, hmb]; exact hne)
  have j1 : (a == b) = false := by simpa using hne
  have q1 := fv_same (a + b) (a + b) rfl
  have q2 := fv_same (a * b) (a * b) rfl
  have q4 := fv_same (a - b) (a - b) rfl
  have u5 : IntKind.u64.wrap (a - b) = a - b := by rw [wrapU]; exact loW_of (by omega) (by omega)
  have i5 : b ≤ a := by omega
  have u1 : IntKind.u64.wrap a = a := by rw [wrapU]; exact loW_of ha0 aW
  have u2 : IntKind.u64.wrap b = b := by rw [wrapU]; exact loW_of hb0 bW
  have u3 : IntKind.u64.wrap (a + b) = a + b := by rw [wrapU]; exact loW_of (by omega) sW
  have u4 : IntKind.u64.wrap (a * b) = a * b := by rw [wrapU]; exact loW_of hp0 hp2
  have AW := Lib.hid aW
  have BW := Lib.hid bW
  have SW := Lib.hid sW
  have PW0 := Lib.hid hp0
  have PW1 := Lib.hid hp2
  clear hG hS hW hp0 hp hp2 aW bW sW hM hma hmb
  have HAB := Lib.hid hab
  clear hab
  clear hne
  have B0 : Hid (Below w.heap.size w w) := Lib.hid (Below.refl _ _)
  go_enter Tryd.func8, Tryd.ntmps8
  go_wp2_with fail
  refine (fr_head _ (HG.out.keep B0.out) (HS.out.keep B0.out)).mono ?_
  rintro e w1 ⟨rfl, hb⟩
  have B1 := Lib.hid (B0.out.trans (hb.mono B0.out.size))
  clear hb B0 
  go_wp2_with fail
  refine (fr_of a _ (HG.out.keep B1.out) (HS.out.keep B1.out) ha0 AW.out).mono ?_
  rintro e w2 ⟨rfl, hb⟩
  have B2 := Lib.hid (B1.out.trans (hb.mono B1.out.size))
  clear hb B1 
  unfold fv arr4
  go_wp2_with fail
  have B3 := Lib.hid (B2.out.alloc B2.out.size (Obj.cells #[.int .u64 (wd (fe Mr (Wd ^ 4) a) 0), .int .u64 (wd (fe Mr (Wd ^ 4) a) 1), .int .u64 (wd (fe Mr (Wd ^ 4) a) 2), .int .u64 (wd (fe Mr (Wd ^ 4) a) 3)] 28))
  have Kx_3 := Lib.hid (Blk.new w2 28 #[.int .u64 (wd (fe Mr (Wd ^ 4) a) 0), .int .u64 (wd (fe Mr (Wd ^ 4) a) 1), .int .u64 (wd (fe Mr (Wd ^ 4) a) 2), .int .u64 (wd (fe Mr (Wd ^ 4) a) 3)])
  obtain ⟨gx, hgx⟩ : ∃ g, g = w2.heap.size := ⟨_, rfl⟩
  obtain ⟨w3, hw3⟩ : ∃ W, W = w2.alloc (Obj.cells #[.int .u64 (wd (fe Mr (Wd ^ 4) a) 0), .int .u64 (wd (fe Mr (Wd ^ 4) a) 1), .int .u64 (wd (fe Mr (Wd ^ 4) a) 2), .int .u64 (wd (fe Mr (Wd ^ 4) a) 3)] 28) := ⟨_, rfl⟩
  rw [← hgx] at Kx_3
  simp only [← hw3] at B3 Kx_3
  rw [← hw3, ← hgx]
  clear hw3 hgx B2 
  obtain ⟨cx0, cx1, cx2, cx3⟩ := cells4 Kx_3.out
  have zx := Kx_3.out.lt
  refine (fr_of b _ (HG.out.keep B3.out) (HS.out.keep B3.out) hb0 BW.out).mono ?_
  rintro e w4 ⟨rfl, hb⟩
  clear cx0 cx1 cx2 cx3 zx
  have B4 := Lib.hid (B3.out.trans (hb.mono B3.out.size))
  have Kx_4 := Lib.hid (Kx_3.out.keep hb)
  clear hb B3 Kx_3
  obtain ⟨cx0, cx1, cx2, cx3⟩ := cells4 Kx_4.out
  have zx := Kx_4.out.lt
  unfold fv arr4
  go_wp2_with fail
  clear cx0 cx1 cx2 cx3 zx
  have B5 := Lib.hid (B4.out.alloc B4.out.size (Obj.cells #[.int .u64 (wd (fe Mr (Wd ^ 4) b) 0), .int .u64 (wd (fe Mr (Wd ^ 4) b) 1), .int .u64 (wd (fe Mr (Wd ^ 4) b) 2), .int .u64 (wd (fe Mr (Wd ^ 4) b) 3)] 28))
  have Kx_5 := Lib.hid (Kx_4.out.alloc (Obj.cells #[.int .u64 (wd (fe Mr (Wd ^ 4) b) 0), .int .u64 (wd (fe Mr (Wd ^ 4) b) 1), .int .u64 (wd (fe Mr (Wd ^ 4) b) 2), .int .u64 (wd (fe Mr (Wd ^ 4) b) 3)] 28))
  have Ky_5 := Lib.hid (Blk.new w4 28 #[.int .u64 (wd (fe Mr (Wd ^ 4) b) 0), .int .u64 (wd (fe Mr (Wd ^ 4) b) 1), .int .u64 (wd (fe Mr (Wd ^ 4) b) 2), .int .u64 (wd (fe Mr (Wd ^ 4) b) 3)])
  obtain ⟨gy, hgy⟩ : ∃ g, g = w4.heap.size := ⟨_, rfl⟩
  obtain ⟨w5, hw5⟩ : ∃ W, W = w4.alloc (Obj.cells #[.int .u64 (wd (fe Mr (Wd ^ 4) b) 0), .int .u64 (wd (fe Mr (Wd ^ 4) b) 1), .int .u64 (wd (fe Mr (Wd ^ 4) b) 2), .int .u64 (wd (fe Mr (Wd ^ 4) b) 3)] 28) := ⟨_, rfl⟩
  rw [← hgy] at Ky_5
  simp only [← hw5] at B5 Kx_5 Ky_5
  rw [← hw5, ← hgy]
  clear hw5 hgy B4 Kx_4
  obtain ⟨cx0, cx1, cx2, cx3⟩ := cells4 Kx_5.out
  have zx := Kx_5.out.lt
  obtain ⟨cy0, cy1, cy2, cy3⟩ := cells4 Ky_5.out
  have zy := Ky_5.out.lt
  refine (fr_add a b _ (HG.out.keep B5.out)).mono ?_
  rintro e w6 ⟨rfl, hb⟩
  clear cx0 cx1 cx2 cx3 zx cy0 cy1 cy2 cy3 zy
  have B6 := Lib.hid (B5.out.trans (hb.mono B5.out.size))
  have Kx_6 := Lib.hid (Kx_5.out.keep hb)
  have Ky_6 := Lib.hid (Ky_5.out.keep hb)
  clear hb B5 Kx_5 Ky_5
  obtain ⟨cx0, cx1, cx2, cx3⟩ := cells4 Kx_6.out
  have zx := Kx_6.out.lt
  obtain ⟨cy0, cy1, cy2, cy3⟩ := cells4 Ky_6.out
  have zy := Ky_6.out.lt
  unfold fv arr4
  go_wp2_with fail
  refine (fr_of (a + b) _ (HG.out.keep B6.out) (HS.out.keep B6.out) (by omega) SW.out).mono ?_
  rintro e w7 ⟨rfl, hb⟩
  clear cx0 cx1 cx2 cx3 zx cy0 cy1 cy2 cy3 zy
  have B7 := Lib.hid (B6.out.trans (hb.mono B6.out.size))
  have Kx_7 := Lib.hid (Kx_6.out.keep hb)
  have Ky_7 := Lib.hid (Ky_6.out.keep hb)
  clear hb B6 Kx_6 Ky_6
  obtain ⟨cx0, cx1, cx2, cx3⟩ := cells4 Kx_7.out
  have zx := Kx_7.out.lt
  obtain ⟨cy0, cy1, cy2, cy3⟩ := cells4 Ky_7.out
  have zy := Ky_7.out.lt
  unfold fv arr4
  go_wp2_with fail
  refine (fr_mul a b _ (HG.out.keep B7.out)).mono ?_
  rintro e w8 ⟨rfl, hb⟩
  clear cx0 cx1 cx2 cx3 zx cy0 cy1 cy2 cy3 zy
  have B8 := Lib.hid (B7.out.trans (hb.mono B7.out.size))
  have Kx_8 := Lib.hid (Kx_7.out.keep hb)
  have Ky_8 := Lib.hid (Ky_7.out.keep hb)
  clear hb B7 Kx_7 Ky_7
  obtain ⟨cx0, cx1, cx2, cx3⟩ := cells4 Kx_8.out
  have zx := Kx_8.out.lt
  obtain ⟨cy0, cy1, cy2, cy3⟩ := cells4 Ky_8.out
  have zy := Ky_8.out.lt
  unfold fv arr4
  go_wp2_with fail
  refine (fr_of (a * b) _ (HG.out.keep B8.out) (HS.out.keep B8.out) PW0.out PW1.out).mono ?_
  rintro e w9 ⟨rfl, hb⟩
  clear cx0 cx1 cx2 cx3 zx cy0 cy1 cy2 cy3 zy
  have B9 := Lib.hid (B8.out.trans (hb.mono B8.out.size))
  have Kx_9 := Lib.hid (Kx_8.out.keep hb)
  have Ky_9 := Lib.hid (Ky_8.out.keep hb)
  clear hb B8 Kx_8 Ky_8
  obtain ⟨cx0, cx1, cx2, cx3⟩ := cells4 Kx_9.out
  have zx := Kx_9.out.lt
  obtain ⟨cy0, cy1, cy2, cy3⟩ := cells4 Ky_9.out
  have zy := Ky_9.out.lt
  unfold fv arr4
  go_wp2_with fail
  refine (fr_sub a b _ (HG.out.keep B9.out)).mono ?_
  rintro e w10 ⟨rfl, hb⟩
  clear cx0 cx1 cx2 cx3 zx cy0 cy1 cy2 cy3 zy
  have B10 := Lib.hid (B9.out.trans (hb.mono B9.out.size))
  have Kx_10 := Lib.hid (Kx_9.out.keep hb)
  have Ky_10 := Lib.hid (Ky_9.out.keep hb)
  clear hb B9 Kx_9 Ky_9
  obtain ⟨cx0, cx1, cx2, cx3⟩ := cells4 Kx_10.out
  have zx := Kx_10.out.lt
  obtain ⟨cy0, cy1, cy2, cy3⟩ := cells4 Ky_10.out
  have zy := Ky_10.out.lt
  unfold fv arr4
  go_wp2_with fail
  refine (fr_of (a - b) _ (HG.out.keep B10.out) (HS.out.keep B10.out) (by omega) (by have := AW.out; omega)).mono ?_
  rintro e w11 ⟨rfl, hb⟩
  clear cx0 cx1 cx2 cx3 zx cy0 cy1 cy2 cy3 zy
  have B11 := Lib.hid (B10.out.trans (hb.mono B10.out.size))
  have Kx_11 := Lib.hid (Kx_10.out.keep hb)
  have Ky_11 := Lib.hid (Ky_10.out.keep hb)
  clear hb B10 Kx_10 Ky_10
  obtain ⟨cx0, cx1, cx2, cx3⟩ := cells4 Kx_11.out
  have zx := Kx_11.out.lt
  obtain ⟨cy0, cy1, cy2, cy3⟩ := cells4 Ky_11.out
  have zy := Ky_11.out.lt
  unfold fv arr4
  go_wp2_with fail
  go_ret
  exact ⟨rfl, B11.out⟩
set_option maxRecDepth 100000 in
set_option maxHeartbeats 4000000 in
theorem counts_lt (a b : Int) (w : World) (hG : GMr w) (hS : GSq w) (ha0 : 0 ≤ a) (ha : a < 4294967296) (hb0 : 0 ≤ b) (hb : b < 4294967296) (hab : a < b) :
    Calls Tryd.prog 8 #[.int .u32 a, .int .u32 b] w fun e w' => e = .returned (.bool true) ∧ Below w.heap.size w w' := by
  have HG := Lib.hid hG
  have HS := Lib.hid hS
  have hW : (4294967296 : Int) * 4294967296 = Wd := by simp [Wd]
  have hp0 : 0 ≤ a * b := Int.mul_nonneg ha0 hb0
  have hp : a * b ≤ 4294967295 * 4294967295 := Int.mul_le_mul (by omega) (by omega) hb0 (by omega)
  have hp2 : a * b < Wd := by omega
  have aW : a < Wd := by omega
  have bW : b < Wd := by omega
  have sW : a + b < Wd := by omega
  have hM : (4294967296 : Int) < Mr := by simp [Mr]
  have hma : a % Mr = a := Int.emod_eq_of_lt ha0 (by omega)
  have hmb : b % Mr = b := Int.emod_eq_of_lt hb0 (by omega)
  have hne : a ≠ b := by omega
  have q3 := fv_unlike a b (by rw [hma, hmb]; exact hne)
  have j1 : (a == b) = false := by simpa using hne
  have q1 := fv_same (a + b) (a + b) rfl
  have q2 := fv_same (a * b) (a * b) rfl
  have q4 := fv_same (a - b) (-(b - a)) (by rw [Int.neg_sub])
  have u5 : IntKind.u64.wrap (b - a) = b - a := by rw [wrapU]; exact loW_of (by omega) (by omega)
  have i5 : ¬ b ≤ a := by omega
  have u1 : IntKind.u64.wrap a = a := by rw [wrapU]; exact loW_of ha0 aW
  have u2 : IntKind.u64.wrap b = b := by rw [wrapU]; exact loW_of hb0 bW
  have u3 : IntKind.u64.wrap (a + b) = a + b := by rw [wrapU]; exact loW_of (by omega) sW
  have u4 : IntKind.u64.wrap (a * b) = a * b := by rw [wrapU]; exact loW_of hp0 hp2
  have AW := Lib.hid aW
  have BW := Lib.hid bW
  have SW := Lib.hid sW
  have PW0 := Lib.hid hp0
  have PW1 := Lib.hid hp2
  clear hG hS hW hp0 hp hp2 aW bW sW hM hma hmb
  have HAB := Lib.hid hab
  clear hab
  clear hne
  have B0 : Hid (Below w.heap.size w w) := Lib.hid (Below.refl _ _)
  go_enter Tryd.func8, Tryd.ntmps8
  go_wp2_with fail
  refine (fr_head _ (HG.out.keep B0.out) (HS.out.keep B0.out)).mono ?_
  rintro e w1 ⟨rfl, hb⟩
  have B1 := Lib.hid (B0.out.trans (hb.mono B0.out.size))
  clear hb B0 
  go_wp2_with fail
  refine (fr_of a _ (HG.out.keep B1.out) (HS.out.keep B1.out) ha0 AW.out).mono ?_
  rintro e w2 ⟨rfl, hb⟩
  have B2 := Lib.hid (B1.out.trans (hb.mono B1.out.size))
  clear hb B1 
  unfold fv arr4
  go_wp2_with fail
  have B3 := Lib.hid (B2.out.alloc B2.out.size (Obj.cells #[.int .u64 (wd (fe Mr (Wd ^ 4) a) 0), .int .u64 (wd (fe Mr (Wd ^ 4) a) 1), .int .u64 (wd (fe Mr (Wd ^ 4) a) 2), .int .u64 (wd (fe Mr (Wd ^ 4) a) 3)] 28))
  have Kx_3 := Lib.hid (Blk.new w2 28 #[.int .u64 (wd (fe Mr (Wd ^ 4) a) 0), .int .u64 (wd (fe Mr (Wd ^ 4) a) 1), .int .u64 (wd (fe Mr (Wd ^ 4) a) 2), .int .u64 (wd (fe Mr (Wd ^ 4) a) 3)])
  obtain ⟨gx, hgx⟩ : ∃ g, g = w2.heap.size := ⟨_, rfl⟩
  obtain ⟨w3, hw3⟩ : ∃ W, W = w2.alloc (Obj.cells #[.int .u64 (wd (fe Mr (Wd ^ 4) a) 0), .int .u64 (wd (fe Mr (Wd ^ 4) a) 1), .int .u64 (wd (fe Mr (Wd ^ 4) a) 2), .int .u64 (wd (fe Mr (Wd ^ 4) a) 3)] 28) := ⟨_, rfl⟩
  rw [← hgx] at Kx_3
  simp only [← hw3] at B3 Kx_3
  rw [← hw3, ← hgx]
  clear hw3 hgx B2 
  obtain ⟨cx0, cx1, cx2, cx3⟩ := cells4 Kx_3.out
  have zx := Kx_3.out.lt
  refine (fr_of b _ (HG.out.keep B3.out) (HS.out.keep B3.out) hb0 BW.out).mono ?_
  rintro e w4 ⟨rfl, hb⟩
  clear cx0 cx1 cx2 cx3 zx
  have B4 := Lib.hid (B3.out.trans (hb.mono B3.out.size))
  have Kx_4 := Lib.hid (Kx_3.out.keep hb)
  clear hb B3 Kx_3
  obtain ⟨cx0, cx1, cx2, cx3⟩ := cells4 Kx_4.out
  have zx := Kx_4.out.lt
  unfold fv arr4
  go_wp2_with fail
  clear cx0 cx1 cx2 cx3 zx
  have B5 := Lib.hid (B4.out.alloc B4.out.size (Obj.cells #[.int .u64 (wd (fe Mr (Wd ^ 4) b) 0), .int .u64 (wd (fe Mr (Wd ^ 4) b) 1), .int .u64 (wd (fe Mr (Wd ^ 4) b) 2), .int .u64 (wd (fe Mr (Wd ^ 4) b) 3)] 28))
  have Kx_5 := Lib.hid (Kx_4.out.alloc (Obj.cells #[.int .u64 (wd (fe Mr (Wd ^ 4) b) 0), .int .u64 (wd (fe Mr (Wd ^ 4) b) 1), .int .u64 (wd (fe Mr (Wd ^ 4) b) 2), .int .u64 (wd (fe Mr (Wd ^ 4) b) 3)] 28))
  have Ky_5 := Lib.hid (Blk.new w4 28 #[.int .u64 (wd (fe Mr (Wd ^ 4) b) 0), .int .u64 (wd (fe Mr (Wd ^ 4) b) 1), .int .u64 (wd (fe Mr (Wd ^ 4) b) 2), .int .u64 (wd (fe Mr (Wd ^ 4) b) 3)])
  obtain ⟨gy, hgy⟩ : ∃ g, g = w4.heap.size := ⟨_, rfl⟩
  obtain ⟨w5, hw5⟩ : ∃ W, W = w4.alloc (Obj.cells #[.int .u64 (wd (fe Mr (Wd ^ 4) b) 0), .int .u64 (wd (fe Mr (Wd ^ 4) b) 1), .int .u64 (wd (fe Mr (Wd ^ 4) b) 2), .int .u64 (wd (fe Mr (Wd ^ 4) b) 3)] 28) := ⟨_, rfl⟩
  rw [← hgy] at Ky_5
  simp only [← hw5] at B5 Kx_5 Ky_5
  rw [← hw5, ← hgy]
  clear hw5 hgy B4 Kx_4
  obtain ⟨cx0, cx1, cx2, cx3⟩ := cells4 Kx_5.out
  have zx := Kx_5.out.lt
  obtain ⟨cy0, cy1, cy2, cy3⟩ := cells4 Ky_5.out
  have zy := Ky_5.out.lt
  refine (fr_add a b _ (HG.out.keep B5.out)).mono ?_
  rintro e w6 ⟨rfl, hb⟩
  clear cx0 cx1 cx2 cx3 zx cy0 cy1 cy2 cy3 zy
  have B6 := Lib.hid (B5.out.trans (hb.mono B5.out.size))
  have Kx_6 := Lib.hid (Kx_5.out.keep hb)
  have Ky_6 := Lib.hid (Ky_5.out.keep hb)
  clear hb B5 Kx_5 Ky_5
  obtain ⟨cx0, cx1, cx2, cx3⟩ := cells4 Kx_6.out
  have zx := Kx_6.out.lt
  obtain ⟨cy0, cy1, cy2, cy3⟩ := cells4 Ky_6.out
  have zy := Ky_6.out.lt
  unfold fv arr4
  go_wp2_with fail
  refine (fr_of (a + b) _ (HG.out.keep B6.out) (HS.out.keep B6.out) (by omega) SW.out).mono ?_
  rintro e w7 ⟨rfl, hb⟩
  clear cx0 cx1 cx2 cx3 zx cy0 cy1 cy2 cy3 zy
  have B7 := Lib.hid (B6.out.trans (hb.mono B6.out.size))
  have Kx_7 := Lib.hid (Kx_6.out.keep hb)
  have Ky_7 := Lib.hid (Ky_6.out.keep hb)
  clear hb B6 Kx_6 Ky_6
  obtain ⟨cx0, cx1, cx2, cx3⟩ := cells4 Kx_7.out
  have zx := Kx_7.out.lt
  obtain ⟨cy0, cy1, cy2, cy3⟩ := cells4 Ky_7.out
  have zy := Ky_7.out.lt
  unfold fv arr4
  go_wp2_with fail
  refine (fr_mul a b _ (HG.out.keep B7.out)).mono ?_
  rintro e w8 ⟨rfl, hb⟩
  clear cx0 cx1 cx2 cx3 zx cy0 cy1 cy2 cy3 zy
  have B8 := Lib.hid (B7.out.trans (hb.mono B7.out.size))
  have Kx_8 := Lib.hid (Kx_7.out.keep hb)
  have Ky_8 := Lib.hid (Ky_7.out.keep hb)
  clear hb B7 Kx_7 Ky_7
  obtain ⟨cx0, cx1, cx2, cx3⟩ := cells4 Kx_8.out
  have zx := Kx_8.out.lt
  obtain ⟨cy0, cy1, cy2, cy3⟩ := cells4 Ky_8.out
  have zy := Ky_8.out.lt
  unfold fv arr4
  go_wp2_with fail
  refine (fr_of (a * b) _ (HG.out.keep B8.out) (HS.out.keep B8.out) PW0.out PW1.out).mono ?_
  rintro e w9 ⟨rfl, hb⟩
  clear cx0 cx1 cx2 cx3 zx cy0 cy1 cy2 cy3 zy
  have B9 := Lib.hid (B8.out.trans (hb.mono B8.out.size))
  have Kx_9 := Lib.hid (Kx_8.out.keep hb)
  have Ky_9 := Lib.hid (Ky_8.out.keep hb)
  clear hb B8 Kx_8 Ky_8
  obtain ⟨cx0, cx1, cx2, cx3⟩ := cells4 Kx_9.out
  have zx := Kx_9.out.lt
  obtain ⟨cy0, cy1, cy2, cy3⟩ := cells4 Ky_9.out
  have zy := Ky_9.out.lt
  unfold fv arr4
  go_wp2_with fail
  refine (fr_sub a b _ (HG.out.keep B9.out)).mono ?_
  rintro e w10 ⟨rfl, hb⟩
  clear cx0 cx1 cx2 cx3 zx cy0 cy1 cy2 cy3 zy
  have B10 := Lib.hid (B9.out.trans (hb.mono B9.out.size))
  have Kx_10 := Lib.hid (Kx_9.out.keep hb)
  have Ky_10 := Lib.hid (Ky_9.out.keep hb)
  clear hb B9 Kx_9 Ky_9
  obtain ⟨cx0, cx1, cx2, cx3⟩ := cells4 Kx_10.out
  have zx := Kx_10.out.lt
  obtain ⟨cy0, cy1, cy2, cy3⟩ := cells4 Ky_10.out
  have zy := Ky_10.out.lt
  unfold fv arr4
  go_wp2_with fail
  refine (fr_of (b - a) _ (HG.out.keep B10.out) (HS.out.keep B10.out) (by omega) (by have := BW.out; omega)).mono ?_
  rintro e w11 ⟨rfl, hb⟩
  clear cx0 cx1 cx2 cx3 zx cy0 cy1 cy2 cy3 zy
  have B11 := Lib.hid (B10.out.trans (hb.mono B10.out.size))
  have Kx_11 := Lib.hid (Kx_10.out.keep hb)
  have Ky_11 := Lib.hid (Ky_10.out.keep hb)
  clear hb B10 Kx_10 Ky_10
  obtain ⟨cx0, cx1, cx2, cx3⟩ := cells4 Kx_11.out
  have zx := Kx_11.out.lt
  obtain ⟨cy0, cy1, cy2, cy3⟩ := cells4 Ky_11.out
  have zy := Ky_11.out.lt
  unfold fv arr4
  go_wp2_with fail
  refine (fr_neg (b - a) _ (HG.out.keep B11.out)).mono ?_
  rintro e w12 ⟨rfl, hb⟩
  clear cx0 cx1 cx2 cx3 zx cy0 cy1 cy2 cy3 zy
  have B12 := Lib.hid (B11.out.trans (hb.mono B11.out.size))
  have Kx_12 := Lib.hid (Kx_11.out.keep hb)
  have Ky_12 := Lib.hid (Ky_11.out.keep hb)
  clear hb B11 Kx_11 Ky_11
  obtain ⟨cx0, cx1, cx2, cx3⟩ := cells4 Kx_12.out
  have zx := Kx_12.out.lt
  obtain ⟨cy0, cy1, cy2, cy3⟩ := cells4 Ky_12.out
  have zy := Ky_12.out.lt
  unfold fv arr4
  go_wp2_with fail
  go_ret
  exact ⟨rfl, B12.out⟩
theorem counts_any (a b : Int) (w : World) (hG : GMr w) (hS : GSq w) (ha0 : 0 ≤ a) (ha : a < 4294967296) (hb0 : 0 ≤ b) (hb : b < 4294967296) :
    Calls Tryd.prog 8 #[.int .u32 a, .int .u32 b] w fun e w' => e = .returned (.bool true) ∧ Below w.heap.size w w' := by
  rcases Int.lt_trichotomy a b with h | h | h
  · exact counts_lt a b w hG hS ha0 ha hb0 hb h
  · exact counts_eq a b w hG hS ha0 ha hb0 hb h
  · exact counts_gt a b w hG hS ha0 ha hb0 hb h
end Go.Proofs.YtcokhnfoadpmoaaDoor
