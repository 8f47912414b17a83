/-
  fp: the contracts over a world that lies fixed behind; the head of the statements.
-/
import Derived.Test.YtclfmdaafpachaaDoorFpS
import Derived.Test.YtclfmdaafpachaaDoorFpH
namespace Go.Proofs.YtclfmdaafpachaaDoor
open Go.RowKit
theorem based_addp (v : World) (hG : GMp v) (x y : Int)  : ∀ W, Hid (Below v.heap.size v W) → Calls Tryd.prog 52 #[pv x, pv y] W fun e w' => e = .returned (pv (x + y)) ∧ Hid (Below v.heap.size v w') :=
  fun W hW => (fp_add x y W (hG.keep hW.out)).mono fun _ _ ⟨he, hb⟩ => ⟨he, Lib.hid (hW.out.trans (hb.mono hW.out.size))⟩
theorem based_subp (v : World) (hG : GMp v) (x y : Int)  : ∀ W, Hid (Below v.heap.size v W) → Calls Tryd.prog 53 #[pv x, pv y] W fun e w' => e = .returned (pv (x - y)) ∧ Hid (Below v.heap.size v w') :=
  fun W hW => (fp_sub x y W (hG.keep hW.out)).mono fun _ _ ⟨he, hb⟩ => ⟨he, Lib.hid (hW.out.trans (hb.mono hW.out.size))⟩
theorem based_mulp (v : World) (hG : GMp v) (x y : Int)  : ∀ W, Hid (Below v.heap.size v W) → Calls Tryd.prog 54 #[pv x, pv y] W fun e w' => e = .returned (pv (x * y)) ∧ Hid (Below v.heap.size v w') :=
  fun W hW => (fp_mul x y W (hG.keep hW.out)).mono fun _ _ ⟨he, hb⟩ => ⟨he, Lib.hid (hW.out.trans (hb.mono hW.out.size))⟩
theorem based_squarep (v : World) (hG : GMp v) (x : Int)  : ∀ W, Hid (Below v.heap.size v W) → Calls Tryd.prog 55 #[pv x] W fun e w' => e = .returned (pv (x * x)) ∧ Hid (Below v.heap.size v w') :=
  fun W hW => (fp_square x W (hG.keep hW.out)).mono fun _ _ ⟨he, hb⟩ => ⟨he, Lib.hid (hW.out.trans (hb.mono hW.out.size))⟩
theorem based_negp (v : World) (hG : GMp v) (x : Int)  : ∀ W, Hid (Below v.heap.size v W) → Calls Tryd.prog 56 #[pv x] W fun e w' => e = .returned (pv (-x)) ∧ Hid (Below v.heap.size v w') :=
  fun W hW => (fp_neg x W (hG.keep hW.out)).mono fun _ _ ⟨he, hb⟩ => ⟨he, Lib.hid (hW.out.trans (hb.mono hW.out.size))⟩
theorem based_invp (v : World) (hG : GMp v) (hS : GSqp v) (x : Int)  : ∀ W, Hid (Below v.heap.size v W) → Calls Tryd.prog 136 #[pv x] W fun e w' => e = .returned (pv (x ^ Ep)) ∧ Hid (Below v.heap.size v w') :=
  fun W hW => (fp_inv x W (hG.keep hW.out) (hS.keep hW.out)).mono fun _ _ ⟨he, hb⟩ => ⟨he, Lib.hid (hW.out.trans (hb.mono hW.out.size))⟩
theorem based_zerop (v : World) (x : Int)  : ∀ W, Hid (Below v.heap.size v W) → Calls Tryd.prog 48 #[pv x] W fun e w' => e = .returned (.bool (decide (x % Mp = 0))) ∧ Hid (Below v.heap.size v w') :=
  fun W hW => (fp_zero x W).mono fun _ _ ⟨he, hb⟩ => ⟨he, Lib.hid (hW.out.trans (hb.mono hW.out.size))⟩
theorem based_ofp (v : World) (hG : GMp v) (hS : GSqp v) (x : Int) (h0 : 0 ≤ x) (h1 : x < Wd) : ∀ W, Hid (Below v.heap.size v W) → Calls Tryd.prog 46 #[.int .u64 x] W fun e w' => e = .returned (pv x) ∧ Hid (Below v.heap.size v w') :=
  fun W hW => (fp_of x W (hG.keep hW.out) (hS.keep hW.out) h0 h1).mono fun _ _ ⟨he, hb⟩ => ⟨he, Lib.hid (hW.out.trans (hb.mono hW.out.size))⟩
theorem based_oddp (v : World) (hG : GMp v) (x : Int)  : ∀ W, Hid (Below v.heap.size v W) → Calls Tryd.prog 59 #[pv x] W fun e w' => e = .returned (.bool (decide (x % Mp % 2 = 1))) ∧ Hid (Below v.heap.size v w') :=
  fun W hW => (fp_odd x W (hG.keep hW.out)).mono fun _ _ ⟨he, hb⟩ => ⟨he, Lib.hid (hW.out.trans (hb.mono hW.out.size))⟩
theorem based_largegep (v : World) (hG : GMp v) (hU : GUp v) (x : Int) (h : Up ≤ x % Mp) : ∀ W, Hid (Below v.heap.size v W) → Calls Tryd.prog 60 #[pv x] W fun e w' => e = .returned (.bool true) ∧ Hid (Below v.heap.size v w') :=
  fun W hW => (fp_large_ge x W (hG.keep hW.out) (hU.keep hW.out) h).mono fun _ _ ⟨he, hb⟩ => ⟨he, Lib.hid (hW.out.trans (hb.mono hW.out.size))⟩
theorem based_largeltp (v : World) (hG : GMp v) (hU : GUp v) (x : Int) (h : x % Mp < Up) : ∀ W, Hid (Below v.heap.size v W) → Calls Tryd.prog 60 #[pv x] W fun e w' => e = .returned (.bool false) ∧ Hid (Below v.heap.size v w') :=
  fun W hW => (fp_large_lt x W (hG.keep hW.out) (hU.keep hW.out) h).mono fun _ _ ⟨he, hb⟩ => ⟨he, Lib.hid (hW.out.trans (hb.mono hW.out.size))⟩
theorem pv_zero : arr6 0 = pv 0 := by unfold pv; rw [pe_zero]
theorem qp_four : 4 * Qp = Ep + 3 := by decide +kernel
theorem four_root : (4 : Int) ^ Qp * 4 ^ Qp % Mp = 4 % Mp := by
  have h := invp_ok 2 (by decide)
  have e : (4 : Int) ^ Qp * 4 ^ Qp = 2 * 2 ^ Ep * 4 := by
    rw [show (4 : Int) = 2 ^ 2 from rfl, ← Int.pow_mul, ← Int.pow_add, show 2 * Qp + 2 * Qp = (Ep + 1) + 2 by have := qp_four; omega]
    rw [Int.pow_add, Int.pow_succ 2 Ep, Int.mul_comm (2 ^ Ep) 2]
  rw [e, ← emm, h, emm, Int.one_mul]
theorem minus_root : ¬ (-1 : Int) ^ Qp * (-1) ^ Qp % Mp = -1 % Mp := by
  rw [← Int.mul_pow, show (-1 : Int) * -1 = 1 from rfl, Int.one_pow]
  decide
set_option maxRecDepth 100000 in
set_option maxHeartbeats 4000000 in
theorem fp_head (w : World) (hG : GMp w) (hS : GSqp w) (hQ : GQp w) (hU : GUp w) :
    Calls Tryd.prog 44 #[] w fun e w' => e = .returned (.bool true) ∧ Below w.heap.size w w' := by
  have HG := Lib.hid hG
  have HS := Lib.hid hS
  have HQ := Lib.hid hQ
  have HU := Lib.hid hU
  clear hG hS hQ hU
  have h4 := fun W a b c => fp_sqrt_yes 4 W a b c four_root
  have h1 := fun W a b c => fp_sqrt_no (-1) W a b c minus_root
  have hr := four_root
  obtain ⟨Y, hY⟩ : ∃ Y, Y = (4 : Int) ^ Qp := ⟨_, rfl⟩
  rw [← hY] at hr
  simp only [← hY] at h4
  simp only [pv_zero] at h1
  have q1 := pv_same (Y * Y) 4 hr
  have R4 := Lib.hid h4
  have R1 := Lib.hid h1
  clear h4 h1 hY hr
  have B0 : Hid (Below w.heap.size w w) := Lib.hid (Below.refl _ _)
  go_enter Tryd.func44, Tryd.ntmps44
  go_wp2_with fail
  refine (fp_of 4 _ (HG.out.keep B0.out) (HS.out.keep B0.out) (by omega) (by simp [Wd])).mono ?_
  rintro e w1 ⟨rfl, hb⟩
  have B1 := Lib.hid (B0.out.trans (hb.mono B0.out.size))
  clear hb B0 
  go_wp2_with fail
  refine (R4.out _ (HG.out.keep B1.out) (HS.out.keep B1.out) (HQ.out.keep B1.out)).mono ?_
  rintro e w2 ⟨rfl, hb⟩
  have B2 := Lib.hid (B1.out.trans (hb.mono B1.out.size))
  clear hb B1 
  unfold pv arr6
  go_wp2_with fail
  have B3 := Lib.hid (B2.out.alloc B2.out.size (Obj.cells #[.int .u64 (wd (fe Mp (Wd ^ 6) Y) 0), .int .u64 (wd (fe Mp (Wd ^ 6) Y) 1), .int .u64 (wd (fe Mp (Wd ^ 6) Y) 2), .int .u64 (wd (fe Mp (Wd ^ 6) Y) 3), .int .u64 (wd (fe Mp (Wd ^ 6) Y) 4), .int .u64 (wd (fe Mp (Wd ^ 6) Y) 5)] 52))
  have Ktwo_3 := Lib.hid (Blk.new w2 52 #[.int .u64 (wd (fe Mp (Wd ^ 6) Y) 0), .int .u64 (wd (fe Mp (Wd ^ 6) Y) 1), .int .u64 (wd (fe Mp (Wd ^ 6) Y) 2), .int .u64 (wd (fe Mp (Wd ^ 6) Y) 3), .int .u64 (wd (fe Mp (Wd ^ 6) Y) 4), .int .u64 (wd (fe Mp (Wd ^ 6) Y) 5)])
  obtain ⟨gtwo, hgtwo⟩ : ∃ g, g = w2.heap.size := ⟨_, rfl⟩
  obtain ⟨w3, hw3⟩ : ∃ W, W = w2.alloc (Obj.cells #[.int .u64 (wd (fe Mp (Wd ^ 6) Y) 0), .int .u64 (wd (fe Mp (Wd ^ 6) Y) 1), .int .u64 (wd (fe Mp (Wd ^ 6) Y) 2), .int .u64 (wd (fe Mp (Wd ^ 6) Y) 3), .int .u64 (wd (fe Mp (Wd ^ 6) Y) 4), .int .u64 (wd (fe Mp (Wd ^ 6) Y) 5)] 52) := ⟨_, rfl⟩
  rw [← hgtwo] at Ktwo_3
  simp only [← hw3] at B3 Ktwo_3
  rw [← hw3, ← hgtwo]
  clear hw3 hgtwo B2 
  obtain ⟨ctwo0, ctwo1, ctwo2, ctwo3, ctwo4, ctwo5⟩ := cells6 Ktwo_3.out
  have ztwo := Ktwo_3.out.lt
  refine (fp_of 1 _ (HG.out.keep B3.out) (HS.out.keep B3.out) (by omega) (by simp [Wd])).mono ?_
  rintro e w4 ⟨rfl, hb⟩
  clear ctwo0 ctwo1 ctwo2 ctwo3 ctwo4 ctwo5 ztwo
  have B4 := Lib.hid (B3.out.trans (hb.mono B3.out.size))
  have Ktwo_4 := Lib.hid (Ktwo_3.out.keep hb)
  clear hb B3 Ktwo_3
  obtain ⟨ctwo0, ctwo1, ctwo2, ctwo3, ctwo4, ctwo5⟩ := cells6 Ktwo_4.out
  have ztwo := Ktwo_4.out.lt
  go_wp2_with fail
  refine (fp_neg 1 _ (HG.out.keep B4.out)).mono ?_
  rintro e w5 ⟨rfl, hb⟩
  clear ctwo0 ctwo1 ctwo2 ctwo3 ctwo4 ctwo5 ztwo
  have B5 := Lib.hid (B4.out.trans (hb.mono B4.out.size))
  have Ktwo_5 := Lib.hid (Ktwo_4.out.keep hb)
  clear hb B4 Ktwo_4
  obtain ⟨ctwo0, ctwo1, ctwo2, ctwo3, ctwo4, ctwo5⟩ := cells6 Ktwo_5.out
  have ztwo := Ktwo_5.out.lt
  go_wp2_with fail
  refine (R1.out _ (HG.out.keep B5.out) (HS.out.keep B5.out) (HQ.out.keep B5.out)).mono ?_
  rintro e w6 ⟨rfl, hb⟩
  clear ctwo0 ctwo1 ctwo2 ctwo3 ctwo4 ctwo5 ztwo
  have B6 := Lib.hid (B5.out.trans (hb.mono B5.out.size))
  have Ktwo_6 := Lib.hid (Ktwo_5.out.keep hb)
  clear hb B5 Ktwo_5
  obtain ⟨ctwo0, ctwo1, ctwo2, ctwo3, ctwo4, ctwo5⟩ := cells6 Ktwo_6.out
  have ztwo := Ktwo_6.out.lt
  unfold pv arr6
  go_wp2_with fail
  clear ctwo0 ctwo1 ctwo2 ctwo3 ctwo4 ctwo5 ztwo
  have B7 := Lib.hid (B6.out.alloc B6.out.size (Obj.cells #[.int .u64 (wd (fe Mp (Wd ^ 6) 0) 0), .int .u64 (wd (fe Mp (Wd ^ 6) 0) 1), .int .u64 (wd (fe Mp (Wd ^ 6) 0) 2), .int .u64 (wd (fe Mp (Wd ^ 6) 0) 3), .int .u64 (wd (fe Mp (Wd ^ 6) 0) 4), .int .u64 (wd (fe Mp (Wd ^ 6) 0) 5)] 52))
  have Ktwo_7 := Lib.hid (Ktwo_6.out.alloc (Obj.cells #[.int .u64 (wd (fe Mp (Wd ^ 6) 0) 0), .int .u64 (wd (fe Mp (Wd ^ 6) 0) 1), .int .u64 (wd (fe Mp (Wd ^ 6) 0) 2), .int .u64 (wd (fe Mp (Wd ^ 6) 0) 3), .int .u64 (wd (fe Mp (Wd ^ 6) 0) 4), .int .u64 (wd (fe Mp (Wd ^ 6) 0) 5)] 52))
  have Knone_7 := Lib.hid (Blk.new w6 52 #[.int .u64 (wd (fe Mp (Wd ^ 6) 0) 0), .int .u64 (wd (fe Mp (Wd ^ 6) 0) 1), .int .u64 (wd (fe Mp (Wd ^ 6) 0) 2), .int .u64 (wd (fe Mp (Wd ^ 6) 0) 3), .int .u64 (wd (fe Mp (Wd ^ 6) 0) 4), .int .u64 (wd (fe Mp (Wd ^ 6) 0) 5)])
  obtain ⟨gnone, hgnone⟩ : ∃ g, g = w6.heap.size := ⟨_, rfl⟩
  obtain ⟨w7, hw7⟩ : ∃ W, W = w6.alloc (Obj.cells #[.int .u64 (wd (fe Mp (Wd ^ 6) 0) 0), .int .u64 (wd (fe Mp (Wd ^ 6) 0) 1), .int .u64 (wd (fe Mp (Wd ^ 6) 0) 2), .int .u64 (wd (fe Mp (Wd ^ 6) 0) 3), .int .u64 (wd (fe Mp (Wd ^ 6) 0) 4), .int .u64 (wd (fe Mp (Wd ^ 6) 0) 5)] 52) := ⟨_, rfl⟩
  rw [← hgnone] at Knone_7
  simp only [← hw7] at B7 Ktwo_7 Knone_7
  rw [← hw7, ← hgnone]
  clear hw7 hgnone B6 Ktwo_6
  obtain ⟨ctwo0, ctwo1, ctwo2, ctwo3, ctwo4, ctwo5⟩ := cells6 Ktwo_7.out
  have ztwo := Ktwo_7.out.lt
  obtain ⟨cnone0, cnone1, cnone2, cnone3, cnone4, cnone5⟩ := cells6 Knone_7.out
  have znone := Knone_7.out.lt
  refine (fp_square Y _ (HG.out.keep B7.out)).mono ?_
  rintro e w8 ⟨rfl, hb⟩
  clear ctwo0 ctwo1 ctwo2 ctwo3 ctwo4 ctwo5 ztwo cnone0 cnone1 cnone2 cnone3 cnone4 cnone5 znone
  have B8 := Lib.hid (B7.out.trans (hb.mono B7.out.size))
  have Ktwo_8 := Lib.hid (Ktwo_7.out.keep hb)
  have Knone_8 := Lib.hid (Knone_7.out.keep hb)
  clear hb B7 Ktwo_7 Knone_7
  obtain ⟨ctwo0, ctwo1, ctwo2, ctwo3, ctwo4, ctwo5⟩ := cells6 Ktwo_8.out
  have ztwo := Ktwo_8.out.lt
  obtain ⟨cnone0, cnone1, cnone2, cnone3, cnone4, cnone5⟩ := cells6 Knone_8.out
  have znone := Knone_8.out.lt
  unfold pv arr6
  go_wp2_with fail
  refine (fp_of 4 _ (HG.out.keep B8.out) (HS.out.keep B8.out) (by omega) (by simp [Wd])).mono ?_
  rintro e w9 ⟨rfl, hb⟩
  clear ctwo0 ctwo1 ctwo2 ctwo3 ctwo4 ctwo5 ztwo cnone0 cnone1 cnone2 cnone3 cnone4 cnone5 znone
  have B9 := Lib.hid (B8.out.trans (hb.mono B8.out.size))
  have Ktwo_9 := Lib.hid (Ktwo_8.out.keep hb)
  have Knone_9 := Lib.hid (Knone_8.out.keep hb)
  clear hb B8 Ktwo_8 Knone_8
  obtain ⟨ctwo0, ctwo1, ctwo2, ctwo3, ctwo4, ctwo5⟩ := cells6 Ktwo_9.out
  have ztwo := Ktwo_9.out.lt
  obtain ⟨cnone0, cnone1, cnone2, cnone3, cnone4, cnone5⟩ := cells6 Knone_9.out
  have znone := Knone_9.out.lt
  unfold pv arr6
  go_wp2_with fail
  refine (fp_of 1 _ (HG.out.keep B9.out) (HS.out.keep B9.out) (by omega) (by simp [Wd])).mono ?_
  rintro e w10 ⟨rfl, hb⟩
  clear ctwo0 ctwo1 ctwo2 ctwo3 ctwo4 ctwo5 ztwo cnone0 cnone1 cnone2 cnone3 cnone4 cnone5 znone
  have B10 := Lib.hid (B9.out.trans (hb.mono B9.out.size))
  have Ktwo_10 := Lib.hid (Ktwo_9.out.keep hb)
  have Knone_10 := Lib.hid (Knone_9.out.keep hb)
  clear hb B9 Ktwo_9 Knone_9
  obtain ⟨ctwo0, ctwo1, ctwo2, ctwo3, ctwo4, ctwo5⟩ := cells6 Ktwo_10.out
  have ztwo := Ktwo_10.out.lt
  obtain ⟨cnone0, cnone1, cnone2, cnone3, cnone4, cnone5⟩ := cells6 Knone_10.out
  have znone := Knone_10.out.lt
  go_wp2_with fail
  refine (fp_large_lt 1 _ (HG.out.keep B10.out) (HU.out.keep B10.out) (by decide)).mono ?_
  rintro e w11 ⟨rfl, hb⟩
  clear ctwo0 ctwo1 ctwo2 ctwo3 ctwo4 ctwo5 ztwo cnone0 cnone1 cnone2 cnone3 cnone4 cnone5 znone
  have B11 := Lib.hid (B10.out.trans (hb.mono B10.out.size))
  have Ktwo_11 := Lib.hid (Ktwo_10.out.keep hb)
  have Knone_11 := Lib.hid (Knone_10.out.keep hb)
  clear hb B10 Ktwo_10 Knone_10
  obtain ⟨ctwo0, ctwo1, ctwo2, ctwo3, ctwo4, ctwo5⟩ := cells6 Ktwo_11.out
  have ztwo := Ktwo_11.out.lt
  obtain ⟨cnone0, cnone1, cnone2, cnone3, cnone4, cnone5⟩ := cells6 Knone_11.out
  have znone := Knone_11.out.lt
  go_wp2_with fail
  refine (fp_of 1 _ (HG.out.keep B11.out) (HS.out.keep B11.out) (by omega) (by simp [Wd])).mono ?_
  rintro e w12 ⟨rfl, hb⟩
  clear ctwo0 ctwo1 ctwo2 ctwo3 ctwo4 ctwo5 ztwo cnone0 cnone1 cnone2 cnone3 cnone4 cnone5 znone
  have B12 := Lib.hid (B11.out.trans (hb.mono B11.out.size))
  have Ktwo_12 := Lib.hid (Ktwo_11.out.keep hb)
  have Knone_12 := Lib.hid (Knone_11.out.keep hb)
  clear hb B11 Ktwo_11 Knone_11
  obtain ⟨ctwo0, ctwo1, ctwo2, ctwo3, ctwo4, ctwo5⟩ := cells6 Ktwo_12.out
  have ztwo := Ktwo_12.out.lt
  obtain ⟨cnone0, cnone1, cnone2, cnone3, cnone4, cnone5⟩ := cells6 Knone_12.out
  have znone := Knone_12.out.lt
  go_wp2_with fail
  refine (fp_neg 1 _ (HG.out.keep B12.out)).mono ?_
  rintro e w13 ⟨rfl, hb⟩
  clear ctwo0 ctwo1 ctwo2 ctwo3 ctwo4 ctwo5 ztwo cnone0 cnone1 cnone2 cnone3 cnone4 cnone5 znone
  have B13 := Lib.hid (B12.out.trans (hb.mono B12.out.size))
  have Ktwo_13 := Lib.hid (Ktwo_12.out.keep hb)
  have Knone_13 := Lib.hid (Knone_12.out.keep hb)
  clear hb B12 Ktwo_12 Knone_12
  obtain ⟨ctwo0, ctwo1, ctwo2, ctwo3, ctwo4, ctwo5⟩ := cells6 Ktwo_13.out
  have ztwo := Ktwo_13.out.lt
  obtain ⟨cnone0, cnone1, cnone2, cnone3, cnone4, cnone5⟩ := cells6 Knone_13.out
  have znone := Knone_13.out.lt
  go_wp2_with fail
  refine (fp_large_ge (-1) _ (HG.out.keep B13.out) (HU.out.keep B13.out) (by decide)).mono ?_
  rintro e w14 ⟨rfl, hb⟩
  clear ctwo0 ctwo1 ctwo2 ctwo3 ctwo4 ctwo5 ztwo cnone0 cnone1 cnone2 cnone3 cnone4 cnone5 znone
  have B14 := Lib.hid (B13.out.trans (hb.mono B13.out.size))
  have Ktwo_14 := Lib.hid (Ktwo_13.out.keep hb)
  have Knone_14 := Lib.hid (Knone_13.out.keep hb)
  clear hb B13 Ktwo_13 Knone_13
  obtain ⟨ctwo0, ctwo1, ctwo2, ctwo3, ctwo4, ctwo5⟩ := cells6 Ktwo_14.out
  have ztwo := Ktwo_14.out.lt
  obtain ⟨cnone0, cnone1, cnone2, cnone3, cnone4, cnone5⟩ := cells6 Knone_14.out
  have znone := Knone_14.out.lt
  go_wp2_with fail
  refine (fp_of 3 _ (HG.out.keep B14.out) (HS.out.keep B14.out) (by omega) (by simp [Wd])).mono ?_
  rintro e w15 ⟨rfl, hb⟩
  clear ctwo0 ctwo1 ctwo2 ctwo3 ctwo4 ctwo5 ztwo cnone0 cnone1 cnone2 cnone3 cnone4 cnone5 znone
  have B15 := Lib.hid (B14.out.trans (hb.mono B14.out.size))
  have Ktwo_15 := Lib.hid (Ktwo_14.out.keep hb)
  have Knone_15 := Lib.hid (Knone_14.out.keep hb)
  clear hb B14 Ktwo_14 Knone_14
  obtain ⟨ctwo0, ctwo1, ctwo2, ctwo3, ctwo4, ctwo5⟩ := cells6 Ktwo_15.out
  have ztwo := Ktwo_15.out.lt
  obtain ⟨cnone0, cnone1, cnone2, cnone3, cnone4, cnone5⟩ := cells6 Knone_15.out
  have znone := Knone_15.out.lt
  go_wp2_with fail
  refine (fp_odd 3 _ (HG.out.keep B15.out)).mono ?_
  rintro e w16 ⟨rfl, hb⟩
  clear ctwo0 ctwo1 ctwo2 ctwo3 ctwo4 ctwo5 ztwo cnone0 cnone1 cnone2 cnone3 cnone4 cnone5 znone
  have B16 := Lib.hid (B15.out.trans (hb.mono B15.out.size))
  have Ktwo_16 := Lib.hid (Ktwo_15.out.keep hb)
  have Knone_16 := Lib.hid (Knone_15.out.keep hb)
  clear hb B15 Ktwo_15 Knone_15
  obtain ⟨ctwo0, ctwo1, ctwo2, ctwo3, ctwo4, ctwo5⟩ := cells6 Ktwo_16.out
  have ztwo := Ktwo_16.out.lt
  obtain ⟨cnone0, cnone1, cnone2, cnone3, cnone4, cnone5⟩ := cells6 Knone_16.out
  have znone := Knone_16.out.lt
  rw [show decide ((3 : Int) % Mp % 2 = 1) = true by decide]
  go_wp2_with fail
  go_ret
  exact ⟨rfl, B16.out⟩
end Go.Proofs.YtclfmdaafpachaaDoor
