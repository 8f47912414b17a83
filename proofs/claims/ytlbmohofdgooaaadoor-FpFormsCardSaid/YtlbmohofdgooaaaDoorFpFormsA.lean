/-
  FpForms: the walk, of a number twice.
-/
import Derived.Test.YtlbmohofdgooaaaDoorA1b
import Derived.Deep.MidRow
namespace Go.Proofs.YtlbmohofdgooaaaDoor
open Go.RowKit
/-- The bytes of a number, as cells. -/
def octp (x : Int) : List Value := (lo (x % Mp) 48).map (Value.int .u8)
theorem octp_len (x : Int) : (octp x).length = 48 := by simp [octp, lo_len]
theorem octp_at (x : Int) (i : Nat) (hi : i < 48) : (octp x).toArray[i]? = some (Value.int .u8 (gt (lo (x % Mp) 48) i)) := ag8_at _ i (by rw [lo_len]; exact hi)
theorem und71 : Tryd.prog.underlying 56 = some (.array 48 5) := by kernel_rfl
theorem und5p : Tryd.prog.underlying 5 = some (.int .u8) := by kernel_rfl
theorem size5p (w : World) : (sizeOf 5).run Tryd.prog w = .ok 1 w := by kernel_rfl
theorem octp_same (x y : Int) (h : x % Mp = y % Mp) (w : World) : (Op.equalIn 10000 56 (.agg (octp x).toArray) (.agg (octp y).toArray)).run Tryd.prog w = .ok true w := by
  have e : octp x = octp y := by unfold octp; rw [h]
  rw [e]
  exact run_equalIn_arr 9998 w _ _ 48 .u8 _ _ und71 und5p size5p (fun i hi => ⟨_, _, octp_at y i hi, octp_at y i hi⟩) true (by simp)
theorem octp_unlike (x y : Int) (h : ¬ x % Mp = y % Mp) (w : World) : (Op.equalIn 10000 56 (.agg (octp x).toArray) (.agg (octp y).toArray)).run Tryd.prog w = .ok false w := by
  refine run_equalIn_arr 9998 w _ _ 48 .u8 _ _ und71 und5p size5p (fun i hi => ⟨_, _, octp_at x i hi, octp_at y i hi⟩) false ?_
  constructor
  · intro h0; cases h0
  · intro h0
    exfalso
    have e : lo (x % Mp) 48 = lo (y % Mp) 48 := by
      apply List.ext_getElem?
      intro i
      by_cases hi : i < 48
      · have := h0 i hi
        rw [octp_at x i hi, octp_at y i hi] at this
        have e2 : gt (lo (x % Mp) 48) i = gt (lo (y % Mp) 48) i := by simpa using this
        rw [gt_eq (by rw [lo_len]; exact hi), gt_eq (by rw [lo_len]; exact hi)] at e2
        rw [List.getElem?_eq_getElem (by rw [lo_len]; exact hi), List.getElem?_eq_getElem (by rw [lo_len]; exact hi), e2]
      · rw [List.getElem?_eq_none (by rw [lo_len]; omega), List.getElem?_eq_none (by rw [lo_len]; omega)]
    have e3 := congrArg num e
    rw [num_lo, num_lo] at e3
    have b1 : ∀ z : Int, z % Mp % 256 ^ 48 = z % Mp := fun z => Int.emod_eq_of_lt (Int.emod_nonneg _ (by simp [Mp])) (Int.lt_trans (Int.emod_lt_of_pos _ (by simp [Mp])) (by simp [Mp]))
    rw [b1, b1] at e3
    exact h e3
theorem read_octp (x : Int) (W : World) (g : Nat) (hG : GMp W) (hS : GSqp W) (hB : Blk W g 56 (octp x).toArray) :
    Calls Tryd.prog 16 #[.slice (some ⟨g, 0, none⟩) 48 48] W fun e w' => e = .returned (.tuple #[pv x, .int .i64 0]) ∧ Below W.heap.size W w' := by
  have hr : Reads W W.heap.size (some ⟨g, 0, none⟩) 48 ((lo (x % Mp) 48).map (Value.int .u8)) := copy_reads (bs := lo (x % Mp) 48) hB (lo_len _ _)
  have hn : num (lo (x % Mp) 48) = x % Mp := by
    rw [num_lo]
    exact Int.emod_eq_of_lt (Int.emod_nonneg _ (by simp [Mp])) (Int.lt_trans (Int.emod_lt_of_pos _ (by simp [Mp])) (by simp [Mp]))
  have h := fp_read_ok W hG hS _ 48 _ hr (lo_oct _ _) (Nat.le_refl _) (by rw [hn]; exact Int.emod_lt_of_pos _ (by simp [Mp]))
  rw [hn, pv_cast (Int.emod_emod x Mp)] at h
  exact h
theorem arr71 : Tryd.prog.arrayLen 56 = 48 := by kernel_rfl
theorem und71' : Tryd.prog.underlying 56 = some (.array (Tryd.prog.arrayLen 56) (Tryd.prog.elem 56)) := by kernel_rfl
theorem el71 : Tryd.prog.elem 56 = 5 := by kernel_rfl
theorem slice71_all (g o : Nat) (w : World) : (Instr.sliceAt 56 (.pointer (some ⟨g, o, none⟩)) none none none).run Tryd.prog w = .ok (.slice (some ⟨g, o, none⟩) 48 48) w := by
  have h := run_sliceAt_array_all (P := Tryd.prog) w 56 ⟨g, o, none⟩ und71'
  rw [h, el71, size5p, arr71]
  simp [slicedAt, Result.andThen, add_plain]
set_option maxRecDepth 100000 in
set_option maxHeartbeats 8000000 in
theorem formsp_eq (w : World) (hG : GMp w) (hS : GSqp w) (hH : GShp w) (hQ : GQp w) (hU : GUp w) (A0 : Option Addr) (L0 c0 : Nat) (bs0 : List Int) (A1 : Option Addr) (L1 c1 : Nat) (bs1 : List Int) (hr0 : Reads w w.heap.size A0 L0 (bs0.map (Value.int .u8))) (ho0 : Oct bs0) (hr1 : Reads w w.heap.size A1 L1 (bs1.map (Value.int .u8))) (ho1 : Oct bs1) (h0 : L0 ≤ 400) (h1 : L1 ≤ 400) (hq : num bs0 % Mp = num bs1 % Mp) :
    Calls Tryd.prog 10 #[.slice A0 L0 c0, .slice A1 L1 c1] w fun e w' => e = .returned (.bool true) ∧ Below w.heap.size w w' := by
  have HG := Lib.hid hG
  have HS := Lib.hid hS
  have HH := Lib.hid hH
  have HQ := Lib.hid hQ
  have HU := Lib.hid hU
  have HR0 := Lib.hid hr0
  have HO0 := Lib.hid ho0
  have HL0 := Lib.hid (show bs0.length = L0 by simpa using hr0.1)
  obtain ⟨X0, hX0⟩ : ∃ X, X = num bs0 := ⟨_, rfl⟩
  have HR1 := Lib.hid hr1
  have HO1 := Lib.hid ho1
  have HL1 := Lib.hid (show bs1.length = L1 by simpa using hr1.1)
  obtain ⟨X1, hX1⟩ : ∃ X, X = num bs1 := ⟨_, rfl⟩
  rw [← hX0, ← hX1] at hq
  have q1 := pv_same X0 X0 rfl
  have q2 := pv_same X0 X1 hq
  have q3 := octp_same X0 X1 hq
  have hby0 := fp_bytes X0
  have hby1 := fp_bytes X1
  have hrd := read_octp X0
  rw [show ag8 (lo (X0 % Mp) 48) = (octp X0).toArray from rfl] at hby0
  rw [show ag8 (lo (X1 % Mp) 48) = (octp X1).toArray from rfl] at hby1
  have hl0 := octp_len X0
  have hl1 := octp_len X1
  have ho0' : (octp X0).toArray.all (·.oneCell') = true := ag8_one _
  have ho1' : (octp X1).toArray.all (·.oneCell') = true := ag8_one _
  obtain ⟨D0, hD0⟩ : ∃ D, D = octp X0 := ⟨_, rfl⟩
  obtain ⟨D1, hD1⟩ : ∃ D, D = octp X1 := ⟨_, rfl⟩
  rw [← hD0] at hby0 hrd hl0 ho0' q3
  rw [← hD1] at hby1 hl1 ho1' q3
  have hi0 : (Tryd.prog.info? 56).map (·.size) = some D0.toArray.size := by rw [List.size_toArray, hl0]; kernel_rfl
  have hi1 : (Tryd.prog.info? 56).map (·.size) = some D1.toArray.size := by rw [List.size_toArray, hl1]; kernel_rfl
  have DZ0 : Hid (D0.toArray.size = 48) := Lib.hid (by rw [List.size_toArray, hl0])
  have DZ1 : Hid (D1.toArray.size = 48) := Lib.hid (by rw [List.size_toArray, hl1])
  have DI0 := Lib.hid hi0
  have DI1 := Lib.hid hi1
  have DO0 := Lib.hid ho0'
  have DO1 := Lib.hid ho1'
  have BY0 := Lib.hid hby0
  have BY1 := Lib.hid hby1
  have RD := Lib.hid hrd
  have Q3 := Lib.hid q3
  clear hby0 hby1 hrd hl0 hl1 ho0' ho1' hi0 hi1 hD0 hD1 hq q3
  obtain ⟨Z, hZ⟩ : ∃ Z, Z = ag8 (List.replicate 48 0) := ⟨_, rfl⟩
  have hz71 : ∀ W : World, (zeroValue 56).run Tryd.prog W = .ok (.agg Z) W := fun W => by rw [hZ]; exact zero71 W
  have hZz : Z.size = 48 := by rw [hZ, ag8_size]; simp
  have ZZ := Lib.hid hZz
  clear hZ hZz
  have HX0 := Lib.hid hX0
  clear hX0 hr0 ho0
  have HX1 := Lib.hid hX1
  clear hX1 hr1 ho1
  clear hG hS hH hQ hU
  have B0 : Hid (Below w.heap.size w w) := Lib.hid (Below.refl _ _)
  go_enter Tryd.func10, Tryd.ntmps10
  go_wp2_with fail
  refine (fp_head _ (HG.out.keep B0.out) (HS.out.keep B0.out) (HQ.out.keep B0.out) (HU.out.keep B0.out)).mono ?_
  rintro e w1 ⟨rfl, hb⟩
  have B1 := Lib.hid (B0.out.trans (hb.mono B0.out.size))
  clear hb B0 
  go_wp2_with fail
  refine (copy_any w1 A0 L0 c0 bs0 ((HR0.out.below B1.out).more B1.out.size) (by omega)).mono ?_
  rintro e w2 ⟨gc0, rfl, -, hBc, hb⟩
  have RC0 := Lib.hid (copy_reads hBc HL0.out)
  have B2 := Lib.hid (B1.out.trans (hb.mono B1.out.size))
  clear hb hBc B1 
  go_wp2_with fail
  refine (fp_wide _ (HG.out.keep B2.out) (HS.out.keep B2.out) (HH.out.keep B2.out) (some ⟨gc0, 0, none⟩) L0 L0 bs0 RC0.out HO0.out (Nat.le_refl _) (by omega)).mono ?_
  rintro e w3 ⟨rfl, hb⟩
  have B3 := Lib.hid (B2.out.trans (hb.mono B2.out.size))
  clear hb B2 
  rw [← HX0.out]
  unfold pv arr6
  go_wp2_with fail
  have B4 := Lib.hid (B3.out.alloc B3.out.size (Obj.cells #[.int .u64 (wd (fe Mp (Wd ^ 6) X0) 0), .int .u64 (wd (fe Mp (Wd ^ 6) X0) 1), .int .u64 (wd (fe Mp (Wd ^ 6) X0) 2), .int .u64 (wd (fe Mp (Wd ^ 6) X0) 3), .int .u64 (wd (fe Mp (Wd ^ 6) X0) 4), .int .u64 (wd (fe Mp (Wd ^ 6) X0) 5)] 28))
  have Kx_4 := Lib.hid (Blk.new w3 28 #[.int .u64 (wd (fe Mp (Wd ^ 6) X0) 0), .int .u64 (wd (fe Mp (Wd ^ 6) X0) 1), .int .u64 (wd (fe Mp (Wd ^ 6) X0) 2), .int .u64 (wd (fe Mp (Wd ^ 6) X0) 3), .int .u64 (wd (fe Mp (Wd ^ 6) X0) 4), .int .u64 (wd (fe Mp (Wd ^ 6) X0) 5)])
  obtain ⟨gx, hgx⟩ : ∃ g, g = w3.heap.size := ⟨_, rfl⟩
  obtain ⟨w4, hw4⟩ : ∃ W, W = w3.alloc (Obj.cells #[.int .u64 (wd (fe Mp (Wd ^ 6) X0) 0), .int .u64 (wd (fe Mp (Wd ^ 6) X0) 1), .int .u64 (wd (fe Mp (Wd ^ 6) X0) 2), .int .u64 (wd (fe Mp (Wd ^ 6) X0) 3), .int .u64 (wd (fe Mp (Wd ^ 6) X0) 4), .int .u64 (wd (fe Mp (Wd ^ 6) X0) 5)] 28) := ⟨_, rfl⟩
  rw [← hgx] at Kx_4
  simp only [← hw4] at B4 Kx_4
  rw [← hw4, ← hgx]
  clear hw4 hgx B3 
  obtain ⟨cx0, cx1, cx2, cx3, cx4, cx5⟩ := cells6 Kx_4.out
  have zx := Kx_4.out.lt
  refine (copy_any w4 A1 L1 c1 bs1 ((HR1.out.below B4.out).more B4.out.size) (by omega)).mono ?_
  rintro e w5 ⟨gc1, rfl, -, hBc, hb⟩
  clear cx0 cx1 cx2 cx3 cx4 cx5 zx
  have RC1 := Lib.hid (copy_reads hBc HL1.out)
  have B5 := Lib.hid (B4.out.trans (hb.mono B4.out.size))
  have Kx_5 := Lib.hid (Kx_4.out.keep hb)
  clear hb hBc B4 Kx_4
  go_wp2_with fail
  refine (fp_wide _ (HG.out.keep B5.out) (HS.out.keep B5.out) (HH.out.keep B5.out) (some ⟨gc1, 0, none⟩) L1 L1 bs1 RC1.out HO1.out (Nat.le_refl _) (by omega)).mono ?_
  rintro e w6 ⟨rfl, hb⟩
  have B6 := Lib.hid (B5.out.trans (hb.mono B5.out.size))
  have Kx_6 := Lib.hid (Kx_5.out.keep hb)
  clear hb B5 Kx_5
  obtain ⟨cx0, cx1, cx2, cx3, cx4, cx5⟩ := cells6 Kx_6.out
  have zx := Kx_6.out.lt
  rw [← HX1.out]
  unfold pv arr6
  go_wp2_with fail
  clear cx0 cx1 cx2 cx3 cx4 cx5 zx
  have B7 := Lib.hid (B6.out.alloc B6.out.size (Obj.cells #[.int .u64 (wd (fe Mp (Wd ^ 6) X1) 0), .int .u64 (wd (fe Mp (Wd ^ 6) X1) 1), .int .u64 (wd (fe Mp (Wd ^ 6) X1) 2), .int .u64 (wd (fe Mp (Wd ^ 6) X1) 3), .int .u64 (wd (fe Mp (Wd ^ 6) X1) 4), .int .u64 (wd (fe Mp (Wd ^ 6) X1) 5)] 28))
  have Kx_7 := Lib.hid (Kx_6.out.alloc (Obj.cells #[.int .u64 (wd (fe Mp (Wd ^ 6) X1) 0), .int .u64 (wd (fe Mp (Wd ^ 6) X1) 1), .int .u64 (wd (fe Mp (Wd ^ 6) X1) 2), .int .u64 (wd (fe Mp (Wd ^ 6) X1) 3), .int .u64 (wd (fe Mp (Wd ^ 6) X1) 4), .int .u64 (wd (fe Mp (Wd ^ 6) X1) 5)] 28))
  have Ky_7 := Lib.hid (Blk.new w6 28 #[.int .u64 (wd (fe Mp (Wd ^ 6) X1) 0), .int .u64 (wd (fe Mp (Wd ^ 6) X1) 1), .int .u64 (wd (fe Mp (Wd ^ 6) X1) 2), .int .u64 (wd (fe Mp (Wd ^ 6) X1) 3), .int .u64 (wd (fe Mp (Wd ^ 6) X1) 4), .int .u64 (wd (fe Mp (Wd ^ 6) X1) 5)])
  obtain ⟨gy, hgy⟩ : ∃ g, g = w6.heap.size := ⟨_, rfl⟩
  obtain ⟨w7, hw7⟩ : ∃ W, W = w6.alloc (Obj.cells #[.int .u64 (wd (fe Mp (Wd ^ 6) X1) 0), .int .u64 (wd (fe Mp (Wd ^ 6) X1) 1), .int .u64 (wd (fe Mp (Wd ^ 6) X1) 2), .int .u64 (wd (fe Mp (Wd ^ 6) X1) 3), .int .u64 (wd (fe Mp (Wd ^ 6) X1) 4), .int .u64 (wd (fe Mp (Wd ^ 6) X1) 5)] 28) := ⟨_, rfl⟩
  rw [← hgy] at Ky_7
  simp only [← hw7] at B7 Kx_7 Ky_7
  rw [← hw7, ← hgy]
  clear hw7 hgy B6 Kx_6
  obtain ⟨cx0, cx1, cx2, cx3, cx4, cx5⟩ := cells6 Kx_7.out
  have zx := Kx_7.out.lt
  obtain ⟨cy0, cy1, cy2, cy3, cy4, cy5⟩ := cells6 Ky_7.out
  have zy := Ky_7.out.lt
  refine (BY0.out _ (HG.out.keep B7.out)).mono ?_
  rintro e w8 ⟨rfl, hb⟩
  clear cx0 cx1 cx2 cx3 cx4 cx5 zx cy0 cy1 cy2 cy3 cy4 cy5 zy
  have B8 := Lib.hid (B7.out.trans (hb.mono B7.out.size))
  have Kx_8 := Lib.hid (Kx_7.out.keep hb)
  have Ky_8 := Lib.hid (Ky_7.out.keep hb)
  clear hb B7 Kx_7 Ky_7
  obtain ⟨cx0, cx1, cx2, cx3, cx4, cx5⟩ := cells6 Kx_8.out
  have zx := Kx_8.out.lt
  obtain ⟨cy0, cy1, cy2, cy3, cy4, cy5⟩ := cells6 Ky_8.out
  have zy := Ky_8.out.lt
  go_wp2_with (((with_reducible refine wpList_store_at (ty := 56) (x := .tmp 7) (y := .tmp 34) w8.heap.size 0 56 Z D0.toArray ?_ ?_ ?_ DI0.out ?_ DO0.out ?_); exact rfl; exact rfl; exact Blk.new w8 _ _; exact (by rw [DZ0.out, ZZ.out]; omega); intro w9 HB9 HG9; clear cx0 cx1 cx2 cx3 cx4 cx5 zx cy0 cy1 cy2 cy3 cy4 cy5 zy; have Js_9 : Hid (Blk w9 w8.heap.size 56 D0.toArray) := Lib.hid (HB9.out.cast (by rw [splice_all _ _ (by rw [Array.length_toList, Array.length_toList, DZ0.out, ZZ.out]), Array.toArray_toList])); have B9 := Lib.hid ((B8.out.alloc B8.out.size (Obj.cells Z 56)).grown HG9.out (by have := B8.out.size; simp; omega) (fun i hi => by cases hi; exact B8.out.size)); have Kx_9 := Lib.hid ((Kx_8.out.alloc (Obj.cells Z 56)).grown HG9.out (by intro e; cases e; exact absurd Kx_8.out.lt (Nat.lt_irrefl _))); have Ky_9 := Lib.hid ((Ky_8.out.alloc (Obj.cells Z 56)).grown HG9.out (by intro e; cases e; exact absurd Ky_8.out.lt (Nat.lt_irrefl _))); obtain ⟨gs, hgs⟩ : ∃ g, g = w8.heap.size := ⟨_, rfl⟩; rw [← hgs] at Js_9 ⊢; clear hgs HB9 HG9 B8 Kx_8 Ky_8; obtain ⟨cx0, cx1, cx2, cx3, cx4, cx5⟩ := cells6 Kx_9.out; have zx := Kx_9.out.lt; obtain ⟨cy0, cy1, cy2, cy3, cy4, cy5⟩ := cells6 Ky_9.out; have zy := Ky_9.out.lt))
  refine (BY1.out _ (HG.out.keep B9.out)).mono ?_
  rintro e w10 ⟨rfl, hb⟩
  clear cx0 cx1 cx2 cx3 cx4 cx5 zx cy0 cy1 cy2 cy3 cy4 cy5 zy
  have B10 := Lib.hid (B9.out.trans (hb.mono B9.out.size))
  have Kx_10 := Lib.hid (Kx_9.out.keep hb)
  have Ky_10 := Lib.hid (Ky_9.out.keep hb)
  have Js_10 := Lib.hid (Js_9.out.keep hb)
  clear hb B9 Kx_9 Ky_9 Js_9
  obtain ⟨cx0, cx1, cx2, cx3, cx4, cx5⟩ := cells6 Kx_10.out
  have zx := Kx_10.out.lt
  obtain ⟨cy0, cy1, cy2, cy3, cy4, cy5⟩ := cells6 Ky_10.out
  have zy := Ky_10.out.lt
  have hsl := slice71_all gs 0
  go_wp2_with (((with_reducible refine wpList_store_at (ty := 56) (x := .tmp 8) (y := .tmp 36) w10.heap.size 0 56 Z D1.toArray ?_ ?_ ?_ DI1.out ?_ DO1.out ?_); exact rfl; exact rfl; exact Blk.new w10 _ _; exact (by rw [DZ1.out, ZZ.out]; omega); intro w11 HB11 HG11; clear cx0 cx1 cx2 cx3 cx4 cx5 zx cy0 cy1 cy2 cy3 cy4 cy5 zy; have Jt_11 : Hid (Blk w11 w10.heap.size 56 D1.toArray) := Lib.hid (HB11.out.cast (by rw [splice_all _ _ (by rw [Array.length_toList, Array.length_toList, DZ1.out, ZZ.out]), Array.toArray_toList])); have B11 := Lib.hid ((B10.out.alloc B10.out.size (Obj.cells Z 56)).grown HG11.out (by have := B10.out.size; simp; omega) (fun i hi => by cases hi; exact B10.out.size)); have Kx_11 := Lib.hid ((Kx_10.out.alloc (Obj.cells Z 56)).grown HG11.out (by intro e; cases e; exact absurd Kx_10.out.lt (Nat.lt_irrefl _))); have Ky_11 := Lib.hid ((Ky_10.out.alloc (Obj.cells Z 56)).grown HG11.out (by intro e; cases e; exact absurd Ky_10.out.lt (Nat.lt_irrefl _))); have Js_11 := Lib.hid ((Js_10.out.alloc (Obj.cells Z 56)).grown HG11.out (by intro e; cases e; exact absurd Js_10.out.lt (Nat.lt_irrefl _))); obtain ⟨gt, hgt⟩ : ∃ g, g = w10.heap.size := ⟨_, rfl⟩; rw [← hgt] at Jt_11 ⊢; clear hgt HB11 HG11 B10 Kx_10 Ky_10 Js_10; obtain ⟨cx0, cx1, cx2, cx3, cx4, cx5⟩ := cells6 Kx_11.out; have zx := Kx_11.out.lt; obtain ⟨cy0, cy1, cy2, cy3, cy4, cy5⟩ := cells6 Ky_11.out; have zy := Ky_11.out.lt))
  refine (RD.out _ gs (HG.out.keep B11.out) (HS.out.keep B11.out) Js_11.out).mono ?_
  rintro e w12 ⟨rfl, hb⟩
  clear cx0 cx1 cx2 cx3 cx4 cx5 zx cy0 cy1 cy2 cy3 cy4 cy5 zy
  have B12 := Lib.hid (B11.out.trans (hb.mono B11.out.size))
  have Kx_12 := Lib.hid (Kx_11.out.keep hb)
  have Ky_12 := Lib.hid (Ky_11.out.keep hb)
  have Js_12 := Lib.hid (Js_11.out.keep hb)
  have Jt_12 := Lib.hid (Jt_11.out.keep hb)
  clear hb B11 Kx_11 Ky_11 Js_11 Jt_11
  obtain ⟨cx0, cx1, cx2, cx3, cx4, cx5⟩ := cells6 Kx_12.out
  have zx := Kx_12.out.lt
  obtain ⟨cy0, cy1, cy2, cy3, cy4, cy5⟩ := cells6 Ky_12.out
  have zy := Ky_12.out.lt
  unfold pv arr6
  go_wp2_with fail
  clear cx0 cx1 cx2 cx3 cx4 cx5 zx cy0 cy1 cy2 cy3 cy4 cy5 zy
  have B13 := Lib.hid (B12.out.alloc B12.out.size (Obj.cells #[.int .u64 (wd (fe Mp (Wd ^ 6) X0) 0), .int .u64 (wd (fe Mp (Wd ^ 6) X0) 1), .int .u64 (wd (fe Mp (Wd ^ 6) X0) 2), .int .u64 (wd (fe Mp (Wd ^ 6) X0) 3), .int .u64 (wd (fe Mp (Wd ^ 6) X0) 4), .int .u64 (wd (fe Mp (Wd ^ 6) X0) 5)] 28))
  have Kx_13 := Lib.hid (Kx_12.out.alloc (Obj.cells #[.int .u64 (wd (fe Mp (Wd ^ 6) X0) 0), .int .u64 (wd (fe Mp (Wd ^ 6) X0) 1), .int .u64 (wd (fe Mp (Wd ^ 6) X0) 2), .int .u64 (wd (fe Mp (Wd ^ 6) X0) 3), .int .u64 (wd (fe Mp (Wd ^ 6) X0) 4), .int .u64 (wd (fe Mp (Wd ^ 6) X0) 5)] 28))
  have Ky_13 := Lib.hid (Ky_12.out.alloc (Obj.cells #[.int .u64 (wd (fe Mp (Wd ^ 6) X0) 0), .int .u64 (wd (fe Mp (Wd ^ 6) X0) 1), .int .u64 (wd (fe Mp (Wd ^ 6) X0) 2), .int .u64 (wd (fe Mp (Wd ^ 6) X0) 3), .int .u64 (wd (fe Mp (Wd ^ 6) X0) 4), .int .u64 (wd (fe Mp (Wd ^ 6) X0) 5)] 28))
  have Kz_13 := Lib.hid (Blk.new w12 28 #[.int .u64 (wd (fe Mp (Wd ^ 6) X0) 0), .int .u64 (wd (fe Mp (Wd ^ 6) X0) 1), .int .u64 (wd (fe Mp (Wd ^ 6) X0) 2), .int .u64 (wd (fe Mp (Wd ^ 6) X0) 3), .int .u64 (wd (fe Mp (Wd ^ 6) X0) 4), .int .u64 (wd (fe Mp (Wd ^ 6) X0) 5)])
  obtain ⟨gz, hgz⟩ : ∃ g, g = w12.heap.size := ⟨_, rfl⟩
  have Js_13 := Lib.hid (Js_12.out.alloc (Obj.cells #[.int .u64 (wd (fe Mp (Wd ^ 6) X0) 0), .int .u64 (wd (fe Mp (Wd ^ 6) X0) 1), .int .u64 (wd (fe Mp (Wd ^ 6) X0) 2), .int .u64 (wd (fe Mp (Wd ^ 6) X0) 3), .int .u64 (wd (fe Mp (Wd ^ 6) X0) 4), .int .u64 (wd (fe Mp (Wd ^ 6) X0) 5)] 28))
  have Jt_13 := Lib.hid (Jt_12.out.alloc (Obj.cells #[.int .u64 (wd (fe Mp (Wd ^ 6) X0) 0), .int .u64 (wd (fe Mp (Wd ^ 6) X0) 1), .int .u64 (wd (fe Mp (Wd ^ 6) X0) 2), .int .u64 (wd (fe Mp (Wd ^ 6) X0) 3), .int .u64 (wd (fe Mp (Wd ^ 6) X0) 4), .int .u64 (wd (fe Mp (Wd ^ 6) X0) 5)] 28))
  obtain ⟨w13, hw13⟩ : ∃ W, W = w12.alloc (Obj.cells #[.int .u64 (wd (fe Mp (Wd ^ 6) X0) 0), .int .u64 (wd (fe Mp (Wd ^ 6) X0) 1), .int .u64 (wd (fe Mp (Wd ^ 6) X0) 2), .int .u64 (wd (fe Mp (Wd ^ 6) X0) 3), .int .u64 (wd (fe Mp (Wd ^ 6) X0) 4), .int .u64 (wd (fe Mp (Wd ^ 6) X0) 5)] 28) := ⟨_, rfl⟩
  rw [← hgz] at Kz_13
  simp only [← hw13] at B13 Kx_13 Ky_13 Kz_13 Js_13 Jt_13
  rw [← hw13, ← hgz]
  clear hw13 hgz B12 Kx_12 Ky_12 Js_12 Jt_12
  obtain ⟨cx0, cx1, cx2, cx3, cx4, cx5⟩ := cells6 Kx_13.out
  have zx := Kx_13.out.lt
  obtain ⟨cy0, cy1, cy2, cy3, cy4, cy5⟩ := cells6 Ky_13.out
  have zy := Ky_13.out.lt
  obtain ⟨cz0, cz1, cz2, cz3, cz4, cz5⟩ := cells6 Kz_13.out
  have zz := Kz_13.out.lt
  clear hsl hz71
  have q3 := Q3.out
  have hu52 := und71
  have hjs : (Tryd.prog.info? 56).map (·.size) = some D0.length := by have := DI0.out; rwa [List.size_toArray] at this
  have hjt : (Tryd.prog.info? 56).map (·.size) = some D1.length := by have := DI1.out; rwa [List.size_toArray] at this
  clear cx0 cx1 cx2 cx3 cx4 cx5 zx cy0 cy1 cy2 cy3 cy4 cy5 zy cz0 cz1 cz2 cz3 cz4 cz5 zz
  have D13 := hid_drew w13
  have SS13 : Hid (∀ W, Hid (Below w13.heap.size w13 W) → W.cell? ⟨gx, 0, none⟩ = some (.int .u64 (wd (fe Mp (Wd ^ 6) X0) 0)) ∧ W.cell? ⟨gx, 1, none⟩ = some (.int .u64 (wd (fe Mp (Wd ^ 6) X0) 1)) ∧ W.cell? ⟨gx, 2, none⟩ = some (.int .u64 (wd (fe Mp (Wd ^ 6) X0) 2)) ∧ W.cell? ⟨gx, 3, none⟩ = some (.int .u64 (wd (fe Mp (Wd ^ 6) X0) 3)) ∧ W.cell? ⟨gx, 4, none⟩ = some (.int .u64 (wd (fe Mp (Wd ^ 6) X0) 4)) ∧ W.cell? ⟨gx, 5, none⟩ = some (.int .u64 (wd (fe Mp (Wd ^ 6) X0) 5)) ∧ W.cell? ⟨gy, 0, none⟩ = some (.int .u64 (wd (fe Mp (Wd ^ 6) X1) 0)) ∧ W.cell? ⟨gy, 1, none⟩ = some (.int .u64 (wd (fe Mp (Wd ^ 6) X1) 1)) ∧ W.cell? ⟨gy, 2, none⟩ = some (.int .u64 (wd (fe Mp (Wd ^ 6) X1) 2)) ∧ W.cell? ⟨gy, 3, none⟩ = some (.int .u64 (wd (fe Mp (Wd ^ 6) X1) 3)) ∧ W.cell? ⟨gy, 4, none⟩ = some (.int .u64 (wd (fe Mp (Wd ^ 6) X1) 4)) ∧ W.cell? ⟨gy, 5, none⟩ = some (.int .u64 (wd (fe Mp (Wd ^ 6) X1) 5)) ∧ W.cell? ⟨gz, 0, none⟩ = some (.int .u64 (wd (fe Mp (Wd ^ 6) X0) 0)) ∧ W.cell? ⟨gz, 1, none⟩ = some (.int .u64 (wd (fe Mp (Wd ^ 6) X0) 1)) ∧ W.cell? ⟨gz, 2, none⟩ = some (.int .u64 (wd (fe Mp (Wd ^ 6) X0) 2)) ∧ W.cell? ⟨gz, 3, none⟩ = some (.int .u64 (wd (fe Mp (Wd ^ 6) X0) 3)) ∧ W.cell? ⟨gz, 4, none⟩ = some (.int .u64 (wd (fe Mp (Wd ^ 6) X0) 4)) ∧ W.cell? ⟨gz, 5, none⟩ = some (.int .u64 (wd (fe Mp (Wd ^ 6) X0) 5)) ∧ W.rangeAt gs 0 D0 ∧ W.rangeAt gt 0 D1 ∧ Hid (Below w13.heap.size w13 W)) := Lib.hid (fun W hW => by
    obtain ⟨qx0, qx1, qx2, qx3, qx4, qx5⟩ := cells6 (Kx_13.out.keep hW.out)
    obtain ⟨qy0, qy1, qy2, qy3, qy4, qy5⟩ := cells6 (Ky_13.out.keep hW.out)
    obtain ⟨qz0, qz1, qz2, qz3, qz4, qz5⟩ := cells6 (Kz_13.out.keep hW.out)
    have rs : W.rangeAt gs 0 D0 := fun j v hv => (Js_13.out.keep hW.out).range j v (by simpa using hv)
    have rt : W.rangeAt gt 0 D1 := fun j v hv => (Jt_13.out.keep hW.out).range j v (by simpa using hv)
    exact ⟨qx0, qx1, qx2, qx3, qx4, qx5, qy0, qy1, qy2, qy3, qy4, qy5, qz0, qz1, qz2, qz3, qz4, qz5, rs, rt, hW⟩)
  refine wp_region_held_drew (S := fun W => W.cell? ⟨gx, 0, none⟩ = some (.int .u64 (wd (fe Mp (Wd ^ 6) X0) 0)) ∧ W.cell? ⟨gx, 1, none⟩ = some (.int .u64 (wd (fe Mp (Wd ^ 6) X0) 1)) ∧ W.cell? ⟨gx, 2, none⟩ = some (.int .u64 (wd (fe Mp (Wd ^ 6) X0) 2)) ∧ W.cell? ⟨gx, 3, none⟩ = some (.int .u64 (wd (fe Mp (Wd ^ 6) X0) 3)) ∧ W.cell? ⟨gx, 4, none⟩ = some (.int .u64 (wd (fe Mp (Wd ^ 6) X0) 4)) ∧ W.cell? ⟨gx, 5, none⟩ = some (.int .u64 (wd (fe Mp (Wd ^ 6) X0) 5)) ∧ W.cell? ⟨gy, 0, none⟩ = some (.int .u64 (wd (fe Mp (Wd ^ 6) X1) 0)) ∧ W.cell? ⟨gy, 1, none⟩ = some (.int .u64 (wd (fe Mp (Wd ^ 6) X1) 1)) ∧ W.cell? ⟨gy, 2, none⟩ = some (.int .u64 (wd (fe Mp (Wd ^ 6) X1) 2)) ∧ W.cell? ⟨gy, 3, none⟩ = some (.int .u64 (wd (fe Mp (Wd ^ 6) X1) 3)) ∧ W.cell? ⟨gy, 4, none⟩ = some (.int .u64 (wd (fe Mp (Wd ^ 6) X1) 4)) ∧ W.cell? ⟨gy, 5, none⟩ = some (.int .u64 (wd (fe Mp (Wd ^ 6) X1) 5)) ∧ W.cell? ⟨gz, 0, none⟩ = some (.int .u64 (wd (fe Mp (Wd ^ 6) X0) 0)) ∧ W.cell? ⟨gz, 1, none⟩ = some (.int .u64 (wd (fe Mp (Wd ^ 6) X0) 1)) ∧ W.cell? ⟨gz, 2, none⟩ = some (.int .u64 (wd (fe Mp (Wd ^ 6) X0) 2)) ∧ W.cell? ⟨gz, 3, none⟩ = some (.int .u64 (wd (fe Mp (Wd ^ 6) X0) 3)) ∧ W.cell? ⟨gz, 4, none⟩ = some (.int .u64 (wd (fe Mp (Wd ^ 6) X0) 4)) ∧ W.cell? ⟨gz, 5, none⟩ = some (.int .u64 (wd (fe Mp (Wd ^ 6) X0) 5)) ∧ W.rangeAt gs 0 D0 ∧ W.rangeAt gt 0 D1 ∧ Hid (Below w13.heap.size w13 W)) (by kernel_rfl) (SS13.out _ D13) (fun hHeld => ?_)
  refine wpAnyH_put (i := 0) 42 (.int .i64 0) rfl (by kernel_rfl) (by kernel_rfl) (by kernel_rfl) (fun _ _ _ h => h) rfl (Or.inl ⟨by rfl, fun w hSw => ?_⟩) hHeld ?_
  · (try dsimp only at hSw); go_simp
  try go_frame
  refine wpAnyH_put (i := 1) 43 (.bool false) rfl (by kernel_rfl) (by kernel_rfl) (by kernel_rfl) (fun _ _ _ h => h) rfl (Or.inl ⟨by rfl, fun w hSw => ?_⟩) hHeld ?_
  · (try dsimp only at hSw); go_simp
  try go_frame
  refine wpAnyH_put (i := 2) 44 (.bool false) rfl (by kernel_rfl) (by kernel_rfl) (by kernel_rfl) (fun _ _ _ h => h) rfl (Or.inl ⟨by rfl, fun w hSw => ?_⟩) hHeld ?_
  · (try dsimp only at hSw); go_simp
  try go_frame
  refine wpAnyH_put (i := 3) 45 (.agg #[.int .u64 (wd (fe Mp (Wd ^ 6) X0) 0), .int .u64 (wd (fe Mp (Wd ^ 6) X0) 1), .int .u64 (wd (fe Mp (Wd ^ 6) X0) 2), .int .u64 (wd (fe Mp (Wd ^ 6) X0) 3), .int .u64 (wd (fe Mp (Wd ^ 6) X0) 4), .int .u64 (wd (fe Mp (Wd ^ 6) X0) 5)]) rfl (by kernel_rfl) (by kernel_rfl) (by kernel_rfl) (fun _ _ _ h => h) rfl (Or.inl ⟨by rfl, fun w hSw => ?_⟩) hHeld ?_
  · (try dsimp only at hSw); go_simp
  try go_frame
  refine wpAnyH_put (i := 4) 46 (.agg #[.int .u64 (wd (fe Mp (Wd ^ 6) X0) 0), .int .u64 (wd (fe Mp (Wd ^ 6) X0) 1), .int .u64 (wd (fe Mp (Wd ^ 6) X0) 2), .int .u64 (wd (fe Mp (Wd ^ 6) X0) 3), .int .u64 (wd (fe Mp (Wd ^ 6) X0) 4), .int .u64 (wd (fe Mp (Wd ^ 6) X0) 5)]) rfl (by kernel_rfl) (by kernel_rfl) (by kernel_rfl) (fun _ _ _ h => h) rfl (Or.inl ⟨by rfl, fun w hSw => ?_⟩) hHeld ?_
  · (try dsimp only at hSw); go_simp
  try go_frame
  refine wpAnyH_put (i := 5) 47 (.bool false) rfl (by kernel_rfl) (by kernel_rfl) (by kernel_rfl) (fun _ _ _ h => h) rfl (Or.inl ⟨by rfl, fun w hSw => ?_⟩) hHeld ?_
  · (try dsimp only at hSw); go_simp
  try go_frame
  refine wpAnyH_put (i := 6) 48 (.bool false) rfl (by kernel_rfl) (by kernel_rfl) (by kernel_rfl) (fun _ _ _ h => h) rfl (Or.inl ⟨by rfl, fun w hSw => ?_⟩) hHeld ?_
  · (try dsimp only at hSw); go_simp
  try go_frame
  refine wpAnyH_put (i := 7) 49 (.bool false) rfl (by kernel_rfl) (by kernel_rfl) (by kernel_rfl) (fun _ _ _ h => h) rfl (Or.inl ⟨by rfl, fun w hSw => ?_⟩) hHeld ?_
  · (try dsimp only at hSw); go_simp
  try go_frame
  refine wpAnyH_put (i := 8) 50 (.agg D0.toArray) rfl (by kernel_rfl) (by kernel_rfl) (by kernel_rfl) (fun _ _ _ h => h) rfl (yieldsIf_load_mid (by rfl) _ _ rfl gs 0 rfl D0 _ (fun w hSw => by (try dsimp only at hSw); go_split_ands; assumption) hu52 rfl hjs) hHeld ?_
  try go_frame
  refine wpAnyH_put (i := 9) 51 (.agg D1.toArray) rfl (by kernel_rfl) (by kernel_rfl) (by kernel_rfl) (fun _ _ _ h => h) rfl (yieldsIf_load_mid (by rfl) _ _ rfl gt 0 rfl D1 _ (fun w hSw => by (try dsimp only at hSw); go_split_ands; assumption) hu52 rfl hjt) hHeld ?_
  try go_frame
  refine wpAnyH_put (i := 10) 52 (.bool true) rfl (by kernel_rfl) (by kernel_rfl) (by kernel_rfl) (fun _ _ _ h => h) rfl (Or.inl ⟨by rfl, fun w hSw => ?_⟩) hHeld ?_
  · (try dsimp only at hSw); go_simp
  try go_frame
  refine wpAnyH_put (i := 11) 53 (.agg #[.int .u64 (wd (fe Mp (Wd ^ 6) X0) 0), .int .u64 (wd (fe Mp (Wd ^ 6) X0) 1), .int .u64 (wd (fe Mp (Wd ^ 6) X0) 2), .int .u64 (wd (fe Mp (Wd ^ 6) X0) 3), .int .u64 (wd (fe Mp (Wd ^ 6) X0) 4), .int .u64 (wd (fe Mp (Wd ^ 6) X0) 5)]) rfl (by kernel_rfl) (by kernel_rfl) (by kernel_rfl) (fun _ _ _ h => h) rfl (Or.inl ⟨by rfl, fun w hSw => ?_⟩) hHeld ?_
  · (try dsimp only at hSw); go_simp
  try go_frame
  refine wpAnyH_put (i := 12) 54 (.agg #[.int .u64 (wd (fe Mp (Wd ^ 6) X1) 0), .int .u64 (wd (fe Mp (Wd ^ 6) X1) 1), .int .u64 (wd (fe Mp (Wd ^ 6) X1) 2), .int .u64 (wd (fe Mp (Wd ^ 6) X1) 3), .int .u64 (wd (fe Mp (Wd ^ 6) X1) 4), .int .u64 (wd (fe Mp (Wd ^ 6) X1) 5)]) rfl (by kernel_rfl) (by kernel_rfl) (by kernel_rfl) (fun _ _ _ h => h) rfl (Or.inl ⟨by rfl, fun w hSw => ?_⟩) hHeld ?_
  · (try dsimp only at hSw); go_simp
  try go_frame
  refine wpAnyH_put (i := 13) 55 (.bool true) rfl (by kernel_rfl) (by kernel_rfl) (by kernel_rfl) (fun _ _ _ h => h) rfl (Or.inl ⟨by rfl, fun w hSw => ?_⟩) hHeld ?_
  · (try dsimp only at hSw); go_simp
  try go_frame
  refine wpAnyH_put (i := 14) 56 (.bool false) rfl (by kernel_rfl) (by kernel_rfl) (by kernel_rfl) (fun _ _ _ h => h) rfl (Or.inl ⟨by rfl, fun w hSw => ?_⟩) hHeld ?_
  · (try dsimp only at hSw); go_simp
  try go_frame
  refine wpAnyH_put (i := 15) 57 (.bool false) rfl (by kernel_rfl) (by kernel_rfl) (by kernel_rfl) (fun _ _ _ h => h) rfl (Or.inl ⟨by rfl, fun w hSw => ?_⟩) hHeld ?_
  · (try dsimp only at hSw); go_simp
  try go_frame
  refine wpAnyH_done (by kernel_rfl) ?_ _
  try go_frame
  have HB14 := D13
  have B14 := Lib.hid (B13.out.trans (HB14.out.mono B13.out.size))
  have Kx_14 := Lib.hid (Kx_13.out.keep HB14.out)
  have Ky_14 := Lib.hid (Ky_13.out.keep HB14.out)
  have Kz_14 := Lib.hid (Kz_13.out.keep HB14.out)
  obtain ⟨w14, hw14⟩ : ∃ W, W = w13.drew := ⟨_, rfl⟩
  simp only [← hw14] at B14 Kx_14 Ky_14 Kz_14
  rw [← hw14]
  clear hw14
  clear B13 SS13 D13 HB14 hHeld Kx_13 Ky_13 Kz_13 
  obtain ⟨cx0, cx1, cx2, cx3, cx4, cx5⟩ := cells6 Kx_14.out
  have zx := Kx_14.out.lt
  obtain ⟨cy0, cy1, cy2, cy3, cy4, cy5⟩ := cells6 Ky_14.out
  have zy := Ky_14.out.lt
  obtain ⟨cz0, cz1, cz2, cz3, cz4, cz5⟩ := cells6 Kz_14.out
  have zz := Kz_14.out.lt
  clear Js_13 Jt_13 hu52 hjs hjt q3 q1 q2 DZ0 DZ1 DI0 DI1 DO0 DO1 BY0 BY1 RD Q3 ZZ
  by_cases zx : X0 % Mp = 0
  · have hx := zero_root X0 zx
    have hb := zero_root (X0 * X1) (by rw [← emm, zx, Int.zero_mul, Int.zero_emod])
    by_cases hy : X1 ^ Qp * X1 ^ Qp % Mp = X1 % Mp
    · skip
      obtain ⟨Rx, hRx⟩ : ∃ R, R = (X0) ^ Qp := ⟨_, rfl⟩
      have hs := fun W a b c => fp_sqrt_yes (X0) W a b c hx
      simp only [← hRx] at hs
      have S_x := Lib.hid hs
      clear hs hRx
      obtain ⟨Ry, hRy⟩ : ∃ R, R = (X1) ^ Qp := ⟨_, rfl⟩
      have hs := fun W a b c => fp_sqrt_yes (X1) W a b c hy
      simp only [← hRy] at hs
      have S_y := Lib.hid hs
      clear hs hRy
      obtain ⟨Rb, hRb⟩ : ∃ R, R = (X0 * X1) ^ Qp := ⟨_, rfl⟩
      have hs := fun W a b c => fp_sqrt_yes (X0 * X1) W a b c hb
      simp only [← hRb] at hs
      have S_b := Lib.hid hs
      clear hs hRb
      have ZX := Lib.hid (show decide (X0 % Mp = 0) = true by simpa using zx)
      clear hb
      clear hx
      clear hy
      clear zx
      go_wp2_with fail
      refine (S_x.out _ (HG.out.keep B14.out) (HS.out.keep B14.out) (HQ.out.keep B14.out)).mono ?_
      rintro e w15 ⟨rfl, hb⟩
      clear cx0 cx1 cx2 cx3 cx4 cx5 zx cy0 cy1 cy2 cy3 cy4 cy5 zy cz0 cz1 cz2 cz3 cz4 cz5 zz
      have B15 := Lib.hid (B14.out.trans (hb.mono B14.out.size))
      have Kx_15 := Lib.hid (Kx_14.out.keep hb)
      have Ky_15 := Lib.hid (Ky_14.out.keep hb)
      have Kz_15 := Lib.hid (Kz_14.out.keep hb)
      clear hb B14 Kx_14 Ky_14 Kz_14
      obtain ⟨cx0, cx1, cx2, cx3, cx4, cx5⟩ := cells6 Kx_15.out
      have zx := Kx_15.out.lt
      obtain ⟨cy0, cy1, cy2, cy3, cy4, cy5⟩ := cells6 Ky_15.out
      have zy := Ky_15.out.lt
      obtain ⟨cz0, cz1, cz2, cz3, cz4, cz5⟩ := cells6 Kz_15.out
      have zz := Kz_15.out.lt
      unfold pv arr6
      go_wp2_with fail
      clear cx0 cx1 cx2 cx3 cx4 cx5 zx cy0 cy1 cy2 cy3 cy4 cy5 zy cz0 cz1 cz2 cz3 cz4 cz5 zz
      have B16 := Lib.hid (B15.out.alloc B15.out.size (Obj.cells #[.int .u64 (wd (fe Mp (Wd ^ 6) Rx) 0), .int .u64 (wd (fe Mp (Wd ^ 6) Rx) 1), .int .u64 (wd (fe Mp (Wd ^ 6) Rx) 2), .int .u64 (wd (fe Mp (Wd ^ 6) Rx) 3), .int .u64 (wd (fe Mp (Wd ^ 6) Rx) 4), .int .u64 (wd (fe Mp (Wd ^ 6) Rx) 5)] 28))
      have Kx_16 := Lib.hid (Kx_15.out.alloc (Obj.cells #[.int .u64 (wd (fe Mp (Wd ^ 6) Rx) 0), .int .u64 (wd (fe Mp (Wd ^ 6) Rx) 1), .int .u64 (wd (fe Mp (Wd ^ 6) Rx) 2), .int .u64 (wd (fe Mp (Wd ^ 6) Rx) 3), .int .u64 (wd (fe Mp (Wd ^ 6) Rx) 4), .int .u64 (wd (fe Mp (Wd ^ 6) Rx) 5)] 28))
      have Ky_16 := Lib.hid (Ky_15.out.alloc (Obj.cells #[.int .u64 (wd (fe Mp (Wd ^ 6) Rx) 0), .int .u64 (wd (fe Mp (Wd ^ 6) Rx) 1), .int .u64 (wd (fe Mp (Wd ^ 6) Rx) 2), .int .u64 (wd (fe Mp (Wd ^ 6) Rx) 3), .int .u64 (wd (fe Mp (Wd ^ 6) Rx) 4), .int .u64 (wd (fe Mp (Wd ^ 6) Rx) 5)] 28))
      have Kz_16 := Lib.hid (Kz_15.out.alloc (Obj.cells #[.int .u64 (wd (fe Mp (Wd ^ 6) Rx) 0), .int .u64 (wd (fe Mp (Wd ^ 6) Rx) 1), .int .u64 (wd (fe Mp (Wd ^ 6) Rx) 2), .int .u64 (wd (fe Mp (Wd ^ 6) Rx) 3), .int .u64 (wd (fe Mp (Wd ^ 6) Rx) 4), .int .u64 (wd (fe Mp (Wd ^ 6) Rx) 5)] 28))
      have Ku_16 := Lib.hid (Blk.new w15 28 #[.int .u64 (wd (fe Mp (Wd ^ 6) Rx) 0), .int .u64 (wd (fe Mp (Wd ^ 6) Rx) 1), .int .u64 (wd (fe Mp (Wd ^ 6) Rx) 2), .int .u64 (wd (fe Mp (Wd ^ 6) Rx) 3), .int .u64 (wd (fe Mp (Wd ^ 6) Rx) 4), .int .u64 (wd (fe Mp (Wd ^ 6) Rx) 5)])
      obtain ⟨gu, hgu⟩ : ∃ g, g = w15.heap.size := ⟨_, rfl⟩
      obtain ⟨w16, hw16⟩ : ∃ W, W = w15.alloc (Obj.cells #[.int .u64 (wd (fe Mp (Wd ^ 6) Rx) 0), .int .u64 (wd (fe Mp (Wd ^ 6) Rx) 1), .int .u64 (wd (fe Mp (Wd ^ 6) Rx) 2), .int .u64 (wd (fe Mp (Wd ^ 6) Rx) 3), .int .u64 (wd (fe Mp (Wd ^ 6) Rx) 4), .int .u64 (wd (fe Mp (Wd ^ 6) Rx) 5)] 28) := ⟨_, rfl⟩
      rw [← hgu] at Ku_16
      simp only [← hw16] at B16 Kx_16 Ky_16 Kz_16 Ku_16
      rw [← hw16, ← hgu]
      clear hw16 hgu B15 Kx_15 Ky_15 Kz_15
      obtain ⟨cx0, cx1, cx2, cx3, cx4, cx5⟩ := cells6 Kx_16.out
      have zx := Kx_16.out.lt
      obtain ⟨cy0, cy1, cy2, cy3, cy4, cy5⟩ := cells6 Ky_16.out
      have zy := Ky_16.out.lt
      obtain ⟨cz0, cz1, cz2, cz3, cz4, cz5⟩ := cells6 Kz_16.out
      have zz := Kz_16.out.lt
      obtain ⟨cu0, cu1, cu2, cu3, cu4, cu5⟩ := cells6 Ku_16.out
      have zu := Ku_16.out.lt
      refine (S_y.out _ (HG.out.keep B16.out) (HS.out.keep B16.out) (HQ.out.keep B16.out)).mono ?_
      rintro e w17 ⟨rfl, hb⟩
      clear cx0 cx1 cx2 cx3 cx4 cx5 zx cy0 cy1 cy2 cy3 cy4 cy5 zy cz0 cz1 cz2 cz3 cz4 cz5 zz cu0 cu1 cu2 cu3 cu4 cu5 zu
      have B17 := Lib.hid (B16.out.trans (hb.mono B16.out.size))
      have Kx_17 := Lib.hid (Kx_16.out.keep hb)
      have Ky_17 := Lib.hid (Ky_16.out.keep hb)
      have Kz_17 := Lib.hid (Kz_16.out.keep hb)
      have Ku_17 := Lib.hid (Ku_16.out.keep hb)
      clear hb B16 Kx_16 Ky_16 Kz_16 Ku_16
      obtain ⟨cx0, cx1, cx2, cx3, cx4, cx5⟩ := cells6 Kx_17.out
      have zx := Kx_17.out.lt
      obtain ⟨cy0, cy1, cy2, cy3, cy4, cy5⟩ := cells6 Ky_17.out
      have zy := Ky_17.out.lt
      obtain ⟨cz0, cz1, cz2, cz3, cz4, cz5⟩ := cells6 Kz_17.out
      have zz := Kz_17.out.lt
      obtain ⟨cu0, cu1, cu2, cu3, cu4, cu5⟩ := cells6 Ku_17.out
      have zu := Ku_17.out.lt
      unfold pv arr6
      go_wp2_with fail
      clear cx0 cx1 cx2 cx3 cx4 cx5 zx cy0 cy1 cy2 cy3 cy4 cy5 zy cz0 cz1 cz2 cz3 cz4 cz5 zz cu0 cu1 cu2 cu3 cu4 cu5 zu
      have B18 := Lib.hid (B17.out.alloc B17.out.size (Obj.cells #[.int .u64 (wd (fe Mp (Wd ^ 6) Ry) 0), .int .u64 (wd (fe Mp (Wd ^ 6) Ry) 1), .int .u64 (wd (fe Mp (Wd ^ 6) Ry) 2), .int .u64 (wd (fe Mp (Wd ^ 6) Ry) 3), .int .u64 (wd (fe Mp (Wd ^ 6) Ry) 4), .int .u64 (wd (fe Mp (Wd ^ 6) Ry) 5)] 28))
      have Kx_18 := Lib.hid (Kx_17.out.alloc (Obj.cells #[.int .u64 (wd (fe Mp (Wd ^ 6) Ry) 0), .int .u64 (wd (fe Mp (Wd ^ 6) Ry) 1), .int .u64 (wd (fe Mp (Wd ^ 6) Ry) 2), .int .u64 (wd (fe Mp (Wd ^ 6) Ry) 3), .int .u64 (wd (fe Mp (Wd ^ 6) Ry) 4), .int .u64 (wd (fe Mp (Wd ^ 6) Ry) 5)] 28))
      have Ky_18 := Lib.hid (Ky_17.out.alloc (Obj.cells #[.int .u64 (wd (fe Mp (Wd ^ 6) Ry) 0), .int .u64 (wd (fe Mp (Wd ^ 6) Ry) 1), .int .u64 (wd (fe Mp (Wd ^ 6) Ry) 2), .int .u64 (wd (fe Mp (Wd ^ 6) Ry) 3), .int .u64 (wd (fe Mp (Wd ^ 6) Ry) 4), .int .u64 (wd (fe Mp (Wd ^ 6) Ry) 5)] 28))
      have Kz_18 := Lib.hid (Kz_17.out.alloc (Obj.cells #[.int .u64 (wd (fe Mp (Wd ^ 6) Ry) 0), .int .u64 (wd (fe Mp (Wd ^ 6) Ry) 1), .int .u64 (wd (fe Mp (Wd ^ 6) Ry) 2), .int .u64 (wd (fe Mp (Wd ^ 6) Ry) 3), .int .u64 (wd (fe Mp (Wd ^ 6) Ry) 4), .int .u64 (wd (fe Mp (Wd ^ 6) Ry) 5)] 28))
      have Ku_18 := Lib.hid (Ku_17.out.alloc (Obj.cells #[.int .u64 (wd (fe Mp (Wd ^ 6) Ry) 0), .int .u64 (wd (fe Mp (Wd ^ 6) Ry) 1), .int .u64 (wd (fe Mp (Wd ^ 6) Ry) 2), .int .u64 (wd (fe Mp (Wd ^ 6) Ry) 3), .int .u64 (wd (fe Mp (Wd ^ 6) Ry) 4), .int .u64 (wd (fe Mp (Wd ^ 6) Ry) 5)] 28))
      have Kv_18 := Lib.hid (Blk.new w17 28 #[.int .u64 (wd (fe Mp (Wd ^ 6) Ry) 0), .int .u64 (wd (fe Mp (Wd ^ 6) Ry) 1), .int .u64 (wd (fe Mp (Wd ^ 6) Ry) 2), .int .u64 (wd (fe Mp (Wd ^ 6) Ry) 3), .int .u64 (wd (fe Mp (Wd ^ 6) Ry) 4), .int .u64 (wd (fe Mp (Wd ^ 6) Ry) 5)])
      obtain ⟨gv, hgv⟩ : ∃ g, g = w17.heap.size := ⟨_, rfl⟩
      obtain ⟨w18, hw18⟩ : ∃ W, W = w17.alloc (Obj.cells #[.int .u64 (wd (fe Mp (Wd ^ 6) Ry) 0), .int .u64 (wd (fe Mp (Wd ^ 6) Ry) 1), .int .u64 (wd (fe Mp (Wd ^ 6) Ry) 2), .int .u64 (wd (fe Mp (Wd ^ 6) Ry) 3), .int .u64 (wd (fe Mp (Wd ^ 6) Ry) 4), .int .u64 (wd (fe Mp (Wd ^ 6) Ry) 5)] 28) := ⟨_, rfl⟩
      rw [← hgv] at Kv_18
      simp only [← hw18] at B18 Kx_18 Ky_18 Kz_18 Ku_18 Kv_18
      rw [← hw18, ← hgv]
      clear hw18 hgv B17 Kx_17 Ky_17 Kz_17 Ku_17
      obtain ⟨cx0, cx1, cx2, cx3, cx4, cx5⟩ := cells6 Kx_18.out
      have zx := Kx_18.out.lt
      obtain ⟨cy0, cy1, cy2, cy3, cy4, cy5⟩ := cells6 Ky_18.out
      have zy := Ky_18.out.lt
      obtain ⟨cz0, cz1, cz2, cz3, cz4, cz5⟩ := cells6 Kz_18.out
      have zz := Kz_18.out.lt
      obtain ⟨cu0, cu1, cu2, cu3, cu4, cu5⟩ := cells6 Ku_18.out
      have zu := Ku_18.out.lt
      obtain ⟨cv0, cv1, cv2, cv3, cv4, cv5⟩ := cells6 Kv_18.out
      have zv := Kv_18.out.lt
      refine (fp_mul X0 X1 _ (HG.out.keep B18.out)).mono ?_
      rintro e w19 ⟨rfl, hb⟩
      clear cx0 cx1 cx2 cx3 cx4 cx5 zx cy0 cy1 cy2 cy3 cy4 cy5 zy cz0 cz1 cz2 cz3 cz4 cz5 zz cu0 cu1 cu2 cu3 cu4 cu5 zu cv0 cv1 cv2 cv3 cv4 cv5 zv
      have B19 := Lib.hid (B18.out.trans (hb.mono B18.out.size))
      have Kx_19 := Lib.hid (Kx_18.out.keep hb)
      have Ky_19 := Lib.hid (Ky_18.out.keep hb)
      have Kz_19 := Lib.hid (Kz_18.out.keep hb)
      have Ku_19 := Lib.hid (Ku_18.out.keep hb)
      have Kv_19 := Lib.hid (Kv_18.out.keep hb)
      clear hb B18 Kx_18 Ky_18 Kz_18 Ku_18 Kv_18
      obtain ⟨cx0, cx1, cx2, cx3, cx4, cx5⟩ := cells6 Kx_19.out
      have zx := Kx_19.out.lt
      obtain ⟨cy0, cy1, cy2, cy3, cy4, cy5⟩ := cells6 Ky_19.out
      have zy := Ky_19.out.lt
      obtain ⟨cz0, cz1, cz2, cz3, cz4, cz5⟩ := cells6 Kz_19.out
      have zz := Kz_19.out.lt
      obtain ⟨cu0, cu1, cu2, cu3, cu4, cu5⟩ := cells6 Ku_19.out
      have zu := Ku_19.out.lt
      obtain ⟨cv0, cv1, cv2, cv3, cv4, cv5⟩ := cells6 Kv_19.out
      have zv := Kv_19.out.lt
      go_wp2_with fail
      refine (S_b.out _ (HG.out.keep B19.out) (HS.out.keep B19.out) (HQ.out.keep B19.out)).mono ?_
      rintro e w20 ⟨rfl, hb⟩
      clear cx0 cx1 cx2 cx3 cx4 cx5 zx cy0 cy1 cy2 cy3 cy4 cy5 zy cz0 cz1 cz2 cz3 cz4 cz5 zz cu0 cu1 cu2 cu3 cu4 cu5 zu cv0 cv1 cv2 cv3 cv4 cv5 zv
      have B20 := Lib.hid (B19.out.trans (hb.mono B19.out.size))
      have Kx_20 := Lib.hid (Kx_19.out.keep hb)
      have Ky_20 := Lib.hid (Ky_19.out.keep hb)
      have Kz_20 := Lib.hid (Kz_19.out.keep hb)
      have Ku_20 := Lib.hid (Ku_19.out.keep hb)
      have Kv_20 := Lib.hid (Kv_19.out.keep hb)
      clear hb B19 Kx_19 Ky_19 Kz_19 Ku_19 Kv_19
      obtain ⟨cx0, cx1, cx2, cx3, cx4, cx5⟩ := cells6 Kx_20.out
      have zx := Kx_20.out.lt
      obtain ⟨cy0, cy1, cy2, cy3, cy4, cy5⟩ := cells6 Ky_20.out
      have zy := Ky_20.out.lt
      obtain ⟨cz0, cz1, cz2, cz3, cz4, cz5⟩ := cells6 Kz_20.out
      have zz := Kz_20.out.lt
      obtain ⟨cu0, cu1, cu2, cu3, cu4, cu5⟩ := cells6 Ku_20.out
      have zu := Ku_20.out.lt
      obtain ⟨cv0, cv1, cv2, cv3, cv4, cv5⟩ := cells6 Kv_20.out
      have zv := Kv_20.out.lt
      unfold pv arr6
      go_wp2_with fail
      clear cx0 cx1 cx2 cx3 cx4 cx5 zx cy0 cy1 cy2 cy3 cy4 cy5 zy cz0 cz1 cz2 cz3 cz4 cz5 zz cu0 cu1 cu2 cu3 cu4 cu5 zu cv0 cv1 cv2 cv3 cv4 cv5 zv
      have B21 := Lib.hid (B20.out.alloc B20.out.size (Obj.cells #[.int .u64 (wd (fe Mp (Wd ^ 6) Rb) 0), .int .u64 (wd (fe Mp (Wd ^ 6) Rb) 1), .int .u64 (wd (fe Mp (Wd ^ 6) Rb) 2), .int .u64 (wd (fe Mp (Wd ^ 6) Rb) 3), .int .u64 (wd (fe Mp (Wd ^ 6) Rb) 4), .int .u64 (wd (fe Mp (Wd ^ 6) Rb) 5)] 28))
      have Kx_21 := Lib.hid (Kx_20.out.alloc (Obj.cells #[.int .u64 (wd (fe Mp (Wd ^ 6) Rb) 0), .int .u64 (wd (fe Mp (Wd ^ 6) Rb) 1), .int .u64 (wd (fe Mp (Wd ^ 6) Rb) 2), .int .u64 (wd (fe Mp (Wd ^ 6) Rb) 3), .int .u64 (wd (fe Mp (Wd ^ 6) Rb) 4), .int .u64 (wd (fe Mp (Wd ^ 6) Rb) 5)] 28))
      have Ky_21 := Lib.hid (Ky_20.out.alloc (Obj.cells #[.int .u64 (wd (fe Mp (Wd ^ 6) Rb) 0), .int .u64 (wd (fe Mp (Wd ^ 6) Rb) 1), .int .u64 (wd (fe Mp (Wd ^ 6) Rb) 2), .int .u64 (wd (fe Mp (Wd ^ 6) Rb) 3), .int .u64 (wd (fe Mp (Wd ^ 6) Rb) 4), .int .u64 (wd (fe Mp (Wd ^ 6) Rb) 5)] 28))
      have Kz_21 := Lib.hid (Kz_20.out.alloc (Obj.cells #[.int .u64 (wd (fe Mp (Wd ^ 6) Rb) 0), .int .u64 (wd (fe Mp (Wd ^ 6) Rb) 1), .int .u64 (wd (fe Mp (Wd ^ 6) Rb) 2), .int .u64 (wd (fe Mp (Wd ^ 6) Rb) 3), .int .u64 (wd (fe Mp (Wd ^ 6) Rb) 4), .int .u64 (wd (fe Mp (Wd ^ 6) Rb) 5)] 28))
      have Ku_21 := Lib.hid (Ku_20.out.alloc (Obj.cells #[.int .u64 (wd (fe Mp (Wd ^ 6) Rb) 0), .int .u64 (wd (fe Mp (Wd ^ 6) Rb) 1), .int .u64 (wd (fe Mp (Wd ^ 6) Rb) 2), .int .u64 (wd (fe Mp (Wd ^ 6) Rb) 3), .int .u64 (wd (fe Mp (Wd ^ 6) Rb) 4), .int .u64 (wd (fe Mp (Wd ^ 6) Rb) 5)] 28))
      have Kv_21 := Lib.hid (Kv_20.out.alloc (Obj.cells #[.int .u64 (wd (fe Mp (Wd ^ 6) Rb) 0), .int .u64 (wd (fe Mp (Wd ^ 6) Rb) 1), .int .u64 (wd (fe Mp (Wd ^ 6) Rb) 2), .int .u64 (wd (fe Mp (Wd ^ 6) Rb) 3), .int .u64 (wd (fe Mp (Wd ^ 6) Rb) 4), .int .u64 (wd (fe Mp (Wd ^ 6) Rb) 5)] 28))
      have Ko_21 := Lib.hid (Blk.new w20 28 #[.int .u64 (wd (fe Mp (Wd ^ 6) Rb) 0), .int .u64 (wd (fe Mp (Wd ^ 6) Rb) 1), .int .u64 (wd (fe Mp (Wd ^ 6) Rb) 2), .int .u64 (wd (fe Mp (Wd ^ 6) Rb) 3), .int .u64 (wd (fe Mp (Wd ^ 6) Rb) 4), .int .u64 (wd (fe Mp (Wd ^ 6) Rb) 5)])
      obtain ⟨go, hgo⟩ : ∃ g, g = w20.heap.size := ⟨_, rfl⟩
      obtain ⟨w21, hw21⟩ : ∃ W, W = w20.alloc (Obj.cells #[.int .u64 (wd (fe Mp (Wd ^ 6) Rb) 0), .int .u64 (wd (fe Mp (Wd ^ 6) Rb) 1), .int .u64 (wd (fe Mp (Wd ^ 6) Rb) 2), .int .u64 (wd (fe Mp (Wd ^ 6) Rb) 3), .int .u64 (wd (fe Mp (Wd ^ 6) Rb) 4), .int .u64 (wd (fe Mp (Wd ^ 6) Rb) 5)] 28) := ⟨_, rfl⟩
      rw [← hgo] at Ko_21
      simp only [← hw21] at B21 Kx_21 Ky_21 Kz_21 Ku_21 Kv_21 Ko_21
      rw [← hw21, ← hgo]
      clear hw21 hgo B20 Kx_20 Ky_20 Kz_20 Ku_20 Kv_20
      obtain ⟨cx0, cx1, cx2, cx3, cx4, cx5⟩ := cells6 Kx_21.out
      have zx := Kx_21.out.lt
      obtain ⟨cy0, cy1, cy2, cy3, cy4, cy5⟩ := cells6 Ky_21.out
      have zy := Ky_21.out.lt
      obtain ⟨cz0, cz1, cz2, cz3, cz4, cz5⟩ := cells6 Kz_21.out
      have zz := Kz_21.out.lt
      obtain ⟨cu0, cu1, cu2, cu3, cu4, cu5⟩ := cells6 Ku_21.out
      have zu := Ku_21.out.lt
      obtain ⟨cv0, cv1, cv2, cv3, cv4, cv5⟩ := cells6 Kv_21.out
      have zv := Kv_21.out.lt
      obtain ⟨co0, co1, co2, co3, co4, co5⟩ := cells6 Ko_21.out
      have zo := Ko_21.out.lt
      refine (fp_zero X0 _).mono ?_
      rintro e w22 ⟨rfl, hb⟩
      clear cx0 cx1 cx2 cx3 cx4 cx5 zx cy0 cy1 cy2 cy3 cy4 cy5 zy cz0 cz1 cz2 cz3 cz4 cz5 zz cu0 cu1 cu2 cu3 cu4 cu5 zu cv0 cv1 cv2 cv3 cv4 cv5 zv co0 co1 co2 co3 co4 co5 zo
      have B22 := Lib.hid (B21.out.trans (hb.mono B21.out.size))
      have Kx_22 := Lib.hid (Kx_21.out.keep hb)
      have Ky_22 := Lib.hid (Ky_21.out.keep hb)
      have Kz_22 := Lib.hid (Kz_21.out.keep hb)
      have Ku_22 := Lib.hid (Ku_21.out.keep hb)
      have Kv_22 := Lib.hid (Kv_21.out.keep hb)
      have Ko_22 := Lib.hid (Ko_21.out.keep hb)
      clear hb B21 Kx_21 Ky_21 Kz_21 Ku_21 Kv_21 Ko_21
      obtain ⟨cx0, cx1, cx2, cx3, cx4, cx5⟩ := cells6 Kx_22.out
      have zx := Kx_22.out.lt
      obtain ⟨cy0, cy1, cy2, cy3, cy4, cy5⟩ := cells6 Ky_22.out
      have zy := Ky_22.out.lt
      obtain ⟨cz0, cz1, cz2, cz3, cz4, cz5⟩ := cells6 Kz_22.out
      have zz := Kz_22.out.lt
      obtain ⟨cu0, cu1, cu2, cu3, cu4, cu5⟩ := cells6 Ku_22.out
      have zu := Ku_22.out.lt
      obtain ⟨cv0, cv1, cv2, cv3, cv4, cv5⟩ := cells6 Kv_22.out
      have zv := Kv_22.out.lt
      obtain ⟨co0, co1, co2, co3, co4, co5⟩ := cells6 Ko_22.out
      have zo := Ko_22.out.lt
      rw [ZX.out]
      go_wp2_with fail
      go_ret
      exact ⟨rfl, B22.out⟩
    · skip
      obtain ⟨Rx, hRx⟩ : ∃ R, R = (X0) ^ Qp := ⟨_, rfl⟩
      have hs := fun W a b c => fp_sqrt_yes (X0) W a b c hx
      simp only [← hRx] at hs
      have S_x := Lib.hid hs
      clear hs hRx
      have hs := fun W a b c => fp_sqrt_no (X1) W a b c hy
      simp only [pv_zero] at hs
      have S_y := Lib.hid hs
      clear hs
      obtain ⟨Rb, hRb⟩ : ∃ R, R = (X0 * X1) ^ Qp := ⟨_, rfl⟩
      have hs := fun W a b c => fp_sqrt_yes (X0 * X1) W a b c hb
      simp only [← hRb] at hs
      have S_b := Lib.hid hs
      clear hs hRb
      have ZX := Lib.hid (show decide (X0 % Mp = 0) = true by simpa using zx)
      clear hb
      clear hx
      clear hy
      clear zx
      go_wp2_with fail
      refine (S_x.out _ (HG.out.keep B14.out) (HS.out.keep B14.out) (HQ.out.keep B14.out)).mono ?_
      rintro e w15 ⟨rfl, hb⟩
      clear cx0 cx1 cx2 cx3 cx4 cx5 zx cy0 cy1 cy2 cy3 cy4 cy5 zy cz0 cz1 cz2 cz3 cz4 cz5 zz
      have B15 := Lib.hid (B14.out.trans (hb.mono B14.out.size))
      have Kx_15 := Lib.hid (Kx_14.out.keep hb)
      have Ky_15 := Lib.hid (Ky_14.out.keep hb)
      have Kz_15 := Lib.hid (Kz_14.out.keep hb)
      clear hb B14 Kx_14 Ky_14 Kz_14
      obtain ⟨cx0, cx1, cx2, cx3, cx4, cx5⟩ := cells6 Kx_15.out
      have zx := Kx_15.out.lt
      obtain ⟨cy0, cy1, cy2, cy3, cy4, cy5⟩ := cells6 Ky_15.out
      have zy := Ky_15.out.lt
      obtain ⟨cz0, cz1, cz2, cz3, cz4, cz5⟩ := cells6 Kz_15.out
      have zz := Kz_15.out.lt
      unfold pv arr6
      go_wp2_with fail
      clear cx0 cx1 cx2 cx3 cx4 cx5 zx cy0 cy1 cy2 cy3 cy4 cy5 zy cz0 cz1 cz2 cz3 cz4 cz5 zz
      have B16 := Lib.hid (B15.out.alloc B15.out.size (Obj.cells #[.int .u64 (wd (fe Mp (Wd ^ 6) Rx) 0), .int .u64 (wd (fe Mp (Wd ^ 6) Rx) 1), .int .u64 (wd (fe Mp (Wd ^ 6) Rx) 2), .int .u64 (wd (fe Mp (Wd ^ 6) Rx) 3), .int .u64 (wd (fe Mp (Wd ^ 6) Rx) 4), .int .u64 (wd (fe Mp (Wd ^ 6) Rx) 5)] 28))
      have Kx_16 := Lib.hid (Kx_15.out.alloc (Obj.cells #[.int .u64 (wd (fe Mp (Wd ^ 6) Rx) 0), .int .u64 (wd (fe Mp (Wd ^ 6) Rx) 1), .int .u64 (wd (fe Mp (Wd ^ 6) Rx) 2), .int .u64 (wd (fe Mp (Wd ^ 6) Rx) 3), .int .u64 (wd (fe Mp (Wd ^ 6) Rx) 4), .int .u64 (wd (fe Mp (Wd ^ 6) Rx) 5)] 28))
      have Ky_16 := Lib.hid (Ky_15.out.alloc (Obj.cells #[.int .u64 (wd (fe Mp (Wd ^ 6) Rx) 0), .int .u64 (wd (fe Mp (Wd ^ 6) Rx) 1), .int .u64 (wd (fe Mp (Wd ^ 6) Rx) 2), .int .u64 (wd (fe Mp (Wd ^ 6) Rx) 3), .int .u64 (wd (fe Mp (Wd ^ 6) Rx) 4), .int .u64 (wd (fe Mp (Wd ^ 6) Rx) 5)] 28))
      have Kz_16 := Lib.hid (Kz_15.out.alloc (Obj.cells #[.int .u64 (wd (fe Mp (Wd ^ 6) Rx) 0), .int .u64 (wd (fe Mp (Wd ^ 6) Rx) 1), .int .u64 (wd (fe Mp (Wd ^ 6) Rx) 2), .int .u64 (wd (fe Mp (Wd ^ 6) Rx) 3), .int .u64 (wd (fe Mp (Wd ^ 6) Rx) 4), .int .u64 (wd (fe Mp (Wd ^ 6) Rx) 5)] 28))
      have Ku_16 := Lib.hid (Blk.new w15 28 #[.int .u64 (wd (fe Mp (Wd ^ 6) Rx) 0), .int .u64 (wd (fe Mp (Wd ^ 6) Rx) 1), .int .u64 (wd (fe Mp (Wd ^ 6) Rx) 2), .int .u64 (wd (fe Mp (Wd ^ 6) Rx) 3), .int .u64 (wd (fe Mp (Wd ^ 6) Rx) 4), .int .u64 (wd (fe Mp (Wd ^ 6) Rx) 5)])
      obtain ⟨gu, hgu⟩ : ∃ g, g = w15.heap.size := ⟨_, rfl⟩
      obtain ⟨w16, hw16⟩ : ∃ W, W = w15.alloc (Obj.cells #[.int .u64 (wd (fe Mp (Wd ^ 6) Rx) 0), .int .u64 (wd (fe Mp (Wd ^ 6) Rx) 1), .int .u64 (wd (fe Mp (Wd ^ 6) Rx) 2), .int .u64 (wd (fe Mp (Wd ^ 6) Rx) 3), .int .u64 (wd (fe Mp (Wd ^ 6) Rx) 4), .int .u64 (wd (fe Mp (Wd ^ 6) Rx) 5)] 28) := ⟨_, rfl⟩
      rw [← hgu] at Ku_16
      simp only [← hw16] at B16 Kx_16 Ky_16 Kz_16 Ku_16
      rw [← hw16, ← hgu]
      clear hw16 hgu B15 Kx_15 Ky_15 Kz_15
      obtain ⟨cx0, cx1, cx2, cx3, cx4, cx5⟩ := cells6 Kx_16.out
      have zx := Kx_16.out.lt
      obtain ⟨cy0, cy1, cy2, cy3, cy4, cy5⟩ := cells6 Ky_16.out
      have zy := Ky_16.out.lt
      obtain ⟨cz0, cz1, cz2, cz3, cz4, cz5⟩ := cells6 Kz_16.out
      have zz := Kz_16.out.lt
      obtain ⟨cu0, cu1, cu2, cu3, cu4, cu5⟩ := cells6 Ku_16.out
      have zu := Ku_16.out.lt
      refine (S_y.out _ (HG.out.keep B16.out) (HS.out.keep B16.out) (HQ.out.keep B16.out)).mono ?_
      rintro e w17 ⟨rfl, hb⟩
      clear cx0 cx1 cx2 cx3 cx4 cx5 zx cy0 cy1 cy2 cy3 cy4 cy5 zy cz0 cz1 cz2 cz3 cz4 cz5 zz cu0 cu1 cu2 cu3 cu4 cu5 zu
      have B17 := Lib.hid (B16.out.trans (hb.mono B16.out.size))
      have Kx_17 := Lib.hid (Kx_16.out.keep hb)
      have Ky_17 := Lib.hid (Ky_16.out.keep hb)
      have Kz_17 := Lib.hid (Kz_16.out.keep hb)
      have Ku_17 := Lib.hid (Ku_16.out.keep hb)
      clear hb B16 Kx_16 Ky_16 Kz_16 Ku_16
      obtain ⟨cx0, cx1, cx2, cx3, cx4, cx5⟩ := cells6 Kx_17.out
      have zx := Kx_17.out.lt
      obtain ⟨cy0, cy1, cy2, cy3, cy4, cy5⟩ := cells6 Ky_17.out
      have zy := Ky_17.out.lt
      obtain ⟨cz0, cz1, cz2, cz3, cz4, cz5⟩ := cells6 Kz_17.out
      have zz := Kz_17.out.lt
      obtain ⟨cu0, cu1, cu2, cu3, cu4, cu5⟩ := cells6 Ku_17.out
      have zu := Ku_17.out.lt
      unfold pv arr6
      go_wp2_with fail
      clear cx0 cx1 cx2 cx3 cx4 cx5 zx cy0 cy1 cy2 cy3 cy4 cy5 zy cz0 cz1 cz2 cz3 cz4 cz5 zz cu0 cu1 cu2 cu3 cu4 cu5 zu
      have B18 := Lib.hid (B17.out.alloc B17.out.size (Obj.cells #[.int .u64 (wd (fe Mp (Wd ^ 6) 0) 0), .int .u64 (wd (fe Mp (Wd ^ 6) 0) 1), .int .u64 (wd (fe Mp (Wd ^ 6) 0) 2), .int .u64 (wd (fe Mp (Wd ^ 6) 0) 3), .int .u64 (wd (fe Mp (Wd ^ 6) 0) 4), .int .u64 (wd (fe Mp (Wd ^ 6) 0) 5)] 28))
      have Kx_18 := Lib.hid (Kx_17.out.alloc (Obj.cells #[.int .u64 (wd (fe Mp (Wd ^ 6) 0) 0), .int .u64 (wd (fe Mp (Wd ^ 6) 0) 1), .int .u64 (wd (fe Mp (Wd ^ 6) 0) 2), .int .u64 (wd (fe Mp (Wd ^ 6) 0) 3), .int .u64 (wd (fe Mp (Wd ^ 6) 0) 4), .int .u64 (wd (fe Mp (Wd ^ 6) 0) 5)] 28))
      have Ky_18 := Lib.hid (Ky_17.out.alloc (Obj.cells #[.int .u64 (wd (fe Mp (Wd ^ 6) 0) 0), .int .u64 (wd (fe Mp (Wd ^ 6) 0) 1), .int .u64 (wd (fe Mp (Wd ^ 6) 0) 2), .int .u64 (wd (fe Mp (Wd ^ 6) 0) 3), .int .u64 (wd (fe Mp (Wd ^ 6) 0) 4), .int .u64 (wd (fe Mp (Wd ^ 6) 0) 5)] 28))
      have Kz_18 := Lib.hid (Kz_17.out.alloc (Obj.cells #[.int .u64 (wd (fe Mp (Wd ^ 6) 0) 0), .int .u64 (wd (fe Mp (Wd ^ 6) 0) 1), .int .u64 (wd (fe Mp (Wd ^ 6) 0) 2), .int .u64 (wd (fe Mp (Wd ^ 6) 0) 3), .int .u64 (wd (fe Mp (Wd ^ 6) 0) 4), .int .u64 (wd (fe Mp (Wd ^ 6) 0) 5)] 28))
      have Ku_18 := Lib.hid (Ku_17.out.alloc (Obj.cells #[.int .u64 (wd (fe Mp (Wd ^ 6) 0) 0), .int .u64 (wd (fe Mp (Wd ^ 6) 0) 1), .int .u64 (wd (fe Mp (Wd ^ 6) 0) 2), .int .u64 (wd (fe Mp (Wd ^ 6) 0) 3), .int .u64 (wd (fe Mp (Wd ^ 6) 0) 4), .int .u64 (wd (fe Mp (Wd ^ 6) 0) 5)] 28))
      have Kv_18 := Lib.hid (Blk.new w17 28 #[.int .u64 (wd (fe Mp (Wd ^ 6) 0) 0), .int .u64 (wd (fe Mp (Wd ^ 6) 0) 1), .int .u64 (wd (fe Mp (Wd ^ 6) 0) 2), .int .u64 (wd (fe Mp (Wd ^ 6) 0) 3), .int .u64 (wd (fe Mp (Wd ^ 6) 0) 4), .int .u64 (wd (fe Mp (Wd ^ 6) 0) 5)])
      obtain ⟨gv, hgv⟩ : ∃ g, g = w17.heap.size := ⟨_, rfl⟩
      obtain ⟨w18, hw18⟩ : ∃ W, W = w17.alloc (Obj.cells #[.int .u64 (wd (fe Mp (Wd ^ 6) 0) 0), .int .u64 (wd (fe Mp (Wd ^ 6) 0) 1), .int .u64 (wd (fe Mp (Wd ^ 6) 0) 2), .int .u64 (wd (fe Mp (Wd ^ 6) 0) 3), .int .u64 (wd (fe Mp (Wd ^ 6) 0) 4), .int .u64 (wd (fe Mp (Wd ^ 6) 0) 5)] 28) := ⟨_, rfl⟩
      rw [← hgv] at Kv_18
      simp only [← hw18] at B18 Kx_18 Ky_18 Kz_18 Ku_18 Kv_18
      rw [← hw18, ← hgv]
      clear hw18 hgv B17 Kx_17 Ky_17 Kz_17 Ku_17
      obtain ⟨cx0, cx1, cx2, cx3, cx4, cx5⟩ := cells6 Kx_18.out
      have zx := Kx_18.out.lt
      obtain ⟨cy0, cy1, cy2, cy3, cy4, cy5⟩ := cells6 Ky_18.out
      have zy := Ky_18.out.lt
      obtain ⟨cz0, cz1, cz2, cz3, cz4, cz5⟩ := cells6 Kz_18.out
      have zz := Kz_18.out.lt
      obtain ⟨cu0, cu1, cu2, cu3, cu4, cu5⟩ := cells6 Ku_18.out
      have zu := Ku_18.out.lt
      obtain ⟨cv0, cv1, cv2, cv3, cv4, cv5⟩ := cells6 Kv_18.out
      have zv := Kv_18.out.lt
      refine (fp_mul X0 X1 _ (HG.out.keep B18.out)).mono ?_
      rintro e w19 ⟨rfl, hb⟩
      clear cx0 cx1 cx2 cx3 cx4 cx5 zx cy0 cy1 cy2 cy3 cy4 cy5 zy cz0 cz1 cz2 cz3 cz4 cz5 zz cu0 cu1 cu2 cu3 cu4 cu5 zu cv0 cv1 cv2 cv3 cv4 cv5 zv
      have B19 := Lib.hid (B18.out.trans (hb.mono B18.out.size))
      have Kx_19 := Lib.hid (Kx_18.out.keep hb)
      have Ky_19 := Lib.hid (Ky_18.out.keep hb)
      have Kz_19 := Lib.hid (Kz_18.out.keep hb)
      have Ku_19 := Lib.hid (Ku_18.out.keep hb)
      have Kv_19 := Lib.hid (Kv_18.out.keep hb)
      clear hb B18 Kx_18 Ky_18 Kz_18 Ku_18 Kv_18
      obtain ⟨cx0, cx1, cx2, cx3, cx4, cx5⟩ := cells6 Kx_19.out
      have zx := Kx_19.out.lt
      obtain ⟨cy0, cy1, cy2, cy3, cy4, cy5⟩ := cells6 Ky_19.out
      have zy := Ky_19.out.lt
      obtain ⟨cz0, cz1, cz2, cz3, cz4, cz5⟩ := cells6 Kz_19.out
      have zz := Kz_19.out.lt
      obtain ⟨cu0, cu1, cu2, cu3, cu4, cu5⟩ := cells6 Ku_19.out
      have zu := Ku_19.out.lt
      obtain ⟨cv0, cv1, cv2, cv3, cv4, cv5⟩ := cells6 Kv_19.out
      have zv := Kv_19.out.lt
      go_wp2_with fail
      refine (S_b.out _ (HG.out.keep B19.out) (HS.out.keep B19.out) (HQ.out.keep B19.out)).mono ?_
      rintro e w20 ⟨rfl, hb⟩
      clear cx0 cx1 cx2 cx3 cx4 cx5 zx cy0 cy1 cy2 cy3 cy4 cy5 zy cz0 cz1 cz2 cz3 cz4 cz5 zz cu0 cu1 cu2 cu3 cu4 cu5 zu cv0 cv1 cv2 cv3 cv4 cv5 zv
      have B20 := Lib.hid (B19.out.trans (hb.mono B19.out.size))
      have Kx_20 := Lib.hid (Kx_19.out.keep hb)
      have Ky_20 := Lib.hid (Ky_19.out.keep hb)
      have Kz_20 := Lib.hid (Kz_19.out.keep hb)
      have Ku_20 := Lib.hid (Ku_19.out.keep hb)
      have Kv_20 := Lib.hid (Kv_19.out.keep hb)
      clear hb B19 Kx_19 Ky_19 Kz_19 Ku_19 Kv_19
      obtain ⟨cx0, cx1, cx2, cx3, cx4, cx5⟩ := cells6 Kx_20.out
      have zx := Kx_20.out.lt
      obtain ⟨cy0, cy1, cy2, cy3, cy4, cy5⟩ := cells6 Ky_20.out
      have zy := Ky_20.out.lt
      obtain ⟨cz0, cz1, cz2, cz3, cz4, cz5⟩ := cells6 Kz_20.out
      have zz := Kz_20.out.lt
      obtain ⟨cu0, cu1, cu2, cu3, cu4, cu5⟩ := cells6 Ku_20.out
      have zu := Ku_20.out.lt
      obtain ⟨cv0, cv1, cv2, cv3, cv4, cv5⟩ := cells6 Kv_20.out
      have zv := Kv_20.out.lt
      unfold pv arr6
      go_wp2_with fail
      clear cx0 cx1 cx2 cx3 cx4 cx5 zx cy0 cy1 cy2 cy3 cy4 cy5 zy cz0 cz1 cz2 cz3 cz4 cz5 zz cu0 cu1 cu2 cu3 cu4 cu5 zu cv0 cv1 cv2 cv3 cv4 cv5 zv
      have B21 := Lib.hid (B20.out.alloc B20.out.size (Obj.cells #[.int .u64 (wd (fe Mp (Wd ^ 6) Rb) 0), .int .u64 (wd (fe Mp (Wd ^ 6) Rb) 1), .int .u64 (wd (fe Mp (Wd ^ 6) Rb) 2), .int .u64 (wd (fe Mp (Wd ^ 6) Rb) 3), .int .u64 (wd (fe Mp (Wd ^ 6) Rb) 4), .int .u64 (wd (fe Mp (Wd ^ 6) Rb) 5)] 28))
      have Kx_21 := Lib.hid (Kx_20.out.alloc (Obj.cells #[.int .u64 (wd (fe Mp (Wd ^ 6) Rb) 0), .int .u64 (wd (fe Mp (Wd ^ 6) Rb) 1), .int .u64 (wd (fe Mp (Wd ^ 6) Rb) 2), .int .u64 (wd (fe Mp (Wd ^ 6) Rb) 3), .int .u64 (wd (fe Mp (Wd ^ 6) Rb) 4), .int .u64 (wd (fe Mp (Wd ^ 6) Rb) 5)] 28))
      have Ky_21 := Lib.hid (Ky_20.out.alloc (Obj.cells #[.int .u64 (wd (fe Mp (Wd ^ 6) Rb) 0), .int .u64 (wd (fe Mp (Wd ^ 6) Rb) 1), .int .u64 (wd (fe Mp (Wd ^ 6) Rb) 2), .int .u64 (wd (fe Mp (Wd ^ 6) Rb) 3), .int .u64 (wd (fe Mp (Wd ^ 6) Rb) 4), .int .u64 (wd (fe Mp (Wd ^ 6) Rb) 5)] 28))
      have Kz_21 := Lib.hid (Kz_20.out.alloc (Obj.cells #[.int .u64 (wd (fe Mp (Wd ^ 6) Rb) 0), .int .u64 (wd (fe Mp (Wd ^ 6) Rb) 1), .int .u64 (wd (fe Mp (Wd ^ 6) Rb) 2), .int .u64 (wd (fe Mp (Wd ^ 6) Rb) 3), .int .u64 (wd (fe Mp (Wd ^ 6) Rb) 4), .int .u64 (wd (fe Mp (Wd ^ 6) Rb) 5)] 28))
      have Ku_21 := Lib.hid (Ku_20.out.alloc (Obj.cells #[.int .u64 (wd (fe Mp (Wd ^ 6) Rb) 0), .int .u64 (wd (fe Mp (Wd ^ 6) Rb) 1), .int .u64 (wd (fe Mp (Wd ^ 6) Rb) 2), .int .u64 (wd (fe Mp (Wd ^ 6) Rb) 3), .int .u64 (wd (fe Mp (Wd ^ 6) Rb) 4), .int .u64 (wd (fe Mp (Wd ^ 6) Rb) 5)] 28))
      have Kv_21 := Lib.hid (Kv_20.out.alloc (Obj.cells #[.int .u64 (wd (fe Mp (Wd ^ 6) Rb) 0), .int .u64 (wd (fe Mp (Wd ^ 6) Rb) 1), .int .u64 (wd (fe Mp (Wd ^ 6) Rb) 2), .int .u64 (wd (fe Mp (Wd ^ 6) Rb) 3), .int .u64 (wd (fe Mp (Wd ^ 6) Rb) 4), .int .u64 (wd (fe Mp (Wd ^ 6) Rb) 5)] 28))
      have Ko_21 := Lib.hid (Blk.new w20 28 #[.int .u64 (wd (fe Mp (Wd ^ 6) Rb) 0), .int .u64 (wd (fe Mp (Wd ^ 6) Rb) 1), .int .u64 (wd (fe Mp (Wd ^ 6) Rb) 2), .int .u64 (wd (fe Mp (Wd ^ 6) Rb) 3), .int .u64 (wd (fe Mp (Wd ^ 6) Rb) 4), .int .u64 (wd (fe Mp (Wd ^ 6) Rb) 5)])
      obtain ⟨go, hgo⟩ : ∃ g, g = w20.heap.size := ⟨_, rfl⟩
      obtain ⟨w21, hw21⟩ : ∃ W, W = w20.alloc (Obj.cells #[.int .u64 (wd (fe Mp (Wd ^ 6) Rb) 0), .int .u64 (wd (fe Mp (Wd ^ 6) Rb) 1), .int .u64 (wd (fe Mp (Wd ^ 6) Rb) 2), .int .u64 (wd (fe Mp (Wd ^ 6) Rb) 3), .int .u64 (wd (fe Mp (Wd ^ 6) Rb) 4), .int .u64 (wd (fe Mp (Wd ^ 6) Rb) 5)] 28) := ⟨_, rfl⟩
      rw [← hgo] at Ko_21
      simp only [← hw21] at B21 Kx_21 Ky_21 Kz_21 Ku_21 Kv_21 Ko_21
      rw [← hw21, ← hgo]
      clear hw21 hgo B20 Kx_20 Ky_20 Kz_20 Ku_20 Kv_20
      obtain ⟨cx0, cx1, cx2, cx3, cx4, cx5⟩ := cells6 Kx_21.out
      have zx := Kx_21.out.lt
      obtain ⟨cy0, cy1, cy2, cy3, cy4, cy5⟩ := cells6 Ky_21.out
      have zy := Ky_21.out.lt
      obtain ⟨cz0, cz1, cz2, cz3, cz4, cz5⟩ := cells6 Kz_21.out
      have zz := Kz_21.out.lt
      obtain ⟨cu0, cu1, cu2, cu3, cu4, cu5⟩ := cells6 Ku_21.out
      have zu := Ku_21.out.lt
      obtain ⟨cv0, cv1, cv2, cv3, cv4, cv5⟩ := cells6 Kv_21.out
      have zv := Kv_21.out.lt
      obtain ⟨co0, co1, co2, co3, co4, co5⟩ := cells6 Ko_21.out
      have zo := Ko_21.out.lt
      refine (fp_zero X0 _).mono ?_
      rintro e w22 ⟨rfl, hb⟩
      clear cx0 cx1 cx2 cx3 cx4 cx5 zx cy0 cy1 cy2 cy3 cy4 cy5 zy cz0 cz1 cz2 cz3 cz4 cz5 zz cu0 cu1 cu2 cu3 cu4 cu5 zu cv0 cv1 cv2 cv3 cv4 cv5 zv co0 co1 co2 co3 co4 co5 zo
      have B22 := Lib.hid (B21.out.trans (hb.mono B21.out.size))
      have Kx_22 := Lib.hid (Kx_21.out.keep hb)
      have Ky_22 := Lib.hid (Ky_21.out.keep hb)
      have Kz_22 := Lib.hid (Kz_21.out.keep hb)
      have Ku_22 := Lib.hid (Ku_21.out.keep hb)
      have Kv_22 := Lib.hid (Kv_21.out.keep hb)
      have Ko_22 := Lib.hid (Ko_21.out.keep hb)
      clear hb B21 Kx_21 Ky_21 Kz_21 Ku_21 Kv_21 Ko_21
      obtain ⟨cx0, cx1, cx2, cx3, cx4, cx5⟩ := cells6 Kx_22.out
      have zx := Kx_22.out.lt
      obtain ⟨cy0, cy1, cy2, cy3, cy4, cy5⟩ := cells6 Ky_22.out
      have zy := Ky_22.out.lt
      obtain ⟨cz0, cz1, cz2, cz3, cz4, cz5⟩ := cells6 Kz_22.out
      have zz := Kz_22.out.lt
      obtain ⟨cu0, cu1, cu2, cu3, cu4, cu5⟩ := cells6 Ku_22.out
      have zu := Ku_22.out.lt
      obtain ⟨cv0, cv1, cv2, cv3, cv4, cv5⟩ := cells6 Kv_22.out
      have zv := Kv_22.out.lt
      obtain ⟨co0, co1, co2, co3, co4, co5⟩ := cells6 Ko_22.out
      have zo := Ko_22.out.lt
      rw [ZX.out]
      go_wp2_with fail
      go_ret
      exact ⟨rfl, B22.out⟩
  by_cases zy : X1 % Mp = 0
  · have hy := zero_root X1 zy
    have hb := zero_root (X0 * X1) (by rw [← mem', zy, Int.mul_zero, Int.zero_emod])
    by_cases hx : X0 ^ Qp * X0 ^ Qp % Mp = X0 % Mp
    · skip
      obtain ⟨Rx, hRx⟩ : ∃ R, R = (X0) ^ Qp := ⟨_, rfl⟩
      have hs := fun W a b c => fp_sqrt_yes (X0) W a b c hx
      simp only [← hRx] at hs
      have S_x := Lib.hid hs
      clear hs hRx
      obtain ⟨Ry, hRy⟩ : ∃ R, R = (X1) ^ Qp := ⟨_, rfl⟩
      have hs := fun W a b c => fp_sqrt_yes (X1) W a b c hy
      simp only [← hRy] at hs
      have S_y := Lib.hid hs
      clear hs hRy
      obtain ⟨Rb, hRb⟩ : ∃ R, R = (X0 * X1) ^ Qp := ⟨_, rfl⟩
      have hs := fun W a b c => fp_sqrt_yes (X0 * X1) W a b c hb
      simp only [← hRb] at hs
      have S_b := Lib.hid hs
      clear hs hRb
      have ZX := Lib.hid (show decide (X0 % Mp = 0) = false by simpa using zx)
      have ZY := Lib.hid (show decide (X1 % Mp = 0) = true by simpa using zy)
      clear hb
      clear hx
      clear hy
      clear zx
      clear zy
      go_wp2_with fail
      refine (S_x.out _ (HG.out.keep B14.out) (HS.out.keep B14.out) (HQ.out.keep B14.out)).mono ?_
      rintro e w15 ⟨rfl, hb⟩
      clear cx0 cx1 cx2 cx3 cx4 cx5 zx cy0 cy1 cy2 cy3 cy4 cy5 zy cz0 cz1 cz2 cz3 cz4 cz5 zz
      have B15 := Lib.hid (B14.out.trans (hb.mono B14.out.size))
      have Kx_15 := Lib.hid (Kx_14.out.keep hb)
      have Ky_15 := Lib.hid (Ky_14.out.keep hb)
      have Kz_15 := Lib.hid (Kz_14.out.keep hb)
      clear hb B14 Kx_14 Ky_14 Kz_14
      obtain ⟨cx0, cx1, cx2, cx3, cx4, cx5⟩ := cells6 Kx_15.out
      have zx := Kx_15.out.lt
      obtain ⟨cy0, cy1, cy2, cy3, cy4, cy5⟩ := cells6 Ky_15.out
      have zy := Ky_15.out.lt
      obtain ⟨cz0, cz1, cz2, cz3, cz4, cz5⟩ := cells6 Kz_15.out
      have zz := Kz_15.out.lt
      unfold pv arr6
      go_wp2_with fail
      clear cx0 cx1 cx2 cx3 cx4 cx5 zx cy0 cy1 cy2 cy3 cy4 cy5 zy cz0 cz1 cz2 cz3 cz4 cz5 zz
      have B16 := Lib.hid (B15.out.alloc B15.out.size (Obj.cells #[.int .u64 (wd (fe Mp (Wd ^ 6) Rx) 0), .int .u64 (wd (fe Mp (Wd ^ 6) Rx) 1), .int .u64 (wd (fe Mp (Wd ^ 6) Rx) 2), .int .u64 (wd (fe Mp (Wd ^ 6) Rx) 3), .int .u64 (wd (fe Mp (Wd ^ 6) Rx) 4), .int .u64 (wd (fe Mp (Wd ^ 6) Rx) 5)] 28))
      have Kx_16 := Lib.hid (Kx_15.out.alloc (Obj.cells #[.int .u64 (wd (fe Mp (Wd ^ 6) Rx) 0), .int .u64 (wd (fe Mp (Wd ^ 6) Rx) 1), .int .u64 (wd (fe Mp (Wd ^ 6) Rx) 2), .int .u64 (wd (fe Mp (Wd ^ 6) Rx) 3), .int .u64 (wd (fe Mp (Wd ^ 6) Rx) 4), .int .u64 (wd (fe Mp (Wd ^ 6) Rx) 5)] 28))
      have Ky_16 := Lib.hid (Ky_15.out.alloc (Obj.cells #[.int .u64 (wd (fe Mp (Wd ^ 6) Rx) 0), .int .u64 (wd (fe Mp (Wd ^ 6) Rx) 1), .int .u64 (wd (fe Mp (Wd ^ 6) Rx) 2), .int .u64 (wd (fe Mp (Wd ^ 6) Rx) 3), .int .u64 (wd (fe Mp (Wd ^ 6) Rx) 4), .int .u64 (wd (fe Mp (Wd ^ 6) Rx) 5)] 28))
      have Kz_16 := Lib.hid (Kz_15.out.alloc (Obj.cells #[.int .u64 (wd (fe Mp (Wd ^ 6) Rx) 0), .int .u64 (wd (fe Mp (Wd ^ 6) Rx) 1), .int .u64 (wd (fe Mp (Wd ^ 6) Rx) 2), .int .u64 (wd (fe Mp (Wd ^ 6) Rx) 3), .int .u64 (wd (fe Mp (Wd ^ 6) Rx) 4), .int .u64 (wd (fe Mp (Wd ^ 6) Rx) 5)] 28))
      have Ku_16 := Lib.hid (Blk.new w15 28 #[.int .u64 (wd (fe Mp (Wd ^ 6) Rx) 0), .int .u64 (wd (fe Mp (Wd ^ 6) Rx) 1), .int .u64 (wd (fe Mp (Wd ^ 6) Rx) 2), .int .u64 (wd (fe Mp (Wd ^ 6) Rx) 3), .int .u64 (wd (fe Mp (Wd ^ 6) Rx) 4), .int .u64 (wd (fe Mp (Wd ^ 6) Rx) 5)])
      obtain ⟨gu, hgu⟩ : ∃ g, g = w15.heap.size := ⟨_, rfl⟩
      obtain ⟨w16, hw16⟩ : ∃ W, W = w15.alloc (Obj.cells #[.int .u64 (wd (fe Mp (Wd ^ 6) Rx) 0), .int .u64 (wd (fe Mp (Wd ^ 6) Rx) 1), .int .u64 (wd (fe Mp (Wd ^ 6) Rx) 2), .int .u64 (wd (fe Mp (Wd ^ 6) Rx) 3), .int .u64 (wd (fe Mp (Wd ^ 6) Rx) 4), .int .u64 (wd (fe Mp (Wd ^ 6) Rx) 5)] 28) := ⟨_, rfl⟩
      rw [← hgu] at Ku_16
      simp only [← hw16] at B16 Kx_16 Ky_16 Kz_16 Ku_16
      rw [← hw16, ← hgu]
      clear hw16 hgu B15 Kx_15 Ky_15 Kz_15
      obtain ⟨cx0, cx1, cx2, cx3, cx4, cx5⟩ := cells6 Kx_16.out
      have zx := Kx_16.out.lt
      obtain ⟨cy0, cy1, cy2, cy3, cy4, cy5⟩ := cells6 Ky_16.out
      have zy := Ky_16.out.lt
      obtain ⟨cz0, cz1, cz2, cz3, cz4, cz5⟩ := cells6 Kz_16.out
      have zz := Kz_16.out.lt
      obtain ⟨cu0, cu1, cu2, cu3, cu4, cu5⟩ := cells6 Ku_16.out
      have zu := Ku_16.out.lt
      refine (S_y.out _ (HG.out.keep B16.out) (HS.out.keep B16.out) (HQ.out.keep B16.out)).mono ?_
      rintro e w17 ⟨rfl, hb⟩
      clear cx0 cx1 cx2 cx3 cx4 cx5 zx cy0 cy1 cy2 cy3 cy4 cy5 zy cz0 cz1 cz2 cz3 cz4 cz5 zz cu0 cu1 cu2 cu3 cu4 cu5 zu
      have B17 := Lib.hid (B16.out.trans (hb.mono B16.out.size))
      have Kx_17 := Lib.hid (Kx_16.out.keep hb)
      have Ky_17 := Lib.hid (Ky_16.out.keep hb)
      have Kz_17 := Lib.hid (Kz_16.out.keep hb)
      have Ku_17 := Lib.hid (Ku_16.out.keep hb)
      clear hb B16 Kx_16 Ky_16 Kz_16 Ku_16
      obtain ⟨cx0, cx1, cx2, cx3, cx4, cx5⟩ := cells6 Kx_17.out
      have zx := Kx_17.out.lt
      obtain ⟨cy0, cy1, cy2, cy3, cy4, cy5⟩ := cells6 Ky_17.out
      have zy := Ky_17.out.lt
      obtain ⟨cz0, cz1, cz2, cz3, cz4, cz5⟩ := cells6 Kz_17.out
      have zz := Kz_17.out.lt
      obtain ⟨cu0, cu1, cu2, cu3, cu4, cu5⟩ := cells6 Ku_17.out
      have zu := Ku_17.out.lt
      unfold pv arr6
      go_wp2_with fail
      clear cx0 cx1 cx2 cx3 cx4 cx5 zx cy0 cy1 cy2 cy3 cy4 cy5 zy cz0 cz1 cz2 cz3 cz4 cz5 zz cu0 cu1 cu2 cu3 cu4 cu5 zu
      have B18 := Lib.hid (B17.out.alloc B17.out.size (Obj.cells #[.int .u64 (wd (fe Mp (Wd ^ 6) Ry) 0), .int .u64 (wd (fe Mp (Wd ^ 6) Ry) 1), .int .u64 (wd (fe Mp (Wd ^ 6) Ry) 2), .int .u64 (wd (fe Mp (Wd ^ 6) Ry) 3), .int .u64 (wd (fe Mp (Wd ^ 6) Ry) 4), .int .u64 (wd (fe Mp (Wd ^ 6) Ry) 5)] 28))
      have Kx_18 := Lib.hid (Kx_17.out.alloc (Obj.cells #[.int .u64 (wd (fe Mp (Wd ^ 6) Ry) 0), .int .u64 (wd (fe Mp (Wd ^ 6) Ry) 1), .int .u64 (wd (fe Mp (Wd ^ 6) Ry) 2), .int .u64 (wd (fe Mp (Wd ^ 6) Ry) 3), .int .u64 (wd (fe Mp (Wd ^ 6) Ry) 4), .int .u64 (wd (fe Mp (Wd ^ 6) Ry) 5)] 28))
      have Ky_18 := Lib.hid (Ky_17.out.alloc (Obj.cells #[.int .u64 (wd (fe Mp (Wd ^ 6) Ry) 0), .int .u64 (wd (fe Mp (Wd ^ 6) Ry) 1), .int .u64 (wd (fe Mp (Wd ^ 6) Ry) 2), .int .u64 (wd (fe Mp (Wd ^ 6) Ry) 3), .int .u64 (wd (fe Mp (Wd ^ 6) Ry) 4), .int .u64 (wd (fe Mp (Wd ^ 6) Ry) 5)] 28))
      have Kz_18 := Lib.hid (Kz_17.out.alloc (Obj.cells #[.int .u64 (wd (fe Mp (Wd ^ 6) Ry) 0), .int .u64 (wd (fe Mp (Wd ^ 6) Ry) 1), .int .u64 (wd (fe Mp (Wd ^ 6) Ry) 2), .int .u64 (wd (fe Mp (Wd ^ 6) Ry) 3), .int .u64 (wd (fe Mp (Wd ^ 6) Ry) 4), .int .u64 (wd (fe Mp (Wd ^ 6) Ry) 5)] 28))
      have Ku_18 := Lib.hid (Ku_17.out.alloc (Obj.cells #[.int .u64 (wd (fe Mp (Wd ^ 6) Ry) 0), .int .u64 (wd (fe Mp (Wd ^ 6) Ry) 1), .int .u64 (wd (fe Mp (Wd ^ 6) Ry) 2), .int .u64 (wd (fe Mp (Wd ^ 6) Ry) 3), .int .u64 (wd (fe Mp (Wd ^ 6) Ry) 4), .int .u64 (wd (fe Mp (Wd ^ 6) Ry) 5)] 28))
      have Kv_18 := Lib.hid (Blk.new w17 28 #[.int .u64 (wd (fe Mp (Wd ^ 6) Ry) 0), .int .u64 (wd (fe Mp (Wd ^ 6) Ry) 1), .int .u64 (wd (fe Mp (Wd ^ 6) Ry) 2), .int .u64 (wd (fe Mp (Wd ^ 6) Ry) 3), .int .u64 (wd (fe Mp (Wd ^ 6) Ry) 4), .int .u64 (wd (fe Mp (Wd ^ 6) Ry) 5)])
      obtain ⟨gv, hgv⟩ : ∃ g, g = w17.heap.size := ⟨_, rfl⟩
      obtain ⟨w18, hw18⟩ : ∃ W, W = w17.alloc (Obj.cells #[.int .u64 (wd (fe Mp (Wd ^ 6) Ry) 0), .int .u64 (wd (fe Mp (Wd ^ 6) Ry) 1), .int .u64 (wd (fe Mp (Wd ^ 6) Ry) 2), .int .u64 (wd (fe Mp (Wd ^ 6) Ry) 3), .int .u64 (wd (fe Mp (Wd ^ 6) Ry) 4), .int .u64 (wd (fe Mp (Wd ^ 6) Ry) 5)] 28) := ⟨_, rfl⟩
      rw [← hgv] at Kv_18
      simp only [← hw18] at B18 Kx_18 Ky_18 Kz_18 Ku_18 Kv_18
      rw [← hw18, ← hgv]
      clear hw18 hgv B17 Kx_17 Ky_17 Kz_17 Ku_17
      obtain ⟨cx0, cx1, cx2, cx3, cx4, cx5⟩ := cells6 Kx_18.out
      have zx := Kx_18.out.lt
      obtain ⟨cy0, cy1, cy2, cy3, cy4, cy5⟩ := cells6 Ky_18.out
      have zy := Ky_18.out.lt
      obtain ⟨cz0, cz1, cz2, cz3, cz4, cz5⟩ := cells6 Kz_18.out
      have zz := Kz_18.out.lt
      obtain ⟨cu0, cu1, cu2, cu3, cu4, cu5⟩ := cells6 Ku_18.out
      have zu := Ku_18.out.lt
      obtain ⟨cv0, cv1, cv2, cv3, cv4, cv5⟩ := cells6 Kv_18.out
      have zv := Kv_18.out.lt
      refine (fp_mul X0 X1 _ (HG.out.keep B18.out)).mono ?_
      rintro e w19 ⟨rfl, hb⟩
      clear cx0 cx1 cx2 cx3 cx4 cx5 zx cy0 cy1 cy2 cy3 cy4 cy5 zy cz0 cz1 cz2 cz3 cz4 cz5 zz cu0 cu1 cu2 cu3 cu4 cu5 zu cv0 cv1 cv2 cv3 cv4 cv5 zv
      have B19 := Lib.hid (B18.out.trans (hb.mono B18.out.size))
      have Kx_19 := Lib.hid (Kx_18.out.keep hb)
      have Ky_19 := Lib.hid (Ky_18.out.keep hb)
      have Kz_19 := Lib.hid (Kz_18.out.keep hb)
      have Ku_19 := Lib.hid (Ku_18.out.keep hb)
      have Kv_19 := Lib.hid (Kv_18.out.keep hb)
      clear hb B18 Kx_18 Ky_18 Kz_18 Ku_18 Kv_18
      obtain ⟨cx0, cx1, cx2, cx3, cx4, cx5⟩ := cells6 Kx_19.out
      have zx := Kx_19.out.lt
      obtain ⟨cy0, cy1, cy2, cy3, cy4, cy5⟩ := cells6 Ky_19.out
      have zy := Ky_19.out.lt
      obtain ⟨cz0, cz1, cz2, cz3, cz4, cz5⟩ := cells6 Kz_19.out
      have zz := Kz_19.out.lt
      obtain ⟨cu0, cu1, cu2, cu3, cu4, cu5⟩ := cells6 Ku_19.out
      have zu := Ku_19.out.lt
      obtain ⟨cv0, cv1, cv2, cv3, cv4, cv5⟩ := cells6 Kv_19.out
      have zv := Kv_19.out.lt
      go_wp2_with fail
      refine (S_b.out _ (HG.out.keep B19.out) (HS.out.keep B19.out) (HQ.out.keep B19.out)).mono ?_
      rintro e w20 ⟨rfl, hb⟩
      clear cx0 cx1 cx2 cx3 cx4 cx5 zx cy0 cy1 cy2 cy3 cy4 cy5 zy cz0 cz1 cz2 cz3 cz4 cz5 zz cu0 cu1 cu2 cu3 cu4 cu5 zu cv0 cv1 cv2 cv3 cv4 cv5 zv
      have B20 := Lib.hid (B19.out.trans (hb.mono B19.out.size))
      have Kx_20 := Lib.hid (Kx_19.out.keep hb)
      have Ky_20 := Lib.hid (Ky_19.out.keep hb)
      have Kz_20 := Lib.hid (Kz_19.out.keep hb)
      have Ku_20 := Lib.hid (Ku_19.out.keep hb)
      have Kv_20 := Lib.hid (Kv_19.out.keep hb)
      clear hb B19 Kx_19 Ky_19 Kz_19 Ku_19 Kv_19
      obtain ⟨cx0, cx1, cx2, cx3, cx4, cx5⟩ := cells6 Kx_20.out
      have zx := Kx_20.out.lt
      obtain ⟨cy0, cy1, cy2, cy3, cy4, cy5⟩ := cells6 Ky_20.out
      have zy := Ky_20.out.lt
      obtain ⟨cz0, cz1, cz2, cz3, cz4, cz5⟩ := cells6 Kz_20.out
      have zz := Kz_20.out.lt
      obtain ⟨cu0, cu1, cu2, cu3, cu4, cu5⟩ := cells6 Ku_20.out
      have zu := Ku_20.out.lt
      obtain ⟨cv0, cv1, cv2, cv3, cv4, cv5⟩ := cells6 Kv_20.out
      have zv := Kv_20.out.lt
      unfold pv arr6
      go_wp2_with fail
      clear cx0 cx1 cx2 cx3 cx4 cx5 zx cy0 cy1 cy2 cy3 cy4 cy5 zy cz0 cz1 cz2 cz3 cz4 cz5 zz cu0 cu1 cu2 cu3 cu4 cu5 zu cv0 cv1 cv2 cv3 cv4 cv5 zv
      have B21 := Lib.hid (B20.out.alloc B20.out.size (Obj.cells #[.int .u64 (wd (fe Mp (Wd ^ 6) Rb) 0), .int .u64 (wd (fe Mp (Wd ^ 6) Rb) 1), .int .u64 (wd (fe Mp (Wd ^ 6) Rb) 2), .int .u64 (wd (fe Mp (Wd ^ 6) Rb) 3), .int .u64 (wd (fe Mp (Wd ^ 6) Rb) 4), .int .u64 (wd (fe Mp (Wd ^ 6) Rb) 5)] 28))
      have Kx_21 := Lib.hid (Kx_20.out.alloc (Obj.cells #[.int .u64 (wd (fe Mp (Wd ^ 6) Rb) 0), .int .u64 (wd (fe Mp (Wd ^ 6) Rb) 1), .int .u64 (wd (fe Mp (Wd ^ 6) Rb) 2), .int .u64 (wd (fe Mp (Wd ^ 6) Rb) 3), .int .u64 (wd (fe Mp (Wd ^ 6) Rb) 4), .int .u64 (wd (fe Mp (Wd ^ 6) Rb) 5)] 28))
      have Ky_21 := Lib.hid (Ky_20.out.alloc (Obj.cells #[.int .u64 (wd (fe Mp (Wd ^ 6) Rb) 0), .int .u64 (wd (fe Mp (Wd ^ 6) Rb) 1), .int .u64 (wd (fe Mp (Wd ^ 6) Rb) 2), .int .u64 (wd (fe Mp (Wd ^ 6) Rb) 3), .int .u64 (wd (fe Mp (Wd ^ 6) Rb) 4), .int .u64 (wd (fe Mp (Wd ^ 6) Rb) 5)] 28))
      have Kz_21 := Lib.hid (Kz_20.out.alloc (Obj.cells #[.int .u64 (wd (fe Mp (Wd ^ 6) Rb) 0), .int .u64 (wd (fe Mp (Wd ^ 6) Rb) 1), .int .u64 (wd (fe Mp (Wd ^ 6) Rb) 2), .int .u64 (wd (fe Mp (Wd ^ 6) Rb) 3), .int .u64 (wd (fe Mp (Wd ^ 6) Rb) 4), .int .u64 (wd (fe Mp (Wd ^ 6) Rb) 5)] 28))
      have Ku_21 := Lib.hid (Ku_20.out.alloc (Obj.cells #[.int .u64 (wd (fe Mp (Wd ^ 6) Rb) 0), .int .u64 (wd (fe Mp (Wd ^ 6) Rb) 1), .int .u64 (wd (fe Mp (Wd ^ 6) Rb) 2), .int .u64 (wd (fe Mp (Wd ^ 6) Rb) 3), .int .u64 (wd (fe Mp (Wd ^ 6) Rb) 4), .int .u64 (wd (fe Mp (Wd ^ 6) Rb) 5)] 28))
      have Kv_21 := Lib.hid (Kv_20.out.alloc (Obj.cells #[.int .u64 (wd (fe Mp (Wd ^ 6) Rb) 0), .int .u64 (wd (fe Mp (Wd ^ 6) Rb) 1), .int .u64 (wd (fe Mp (Wd ^ 6) Rb) 2), .int .u64 (wd (fe Mp (Wd ^ 6) Rb) 3), .int .u64 (wd (fe Mp (Wd ^ 6) Rb) 4), .int .u64 (wd (fe Mp (Wd ^ 6) Rb) 5)] 28))
      have Ko_21 := Lib.hid (Blk.new w20 28 #[.int .u64 (wd (fe Mp (Wd ^ 6) Rb) 0), .int .u64 (wd (fe Mp (Wd ^ 6) Rb) 1), .int .u64 (wd (fe Mp (Wd ^ 6) Rb) 2), .int .u64 (wd (fe Mp (Wd ^ 6) Rb) 3), .int .u64 (wd (fe Mp (Wd ^ 6) Rb) 4), .int .u64 (wd (fe Mp (Wd ^ 6) Rb) 5)])
      obtain ⟨go, hgo⟩ : ∃ g, g = w20.heap.size := ⟨_, rfl⟩
      obtain ⟨w21, hw21⟩ : ∃ W, W = w20.alloc (Obj.cells #[.int .u64 (wd (fe Mp (Wd ^ 6) Rb) 0), .int .u64 (wd (fe Mp (Wd ^ 6) Rb) 1), .int .u64 (wd (fe Mp (Wd ^ 6) Rb) 2), .int .u64 (wd (fe Mp (Wd ^ 6) Rb) 3), .int .u64 (wd (fe Mp (Wd ^ 6) Rb) 4), .int .u64 (wd (fe Mp (Wd ^ 6) Rb) 5)] 28) := ⟨_, rfl⟩
      rw [← hgo] at Ko_21
      simp only [← hw21] at B21 Kx_21 Ky_21 Kz_21 Ku_21 Kv_21 Ko_21
      rw [← hw21, ← hgo]
      clear hw21 hgo B20 Kx_20 Ky_20 Kz_20 Ku_20 Kv_20
      obtain ⟨cx0, cx1, cx2, cx3, cx4, cx5⟩ := cells6 Kx_21.out
      have zx := Kx_21.out.lt
      obtain ⟨cy0, cy1, cy2, cy3, cy4, cy5⟩ := cells6 Ky_21.out
      have zy := Ky_21.out.lt
      obtain ⟨cz0, cz1, cz2, cz3, cz4, cz5⟩ := cells6 Kz_21.out
      have zz := Kz_21.out.lt
      obtain ⟨cu0, cu1, cu2, cu3, cu4, cu5⟩ := cells6 Ku_21.out
      have zu := Ku_21.out.lt
      obtain ⟨cv0, cv1, cv2, cv3, cv4, cv5⟩ := cells6 Kv_21.out
      have zv := Kv_21.out.lt
      obtain ⟨co0, co1, co2, co3, co4, co5⟩ := cells6 Ko_21.out
      have zo := Ko_21.out.lt
      refine (fp_zero X0 _).mono ?_
      rintro e w22 ⟨rfl, hb⟩
      clear cx0 cx1 cx2 cx3 cx4 cx5 zx cy0 cy1 cy2 cy3 cy4 cy5 zy cz0 cz1 cz2 cz3 cz4 cz5 zz cu0 cu1 cu2 cu3 cu4 cu5 zu cv0 cv1 cv2 cv3 cv4 cv5 zv co0 co1 co2 co3 co4 co5 zo
      have B22 := Lib.hid (B21.out.trans (hb.mono B21.out.size))
      have Kx_22 := Lib.hid (Kx_21.out.keep hb)
      have Ky_22 := Lib.hid (Ky_21.out.keep hb)
      have Kz_22 := Lib.hid (Kz_21.out.keep hb)
      have Ku_22 := Lib.hid (Ku_21.out.keep hb)
      have Kv_22 := Lib.hid (Kv_21.out.keep hb)
      have Ko_22 := Lib.hid (Ko_21.out.keep hb)
      clear hb B21 Kx_21 Ky_21 Kz_21 Ku_21 Kv_21 Ko_21
      obtain ⟨cx0, cx1, cx2, cx3, cx4, cx5⟩ := cells6 Kx_22.out
      have zx := Kx_22.out.lt
      obtain ⟨cy0, cy1, cy2, cy3, cy4, cy5⟩ := cells6 Ky_22.out
      have zy := Ky_22.out.lt
      obtain ⟨cz0, cz1, cz2, cz3, cz4, cz5⟩ := cells6 Kz_22.out
      have zz := Kz_22.out.lt
      obtain ⟨cu0, cu1, cu2, cu3, cu4, cu5⟩ := cells6 Ku_22.out
      have zu := Ku_22.out.lt
      obtain ⟨cv0, cv1, cv2, cv3, cv4, cv5⟩ := cells6 Kv_22.out
      have zv := Kv_22.out.lt
      obtain ⟨co0, co1, co2, co3, co4, co5⟩ := cells6 Ko_22.out
      have zo := Ko_22.out.lt
      rw [ZX.out]
      go_wp2_with fail
      refine (fp_zero X1 _).mono ?_
      rintro e w23 ⟨rfl, hb⟩
      clear cx0 cx1 cx2 cx3 cx4 cx5 zx cy0 cy1 cy2 cy3 cy4 cy5 zy cz0 cz1 cz2 cz3 cz4 cz5 zz cu0 cu1 cu2 cu3 cu4 cu5 zu cv0 cv1 cv2 cv3 cv4 cv5 zv co0 co1 co2 co3 co4 co5 zo
      have B23 := Lib.hid (B22.out.trans (hb.mono B22.out.size))
      have Kx_23 := Lib.hid (Kx_22.out.keep hb)
      have Ky_23 := Lib.hid (Ky_22.out.keep hb)
      have Kz_23 := Lib.hid (Kz_22.out.keep hb)
      have Ku_23 := Lib.hid (Ku_22.out.keep hb)
      have Kv_23 := Lib.hid (Kv_22.out.keep hb)
      have Ko_23 := Lib.hid (Ko_22.out.keep hb)
      clear hb B22 Kx_22 Ky_22 Kz_22 Ku_22 Kv_22 Ko_22
      obtain ⟨cx0, cx1, cx2, cx3, cx4, cx5⟩ := cells6 Kx_23.out
      have zx := Kx_23.out.lt
      obtain ⟨cy0, cy1, cy2, cy3, cy4, cy5⟩ := cells6 Ky_23.out
      have zy := Ky_23.out.lt
      obtain ⟨cz0, cz1, cz2, cz3, cz4, cz5⟩ := cells6 Kz_23.out
      have zz := Kz_23.out.lt
      obtain ⟨cu0, cu1, cu2, cu3, cu4, cu5⟩ := cells6 Ku_23.out
      have zu := Ku_23.out.lt
      obtain ⟨cv0, cv1, cv2, cv3, cv4, cv5⟩ := cells6 Kv_23.out
      have zv := Kv_23.out.lt
      obtain ⟨co0, co1, co2, co3, co4, co5⟩ := cells6 Ko_23.out
      have zo := Ko_23.out.lt
      rw [ZY.out]
      go_wp2_with fail
      go_ret
      exact ⟨rfl, B23.out⟩
    · skip
      have hs := fun W a b c => fp_sqrt_no (X0) W a b c hx
      simp only [pv_zero] at hs
      have S_x := Lib.hid hs
      clear hs
      obtain ⟨Ry, hRy⟩ : ∃ R, R = (X1) ^ Qp := ⟨_, rfl⟩
      have hs := fun W a b c => fp_sqrt_yes (X1) W a b c hy
      simp only [← hRy] at hs
      have S_y := Lib.hid hs
      clear hs hRy
      obtain ⟨Rb, hRb⟩ : ∃ R, R = (X0 * X1) ^ Qp := ⟨_, rfl⟩
      have hs := fun W a b c => fp_sqrt_yes (X0 * X1) W a b c hb
      simp only [← hRb] at hs
      have S_b := Lib.hid hs
      clear hs hRb
      have ZX := Lib.hid (show decide (X0 % Mp = 0) = false by simpa using zx)
      have ZY := Lib.hid (show decide (X1 % Mp = 0) = true by simpa using zy)
      clear hb
      clear hx
      clear hy
      clear zx
      clear zy
      go_wp2_with fail
      refine (S_x.out _ (HG.out.keep B14.out) (HS.out.keep B14.out) (HQ.out.keep B14.out)).mono ?_
      rintro e w15 ⟨rfl, hb⟩
      clear cx0 cx1 cx2 cx3 cx4 cx5 zx cy0 cy1 cy2 cy3 cy4 cy5 zy cz0 cz1 cz2 cz3 cz4 cz5 zz
      have B15 := Lib.hid (B14.out.trans (hb.mono B14.out.size))
      have Kx_15 := Lib.hid (Kx_14.out.keep hb)
      have Ky_15 := Lib.hid (Ky_14.out.keep hb)
      have Kz_15 := Lib.hid (Kz_14.out.keep hb)
      clear hb B14 Kx_14 Ky_14 Kz_14
      obtain ⟨cx0, cx1, cx2, cx3, cx4, cx5⟩ := cells6 Kx_15.out
      have zx := Kx_15.out.lt
      obtain ⟨cy0, cy1, cy2, cy3, cy4, cy5⟩ := cells6 Ky_15.out
      have zy := Ky_15.out.lt
      obtain ⟨cz0, cz1, cz2, cz3, cz4, cz5⟩ := cells6 Kz_15.out
      have zz := Kz_15.out.lt
      unfold pv arr6
      go_wp2_with fail
      clear cx0 cx1 cx2 cx3 cx4 cx5 zx cy0 cy1 cy2 cy3 cy4 cy5 zy cz0 cz1 cz2 cz3 cz4 cz5 zz
      have B16 := Lib.hid (B15.out.alloc B15.out.size (Obj.cells #[.int .u64 (wd (fe Mp (Wd ^ 6) 0) 0), .int .u64 (wd (fe Mp (Wd ^ 6) 0) 1), .int .u64 (wd (fe Mp (Wd ^ 6) 0) 2), .int .u64 (wd (fe Mp (Wd ^ 6) 0) 3), .int .u64 (wd (fe Mp (Wd ^ 6) 0) 4), .int .u64 (wd (fe Mp (Wd ^ 6) 0) 5)] 28))
      have Kx_16 := Lib.hid (Kx_15.out.alloc (Obj.cells #[.int .u64 (wd (fe Mp (Wd ^ 6) 0) 0), .int .u64 (wd (fe Mp (Wd ^ 6) 0) 1), .int .u64 (wd (fe Mp (Wd ^ 6) 0) 2), .int .u64 (wd (fe Mp (Wd ^ 6) 0) 3), .int .u64 (wd (fe Mp (Wd ^ 6) 0) 4), .int .u64 (wd (fe Mp (Wd ^ 6) 0) 5)] 28))
      have Ky_16 := Lib.hid (Ky_15.out.alloc (Obj.cells #[.int .u64 (wd (fe Mp (Wd ^ 6) 0) 0), .int .u64 (wd (fe Mp (Wd ^ 6) 0) 1), .int .u64 (wd (fe Mp (Wd ^ 6) 0) 2), .int .u64 (wd (fe Mp (Wd ^ 6) 0) 3), .int .u64 (wd (fe Mp (Wd ^ 6) 0) 4), .int .u64 (wd (fe Mp (Wd ^ 6) 0) 5)] 28))
      have Kz_16 := Lib.hid (Kz_15.out.alloc (Obj.cells #[.int .u64 (wd (fe Mp (Wd ^ 6) 0) 0), .int .u64 (wd (fe Mp (Wd ^ 6) 0) 1), .int .u64 (wd (fe Mp (Wd ^ 6) 0) 2), .int .u64 (wd (fe Mp (Wd ^ 6) 0) 3), .int .u64 (wd (fe Mp (Wd ^ 6) 0) 4), .int .u64 (wd (fe Mp (Wd ^ 6) 0) 5)] 28))
      have Ku_16 := Lib.hid (Blk.new w15 28 #[.int .u64 (wd (fe Mp (Wd ^ 6) 0) 0), .int .u64 (wd (fe Mp (Wd ^ 6) 0) 1), .int .u64 (wd (fe Mp (Wd ^ 6) 0) 2), .int .u64 (wd (fe Mp (Wd ^ 6) 0) 3), .int .u64 (wd (fe Mp (Wd ^ 6) 0) 4), .int .u64 (wd (fe Mp (Wd ^ 6) 0) 5)])
      obtain ⟨gu, hgu⟩ : ∃ g, g = w15.heap.size := ⟨_, rfl⟩
      obtain ⟨w16, hw16⟩ : ∃ W, W = w15.alloc (Obj.cells #[.int .u64 (wd (fe Mp (Wd ^ 6) 0) 0), .int .u64 (wd (fe Mp (Wd ^ 6) 0) 1), .int .u64 (wd (fe Mp (Wd ^ 6) 0) 2), .int .u64 (wd (fe Mp (Wd ^ 6) 0) 3), .int .u64 (wd (fe Mp (Wd ^ 6) 0) 4), .int .u64 (wd (fe Mp (Wd ^ 6) 0) 5)] 28) := ⟨_, rfl⟩
      rw [← hgu] at Ku_16
      simp only [← hw16] at B16 Kx_16 Ky_16 Kz_16 Ku_16
      rw [← hw16, ← hgu]
      clear hw16 hgu B15 Kx_15 Ky_15 Kz_15
      obtain ⟨cx0, cx1, cx2, cx3, cx4, cx5⟩ := cells6 Kx_16.out
      have zx := Kx_16.out.lt
      obtain ⟨cy0, cy1, cy2, cy3, cy4, cy5⟩ := cells6 Ky_16.out
      have zy := Ky_16.out.lt
      obtain ⟨cz0, cz1, cz2, cz3, cz4, cz5⟩ := cells6 Kz_16.out
      have zz := Kz_16.out.lt
      obtain ⟨cu0, cu1, cu2, cu3, cu4, cu5⟩ := cells6 Ku_16.out
      have zu := Ku_16.out.lt
      refine (S_y.out _ (HG.out.keep B16.out) (HS.out.keep B16.out) (HQ.out.keep B16.out)).mono ?_
      rintro e w17 ⟨rfl, hb⟩
      clear cx0 cx1 cx2 cx3 cx4 cx5 zx cy0 cy1 cy2 cy3 cy4 cy5 zy cz0 cz1 cz2 cz3 cz4 cz5 zz cu0 cu1 cu2 cu3 cu4 cu5 zu
      have B17 := Lib.hid (B16.out.trans (hb.mono B16.out.size))
      have Kx_17 := Lib.hid (Kx_16.out.keep hb)
      have Ky_17 := Lib.hid (Ky_16.out.keep hb)
      have Kz_17 := Lib.hid (Kz_16.out.keep hb)
      have Ku_17 := Lib.hid (Ku_16.out.keep hb)
      clear hb B16 Kx_16 Ky_16 Kz_16 Ku_16
      obtain ⟨cx0, cx1, cx2, cx3, cx4, cx5⟩ := cells6 Kx_17.out
      have zx := Kx_17.out.lt
      obtain ⟨cy0, cy1, cy2, cy3, cy4, cy5⟩ := cells6 Ky_17.out
      have zy := Ky_17.out.lt
      obtain ⟨cz0, cz1, cz2, cz3, cz4, cz5⟩ := cells6 Kz_17.out
      have zz := Kz_17.out.lt
      obtain ⟨cu0, cu1, cu2, cu3, cu4, cu5⟩ := cells6 Ku_17.out
      have zu := Ku_17.out.lt
      unfold pv arr6
      go_wp2_with fail
      clear cx0 cx1 cx2 cx3 cx4 cx5 zx cy0 cy1 cy2 cy3 cy4 cy5 zy cz0 cz1 cz2 cz3 cz4 cz5 zz cu0 cu1 cu2 cu3 cu4 cu5 zu
      have B18 := Lib.hid (B17.out.alloc B17.out.size (Obj.cells #[.int .u64 (wd (fe Mp (Wd ^ 6) Ry) 0), .int .u64 (wd (fe Mp (Wd ^ 6) Ry) 1), .int .u64 (wd (fe Mp (Wd ^ 6) Ry) 2), .int .u64 (wd (fe Mp (Wd ^ 6) Ry) 3), .int .u64 (wd (fe Mp (Wd ^ 6) Ry) 4), .int .u64 (wd (fe Mp (Wd ^ 6) Ry) 5)] 28))
      have Kx_18 := Lib.hid (Kx_17.out.alloc (Obj.cells #[.int .u64 (wd (fe Mp (Wd ^ 6) Ry) 0), .int .u64 (wd (fe Mp (Wd ^ 6) Ry) 1), .int .u64 (wd (fe Mp (Wd ^ 6) Ry) 2), .int .u64 (wd (fe Mp (Wd ^ 6) Ry) 3), .int .u64 (wd (fe Mp (Wd ^ 6) Ry) 4), .int .u64 (wd (fe Mp (Wd ^ 6) Ry) 5)] 28))
      have Ky_18 := Lib.hid (Ky_17.out.alloc (Obj.cells #[.int .u64 (wd (fe Mp (Wd ^ 6) Ry) 0), .int .u64 (wd (fe Mp (Wd ^ 6) Ry) 1), .int .u64 (wd (fe Mp (Wd ^ 6) Ry) 2), .int .u64 (wd (fe Mp (Wd ^ 6) Ry) 3), .int .u64 (wd (fe Mp (Wd ^ 6) Ry) 4), .int .u64 (wd (fe Mp (Wd ^ 6) Ry) 5)] 28))
      have Kz_18 := Lib.hid (Kz_17.out.alloc (Obj.cells #[.int .u64 (wd (fe Mp (Wd ^ 6) Ry) 0), .int .u64 (wd (fe Mp (Wd ^ 6) Ry) 1), .int .u64 (wd (fe Mp (Wd ^ 6) Ry) 2), .int .u64 (wd (fe Mp (Wd ^ 6) Ry) 3), .int .u64 (wd (fe Mp (Wd ^ 6) Ry) 4), .int .u64 (wd (fe Mp (Wd ^ 6) Ry) 5)] 28))
      have Ku_18 := Lib.hid (Ku_17.out.alloc (Obj.cells #[.int .u64 (wd (fe Mp (Wd ^ 6) Ry) 0), .int .u64 (wd (fe Mp (Wd ^ 6) Ry) 1), .int .u64 (wd (fe Mp (Wd ^ 6) Ry) 2), .int .u64 (wd (fe Mp (Wd ^ 6) Ry) 3), .int .u64 (wd (fe Mp (Wd ^ 6) Ry) 4), .int .u64 (wd (fe Mp (Wd ^ 6) Ry) 5)] 28))
      have Kv_18 := Lib.hid (Blk.new w17 28 #[.int .u64 (wd (fe Mp (Wd ^ 6) Ry) 0), .int .u64 (wd (fe Mp (Wd ^ 6) Ry) 1), .int .u64 (wd (fe Mp (Wd ^ 6) Ry) 2), .int .u64 (wd (fe Mp (Wd ^ 6) Ry) 3), .int .u64 (wd (fe Mp (Wd ^ 6) Ry) 4), .int .u64 (wd (fe Mp (Wd ^ 6) Ry) 5)])
      obtain ⟨gv, hgv⟩ : ∃ g, g = w17.heap.size := ⟨_, rfl⟩
      obtain ⟨w18, hw18⟩ : ∃ W, W = w17.alloc (Obj.cells #[.int .u64 (wd (fe Mp (Wd ^ 6) Ry) 0), .int .u64 (wd (fe Mp (Wd ^ 6) Ry) 1), .int .u64 (wd (fe Mp (Wd ^ 6) Ry) 2), .int .u64 (wd (fe Mp (Wd ^ 6) Ry) 3), .int .u64 (wd (fe Mp (Wd ^ 6) Ry) 4), .int .u64 (wd (fe Mp (Wd ^ 6) Ry) 5)] 28) := ⟨_, rfl⟩
      rw [← hgv] at Kv_18
      simp only [← hw18] at B18 Kx_18 Ky_18 Kz_18 Ku_18 Kv_18
      rw [← hw18, ← hgv]
      clear hw18 hgv B17 Kx_17 Ky_17 Kz_17 Ku_17
      obtain ⟨cx0, cx1, cx2, cx3, cx4, cx5⟩ := cells6 Kx_18.out
      have zx := Kx_18.out.lt
      obtain ⟨cy0, cy1, cy2, cy3, cy4, cy5⟩ := cells6 Ky_18.out
      have zy := Ky_18.out.lt
      obtain ⟨cz0, cz1, cz2, cz3, cz4, cz5⟩ := cells6 Kz_18.out
      have zz := Kz_18.out.lt
      obtain ⟨cu0, cu1, cu2, cu3, cu4, cu5⟩ := cells6 Ku_18.out
      have zu := Ku_18.out.lt
      obtain ⟨cv0, cv1, cv2, cv3, cv4, cv5⟩ := cells6 Kv_18.out
      have zv := Kv_18.out.lt
      refine (fp_mul X0 X1 _ (HG.out.keep B18.out)).mono ?_
      rintro e w19 ⟨rfl, hb⟩
      clear cx0 cx1 cx2 cx3 cx4 cx5 zx cy0 cy1 cy2 cy3 cy4 cy5 zy cz0 cz1 cz2 cz3 cz4 cz5 zz cu0 cu1 cu2 cu3 cu4 cu5 zu cv0 cv1 cv2 cv3 cv4 cv5 zv
      have B19 := Lib.hid (B18.out.trans (hb.mono B18.out.size))
      have Kx_19 := Lib.hid (Kx_18.out.keep hb)
      have Ky_19 := Lib.hid (Ky_18.out.keep hb)
      have Kz_19 := Lib.hid (Kz_18.out.keep hb)
      have Ku_19 := Lib.hid (Ku_18.out.keep hb)
      have Kv_19 := Lib.hid (Kv_18.out.keep hb)
      clear hb B18 Kx_18 Ky_18 Kz_18 Ku_18 Kv_18
      obtain ⟨cx0, cx1, cx2, cx3, cx4, cx5⟩ := cells6 Kx_19.out
      have zx := Kx_19.out.lt
      obtain ⟨cy0, cy1, cy2, cy3, cy4, cy5⟩ := cells6 Ky_19.out
      have zy := Ky_19.out.lt
      obtain ⟨cz0, cz1, cz2, cz3, cz4, cz5⟩ := cells6 Kz_19.out
      have zz := Kz_19.out.lt
      obtain ⟨cu0, cu1, cu2, cu3, cu4, cu5⟩ := cells6 Ku_19.out
      have zu := Ku_19.out.lt
      obtain ⟨cv0, cv1, cv2, cv3, cv4, cv5⟩ := cells6 Kv_19.out
      have zv := Kv_19.out.lt
      go_wp2_with fail
      refine (S_b.out _ (HG.out.keep B19.out) (HS.out.keep B19.out) (HQ.out.keep B19.out)).mono ?_
      rintro e w20 ⟨rfl, hb⟩
      clear cx0 cx1 cx2 cx3 cx4 cx5 zx cy0 cy1 cy2 cy3 cy4 cy5 zy cz0 cz1 cz2 cz3 cz4 cz5 zz cu0 cu1 cu2 cu3 cu4 cu5 zu cv0 cv1 cv2 cv3 cv4 cv5 zv
      have B20 := Lib.hid (B19.out.trans (hb.mono B19.out.size))
      have Kx_20 := Lib.hid (Kx_19.out.keep hb)
      have Ky_20 := Lib.hid (Ky_19.out.keep hb)
      have Kz_20 := Lib.hid (Kz_19.out.keep hb)
      have Ku_20 := Lib.hid (Ku_19.out.keep hb)
      have Kv_20 := Lib.hid (Kv_19.out.keep hb)
      clear hb B19 Kx_19 Ky_19 Kz_19 Ku_19 Kv_19
      obtain ⟨cx0, cx1, cx2, cx3, cx4, cx5⟩ := cells6 Kx_20.out
      have zx := Kx_20.out.lt
      obtain ⟨cy0, cy1, cy2, cy3, cy4, cy5⟩ := cells6 Ky_20.out
      have zy := Ky_20.out.lt
      obtain ⟨cz0, cz1, cz2, cz3, cz4, cz5⟩ := cells6 Kz_20.out
      have zz := Kz_20.out.lt
      obtain ⟨cu0, cu1, cu2, cu3, cu4, cu5⟩ := cells6 Ku_20.out
      have zu := Ku_20.out.lt
      obtain ⟨cv0, cv1, cv2, cv3, cv4, cv5⟩ := cells6 Kv_20.out
      have zv := Kv_20.out.lt
      unfold pv arr6
      go_wp2_with fail
      clear cx0 cx1 cx2 cx3 cx4 cx5 zx cy0 cy1 cy2 cy3 cy4 cy5 zy cz0 cz1 cz2 cz3 cz4 cz5 zz cu0 cu1 cu2 cu3 cu4 cu5 zu cv0 cv1 cv2 cv3 cv4 cv5 zv
      have B21 := Lib.hid (B20.out.alloc B20.out.size (Obj.cells #[.int .u64 (wd (fe Mp (Wd ^ 6) Rb) 0), .int .u64 (wd (fe Mp (Wd ^ 6) Rb) 1), .int .u64 (wd (fe Mp (Wd ^ 6) Rb) 2), .int .u64 (wd (fe Mp (Wd ^ 6) Rb) 3), .int .u64 (wd (fe Mp (Wd ^ 6) Rb) 4), .int .u64 (wd (fe Mp (Wd ^ 6) Rb) 5)] 28))
      have Kx_21 := Lib.hid (Kx_20.out.alloc (Obj.cells #[.int .u64 (wd (fe Mp (Wd ^ 6) Rb) 0), .int .u64 (wd (fe Mp (Wd ^ 6) Rb) 1), .int .u64 (wd (fe Mp (Wd ^ 6) Rb) 2), .int .u64 (wd (fe Mp (Wd ^ 6) Rb) 3), .int .u64 (wd (fe Mp (Wd ^ 6) Rb) 4), .int .u64 (wd (fe Mp (Wd ^ 6) Rb) 5)] 28))
      have Ky_21 := Lib.hid (Ky_20.out.alloc (Obj.cells #[.int .u64 (wd (fe Mp (Wd ^ 6) Rb) 0), .int .u64 (wd (fe Mp (Wd ^ 6) Rb) 1), .int .u64 (wd (fe Mp (Wd ^ 6) Rb) 2), .int .u64 (wd (fe Mp (Wd ^ 6) Rb) 3), .int .u64 (wd (fe Mp (Wd ^ 6) Rb) 4), .int .u64 (wd (fe Mp (Wd ^ 6) Rb) 5)] 28))
      have Kz_21 := Lib.hid (Kz_20.out.alloc (Obj.cells #[.int .u64 (wd (fe Mp (Wd ^ 6) Rb) 0), .int .u64 (wd (fe Mp (Wd ^ 6) Rb) 1), .int .u64 (wd (fe Mp (Wd ^ 6) Rb) 2), .int .u64 (wd (fe Mp (Wd ^ 6) Rb) 3), .int .u64 (wd (fe Mp (Wd ^ 6) Rb) 4), .int .u64 (wd (fe Mp (Wd ^ 6) Rb) 5)] 28))
      have Ku_21 := Lib.hid (Ku_20.out.alloc (Obj.cells #[.int .u64 (wd (fe Mp (Wd ^ 6) Rb) 0), .int .u64 (wd (fe Mp (Wd ^ 6) Rb) 1), .int .u64 (wd (fe Mp (Wd ^ 6) Rb) 2), .int .u64 (wd (fe Mp (Wd ^ 6) Rb) 3), .int .u64 (wd (fe Mp (Wd ^ 6) Rb) 4), .int .u64 (wd (fe Mp (Wd ^ 6) Rb) 5)] 28))
      have Kv_21 := Lib.hid (Kv_20.out.alloc (Obj.cells #[.int .u64 (wd (fe Mp (Wd ^ 6) Rb) 0), .int .u64 (wd (fe Mp (Wd ^ 6) Rb) 1), .int .u64 (wd (fe Mp (Wd ^ 6) Rb) 2), .int .u64 (wd (fe Mp (Wd ^ 6) Rb) 3), .int .u64 (wd (fe Mp (Wd ^ 6) Rb) 4), .int .u64 (wd (fe Mp (Wd ^ 6) Rb) 5)] 28))
      have Ko_21 := Lib.hid (Blk.new w20 28 #[.int .u64 (wd (fe Mp (Wd ^ 6) Rb) 0), .int .u64 (wd (fe Mp (Wd ^ 6) Rb) 1), .int .u64 (wd (fe Mp (Wd ^ 6) Rb) 2), .int .u64 (wd (fe Mp (Wd ^ 6) Rb) 3), .int .u64 (wd (fe Mp (Wd ^ 6) Rb) 4), .int .u64 (wd (fe Mp (Wd ^ 6) Rb) 5)])
      obtain ⟨go, hgo⟩ : ∃ g, g = w20.heap.size := ⟨_, rfl⟩
      obtain ⟨w21, hw21⟩ : ∃ W, W = w20.alloc (Obj.cells #[.int .u64 (wd (fe Mp (Wd ^ 6) Rb) 0), .int .u64 (wd (fe Mp (Wd ^ 6) Rb) 1), .int .u64 (wd (fe Mp (Wd ^ 6) Rb) 2), .int .u64 (wd (fe Mp (Wd ^ 6) Rb) 3), .int .u64 (wd (fe Mp (Wd ^ 6) Rb) 4), .int .u64 (wd (fe Mp (Wd ^ 6) Rb) 5)] 28) := ⟨_, rfl⟩
      rw [← hgo] at Ko_21
      simp only [← hw21] at B21 Kx_21 Ky_21 Kz_21 Ku_21 Kv_21 Ko_21
      rw [← hw21, ← hgo]
      clear hw21 hgo B20 Kx_20 Ky_20 Kz_20 Ku_20 Kv_20
      obtain ⟨cx0, cx1, cx2, cx3, cx4, cx5⟩ := cells6 Kx_21.out
      have zx := Kx_21.out.lt
      obtain ⟨cy0, cy1, cy2, cy3, cy4, cy5⟩ := cells6 Ky_21.out
      have zy := Ky_21.out.lt
      obtain ⟨cz0, cz1, cz2, cz3, cz4, cz5⟩ := cells6 Kz_21.out
      have zz := Kz_21.out.lt
      obtain ⟨cu0, cu1, cu2, cu3, cu4, cu5⟩ := cells6 Ku_21.out
      have zu := Ku_21.out.lt
      obtain ⟨cv0, cv1, cv2, cv3, cv4, cv5⟩ := cells6 Kv_21.out
      have zv := Kv_21.out.lt
      obtain ⟨co0, co1, co2, co3, co4, co5⟩ := cells6 Ko_21.out
      have zo := Ko_21.out.lt
      refine (fp_zero X0 _).mono ?_
      rintro e w22 ⟨rfl, hb⟩
      clear cx0 cx1 cx2 cx3 cx4 cx5 zx cy0 cy1 cy2 cy3 cy4 cy5 zy cz0 cz1 cz2 cz3 cz4 cz5 zz cu0 cu1 cu2 cu3 cu4 cu5 zu cv0 cv1 cv2 cv3 cv4 cv5 zv co0 co1 co2 co3 co4 co5 zo
      have B22 := Lib.hid (B21.out.trans (hb.mono B21.out.size))
      have Kx_22 := Lib.hid (Kx_21.out.keep hb)
      have Ky_22 := Lib.hid (Ky_21.out.keep hb)
      have Kz_22 := Lib.hid (Kz_21.out.keep hb)
      have Ku_22 := Lib.hid (Ku_21.out.keep hb)
      have Kv_22 := Lib.hid (Kv_21.out.keep hb)
      have Ko_22 := Lib.hid (Ko_21.out.keep hb)
      clear hb B21 Kx_21 Ky_21 Kz_21 Ku_21 Kv_21 Ko_21
      obtain ⟨cx0, cx1, cx2, cx3, cx4, cx5⟩ := cells6 Kx_22.out
      have zx := Kx_22.out.lt
      obtain ⟨cy0, cy1, cy2, cy3, cy4, cy5⟩ := cells6 Ky_22.out
      have zy := Ky_22.out.lt
      obtain ⟨cz0, cz1, cz2, cz3, cz4, cz5⟩ := cells6 Kz_22.out
      have zz := Kz_22.out.lt
      obtain ⟨cu0, cu1, cu2, cu3, cu4, cu5⟩ := cells6 Ku_22.out
      have zu := Ku_22.out.lt
      obtain ⟨cv0, cv1, cv2, cv3, cv4, cv5⟩ := cells6 Kv_22.out
      have zv := Kv_22.out.lt
      obtain ⟨co0, co1, co2, co3, co4, co5⟩ := cells6 Ko_22.out
      have zo := Ko_22.out.lt
      rw [ZX.out]
      go_wp2_with fail
      refine (fp_zero X1 _).mono ?_
      rintro e w23 ⟨rfl, hb⟩
      clear cx0 cx1 cx2 cx3 cx4 cx5 zx cy0 cy1 cy2 cy3 cy4 cy5 zy cz0 cz1 cz2 cz3 cz4 cz5 zz cu0 cu1 cu2 cu3 cu4 cu5 zu cv0 cv1 cv2 cv3 cv4 cv5 zv co0 co1 co2 co3 co4 co5 zo
      have B23 := Lib.hid (B22.out.trans (hb.mono B22.out.size))
      have Kx_23 := Lib.hid (Kx_22.out.keep hb)
      have Ky_23 := Lib.hid (Ky_22.out.keep hb)
      have Kz_23 := Lib.hid (Kz_22.out.keep hb)
      have Ku_23 := Lib.hid (Ku_22.out.keep hb)
      have Kv_23 := Lib.hid (Kv_22.out.keep hb)
      have Ko_23 := Lib.hid (Ko_22.out.keep hb)
      clear hb B22 Kx_22 Ky_22 Kz_22 Ku_22 Kv_22 Ko_22
      obtain ⟨cx0, cx1, cx2, cx3, cx4, cx5⟩ := cells6 Kx_23.out
      have zx := Kx_23.out.lt
      obtain ⟨cy0, cy1, cy2, cy3, cy4, cy5⟩ := cells6 Ky_23.out
      have zy := Ky_23.out.lt
      obtain ⟨cz0, cz1, cz2, cz3, cz4, cz5⟩ := cells6 Kz_23.out
      have zz := Kz_23.out.lt
      obtain ⟨cu0, cu1, cu2, cu3, cu4, cu5⟩ := cells6 Ku_23.out
      have zu := Ku_23.out.lt
      obtain ⟨cv0, cv1, cv2, cv3, cv4, cv5⟩ := cells6 Kv_23.out
      have zv := Kv_23.out.lt
      obtain ⟨co0, co1, co2, co3, co4, co5⟩ := cells6 Ko_23.out
      have zo := Ko_23.out.lt
      rw [ZY.out]
      go_wp2_with fail
      go_ret
      exact ⟨rfl, B23.out⟩
  have hm := mul_sq X0 X1 zx zy
  by_cases hx : X0 ^ Qp * X0 ^ Qp % Mp = X0 % Mp
  · by_cases hy : X1 ^ Qp * X1 ^ Qp % Mp = X1 % Mp
    · have hb : (X0 * X1) ^ Qp * (X0 * X1) ^ Qp % Mp = X0 * X1 % Mp := by rw [hm]; simp [hx, hy]
      clear hm
      obtain ⟨Rx, hRx⟩ : ∃ R, R = (X0) ^ Qp := ⟨_, rfl⟩
      have hs := fun W a b c => fp_sqrt_yes (X0) W a b c hx
      simp only [← hRx] at hs
      have S_x := Lib.hid hs
      clear hs hRx
      obtain ⟨Ry, hRy⟩ : ∃ R, R = (X1) ^ Qp := ⟨_, rfl⟩
      have hs := fun W a b c => fp_sqrt_yes (X1) W a b c hy
      simp only [← hRy] at hs
      have S_y := Lib.hid hs
      clear hs hRy
      obtain ⟨Rb, hRb⟩ : ∃ R, R = (X0 * X1) ^ Qp := ⟨_, rfl⟩
      have hs := fun W a b c => fp_sqrt_yes (X0 * X1) W a b c hb
      simp only [← hRb] at hs
      have S_b := Lib.hid hs
      clear hs hRb
      have ZX := Lib.hid (show decide (X0 % Mp = 0) = false by simpa using zx)
      have ZY := Lib.hid (show decide (X1 % Mp = 0) = false by simpa using zy)
      clear hb
      clear hx
      clear hy
      clear zx
      clear zy
      go_wp2_with fail
      refine (S_x.out _ (HG.out.keep B14.out) (HS.out.keep B14.out) (HQ.out.keep B14.out)).mono ?_
      rintro e w15 ⟨rfl, hb⟩
      clear cx0 cx1 cx2 cx3 cx4 cx5 zx cy0 cy1 cy2 cy3 cy4 cy5 zy cz0 cz1 cz2 cz3 cz4 cz5 zz
      have B15 := Lib.hid (B14.out.trans (hb.mono B14.out.size))
      have Kx_15 := Lib.hid (Kx_14.out.keep hb)
      have Ky_15 := Lib.hid (Ky_14.out.keep hb)
      have Kz_15 := Lib.hid (Kz_14.out.keep hb)
      clear hb B14 Kx_14 Ky_14 Kz_14
      obtain ⟨cx0, cx1, cx2, cx3, cx4, cx5⟩ := cells6 Kx_15.out
      have zx := Kx_15.out.lt
      obtain ⟨cy0, cy1, cy2, cy3, cy4, cy5⟩ := cells6 Ky_15.out
      have zy := Ky_15.out.lt
      obtain ⟨cz0, cz1, cz2, cz3, cz4, cz5⟩ := cells6 Kz_15.out
      have zz := Kz_15.out.lt
      unfold pv arr6
      go_wp2_with fail
      clear cx0 cx1 cx2 cx3 cx4 cx5 zx cy0 cy1 cy2 cy3 cy4 cy5 zy cz0 cz1 cz2 cz3 cz4 cz5 zz
      have B16 := Lib.hid (B15.out.alloc B15.out.size (Obj.cells #[.int .u64 (wd (fe Mp (Wd ^ 6) Rx) 0), .int .u64 (wd (fe Mp (Wd ^ 6) Rx) 1), .int .u64 (wd (fe Mp (Wd ^ 6) Rx) 2), .int .u64 (wd (fe Mp (Wd ^ 6) Rx) 3), .int .u64 (wd (fe Mp (Wd ^ 6) Rx) 4), .int .u64 (wd (fe Mp (Wd ^ 6) Rx) 5)] 28))
      have Kx_16 := Lib.hid (Kx_15.out.alloc (Obj.cells #[.int .u64 (wd (fe Mp (Wd ^ 6) Rx) 0), .int .u64 (wd (fe Mp (Wd ^ 6) Rx) 1), .int .u64 (wd (fe Mp (Wd ^ 6) Rx) 2), .int .u64 (wd (fe Mp (Wd ^ 6) Rx) 3), .int .u64 (wd (fe Mp (Wd ^ 6) Rx) 4), .int .u64 (wd (fe Mp (Wd ^ 6) Rx) 5)] 28))
      have Ky_16 := Lib.hid (Ky_15.out.alloc (Obj.cells #[.int .u64 (wd (fe Mp (Wd ^ 6) Rx) 0), .int .u64 (wd (fe Mp (Wd ^ 6) Rx) 1), .int .u64 (wd (fe Mp (Wd ^ 6) Rx) 2), .int .u64 (wd (fe Mp (Wd ^ 6) Rx) 3), .int .u64 (wd (fe Mp (Wd ^ 6) Rx) 4), .int .u64 (wd (fe Mp (Wd ^ 6) Rx) 5)] 28))
      have Kz_16 := Lib.hid (Kz_15.out.alloc (Obj.cells #[.int .u64 (wd (fe Mp (Wd ^ 6) Rx) 0), .int .u64 (wd (fe Mp (Wd ^ 6) Rx) 1), .int .u64 (wd (fe Mp (Wd ^ 6) Rx) 2), .int .u64 (wd (fe Mp (Wd ^ 6) Rx) 3), .int .u64 (wd (fe Mp (Wd ^ 6) Rx) 4), .int .u64 (wd (fe Mp (Wd ^ 6) Rx) 5)] 28))
      have Ku_16 := Lib.hid (Blk.new w15 28 #[.int .u64 (wd (fe Mp (Wd ^ 6) Rx) 0), .int .u64 (wd (fe Mp (Wd ^ 6) Rx) 1), .int .u64 (wd (fe Mp (Wd ^ 6) Rx) 2), .int .u64 (wd (fe Mp (Wd ^ 6) Rx) 3), .int .u64 (wd (fe Mp (Wd ^ 6) Rx) 4), .int .u64 (wd (fe Mp (Wd ^ 6) Rx) 5)])
      obtain ⟨gu, hgu⟩ : ∃ g, g = w15.heap.size := ⟨_, rfl⟩
      obtain ⟨w16, hw16⟩ : ∃ W, W = w15.alloc (Obj.cells #[.int .u64 (wd (fe Mp (Wd ^ 6) Rx) 0), .int .u64 (wd (fe Mp (Wd ^ 6) Rx) 1), .int .u64 (wd (fe Mp (Wd ^ 6) Rx) 2), .int .u64 (wd (fe Mp (Wd ^ 6) Rx) 3), .int .u64 (wd (fe Mp (Wd ^ 6) Rx) 4), .int .u64 (wd (fe Mp (Wd ^ 6) Rx) 5)] 28) := ⟨_, rfl⟩
      rw [← hgu] at Ku_16
      simp only [← hw16] at B16 Kx_16 Ky_16 Kz_16 Ku_16
      rw [← hw16, ← hgu]
      clear hw16 hgu B15 Kx_15 Ky_15 Kz_15
      obtain ⟨cx0, cx1, cx2, cx3, cx4, cx5⟩ := cells6 Kx_16.out
      have zx := Kx_16.out.lt
      obtain ⟨cy0, cy1, cy2, cy3, cy4, cy5⟩ := cells6 Ky_16.out
      have zy := Ky_16.out.lt
      obtain ⟨cz0, cz1, cz2, cz3, cz4, cz5⟩ := cells6 Kz_16.out
      have zz := Kz_16.out.lt
      obtain ⟨cu0, cu1, cu2, cu3, cu4, cu5⟩ := cells6 Ku_16.out
      have zu := Ku_16.out.lt
      refine (S_y.out _ (HG.out.keep B16.out) (HS.out.keep B16.out) (HQ.out.keep B16.out)).mono ?_
      rintro e w17 ⟨rfl, hb⟩
      clear cx0 cx1 cx2 cx3 cx4 cx5 zx cy0 cy1 cy2 cy3 cy4 cy5 zy cz0 cz1 cz2 cz3 cz4 cz5 zz cu0 cu1 cu2 cu3 cu4 cu5 zu
      have B17 := Lib.hid (B16.out.trans (hb.mono B16.out.size))
      have Kx_17 := Lib.hid (Kx_16.out.keep hb)
      have Ky_17 := Lib.hid (Ky_16.out.keep hb)
      have Kz_17 := Lib.hid (Kz_16.out.keep hb)
      have Ku_17 := Lib.hid (Ku_16.out.keep hb)
      clear hb B16 Kx_16 Ky_16 Kz_16 Ku_16
      obtain ⟨cx0, cx1, cx2, cx3, cx4, cx5⟩ := cells6 Kx_17.out
      have zx := Kx_17.out.lt
      obtain ⟨cy0, cy1, cy2, cy3, cy4, cy5⟩ := cells6 Ky_17.out
      have zy := Ky_17.out.lt
      obtain ⟨cz0, cz1, cz2, cz3, cz4, cz5⟩ := cells6 Kz_17.out
      have zz := Kz_17.out.lt
      obtain ⟨cu0, cu1, cu2, cu3, cu4, cu5⟩ := cells6 Ku_17.out
      have zu := Ku_17.out.lt
      unfold pv arr6
      go_wp2_with fail
      clear cx0 cx1 cx2 cx3 cx4 cx5 zx cy0 cy1 cy2 cy3 cy4 cy5 zy cz0 cz1 cz2 cz3 cz4 cz5 zz cu0 cu1 cu2 cu3 cu4 cu5 zu
      have B18 := Lib.hid (B17.out.alloc B17.out.size (Obj.cells #[.int .u64 (wd (fe Mp (Wd ^ 6) Ry) 0), .int .u64 (wd (fe Mp (Wd ^ 6) Ry) 1), .int .u64 (wd (fe Mp (Wd ^ 6) Ry) 2), .int .u64 (wd (fe Mp (Wd ^ 6) Ry) 3), .int .u64 (wd (fe Mp (Wd ^ 6) Ry) 4), .int .u64 (wd (fe Mp (Wd ^ 6) Ry) 5)] 28))
      have Kx_18 := Lib.hid (Kx_17.out.alloc (Obj.cells #[.int .u64 (wd (fe Mp (Wd ^ 6) Ry) 0), .int .u64 (wd (fe Mp (Wd ^ 6) Ry) 1), .int .u64 (wd (fe Mp (Wd ^ 6) Ry) 2), .int .u64 (wd (fe Mp (Wd ^ 6) Ry) 3), .int .u64 (wd (fe Mp (Wd ^ 6) Ry) 4), .int .u64 (wd (fe Mp (Wd ^ 6) Ry) 5)] 28))
      have Ky_18 := Lib.hid (Ky_17.out.alloc (Obj.cells #[.int .u64 (wd (fe Mp (Wd ^ 6) Ry) 0), .int .u64 (wd (fe Mp (Wd ^ 6) Ry) 1), .int .u64 (wd (fe Mp (Wd ^ 6) Ry) 2), .int .u64 (wd (fe Mp (Wd ^ 6) Ry) 3), .int .u64 (wd (fe Mp (Wd ^ 6) Ry) 4), .int .u64 (wd (fe Mp (Wd ^ 6) Ry) 5)] 28))
      have Kz_18 := Lib.hid (Kz_17.out.alloc (Obj.cells #[.int .u64 (wd (fe Mp (Wd ^ 6) Ry) 0), .int .u64 (wd (fe Mp (Wd ^ 6) Ry) 1), .int .u64 (wd (fe Mp (Wd ^ 6) Ry) 2), .int .u64 (wd (fe Mp (Wd ^ 6) Ry) 3), .int .u64 (wd (fe Mp (Wd ^ 6) Ry) 4), .int .u64 (wd (fe Mp (Wd ^ 6) Ry) 5)] 28))
      have Ku_18 := Lib.hid (Ku_17.out.alloc (Obj.cells #[.int .u64 (wd (fe Mp (Wd ^ 6) Ry) 0), .int .u64 (wd (fe Mp (Wd ^ 6) Ry) 1), .int .u64 (wd (fe Mp (Wd ^ 6) Ry) 2), .int .u64 (wd (fe Mp (Wd ^ 6) Ry) 3), .int .u64 (wd (fe Mp (Wd ^ 6) Ry) 4), .int .u64 (wd (fe Mp (Wd ^ 6) Ry) 5)] 28))
      have Kv_18 := Lib.hid (Blk.new w17 28 #[.int .u64 (wd (fe Mp (Wd ^ 6) Ry) 0), .int .u64 (wd (fe Mp (Wd ^ 6) Ry) 1), .int .u64 (wd (fe Mp (Wd ^ 6) Ry) 2), .int .u64 (wd (fe Mp (Wd ^ 6) Ry) 3), .int .u64 (wd (fe Mp (Wd ^ 6) Ry) 4), .int .u64 (wd (fe Mp (Wd ^ 6) Ry) 5)])
      obtain ⟨gv, hgv⟩ : ∃ g, g = w17.heap.size := ⟨_, rfl⟩
      obtain ⟨w18, hw18⟩ : ∃ W, W = w17.alloc (Obj.cells #[.int .u64 (wd (fe Mp (Wd ^ 6) Ry) 0), .int .u64 (wd (fe Mp (Wd ^ 6) Ry) 1), .int .u64 (wd (fe Mp (Wd ^ 6) Ry) 2), .int .u64 (wd (fe Mp (Wd ^ 6) Ry) 3), .int .u64 (wd (fe Mp (Wd ^ 6) Ry) 4), .int .u64 (wd (fe Mp (Wd ^ 6) Ry) 5)] 28) := ⟨_, rfl⟩
      rw [← hgv] at Kv_18
      simp only [← hw18] at B18 Kx_18 Ky_18 Kz_18 Ku_18 Kv_18
      rw [← hw18, ← hgv]
      clear hw18 hgv B17 Kx_17 Ky_17 Kz_17 Ku_17
      obtain ⟨cx0, cx1, cx2, cx3, cx4, cx5⟩ := cells6 Kx_18.out
      have zx := Kx_18.out.lt
      obtain ⟨cy0, cy1, cy2, cy3, cy4, cy5⟩ := cells6 Ky_18.out
      have zy := Ky_18.out.lt
      obtain ⟨cz0, cz1, cz2, cz3, cz4, cz5⟩ := cells6 Kz_18.out
      have zz := Kz_18.out.lt
      obtain ⟨cu0, cu1, cu2, cu3, cu4, cu5⟩ := cells6 Ku_18.out
      have zu := Ku_18.out.lt
      obtain ⟨cv0, cv1, cv2, cv3, cv4, cv5⟩ := cells6 Kv_18.out
      have zv := Kv_18.out.lt
      refine (fp_mul X0 X1 _ (HG.out.keep B18.out)).mono ?_
      rintro e w19 ⟨rfl, hb⟩
      clear cx0 cx1 cx2 cx3 cx4 cx5 zx cy0 cy1 cy2 cy3 cy4 cy5 zy cz0 cz1 cz2 cz3 cz4 cz5 zz cu0 cu1 cu2 cu3 cu4 cu5 zu cv0 cv1 cv2 cv3 cv4 cv5 zv
      have B19 := Lib.hid (B18.out.trans (hb.mono B18.out.size))
      have Kx_19 := Lib.hid (Kx_18.out.keep hb)
      have Ky_19 := Lib.hid (Ky_18.out.keep hb)
      have Kz_19 := Lib.hid (Kz_18.out.keep hb)
      have Ku_19 := Lib.hid (Ku_18.out.keep hb)
      have Kv_19 := Lib.hid (Kv_18.out.keep hb)
      clear hb B18 Kx_18 Ky_18 Kz_18 Ku_18 Kv_18
      obtain ⟨cx0, cx1, cx2, cx3, cx4, cx5⟩ := cells6 Kx_19.out
      have zx := Kx_19.out.lt
      obtain ⟨cy0, cy1, cy2, cy3, cy4, cy5⟩ := cells6 Ky_19.out
      have zy := Ky_19.out.lt
      obtain ⟨cz0, cz1, cz2, cz3, cz4, cz5⟩ := cells6 Kz_19.out
      have zz := Kz_19.out.lt
      obtain ⟨cu0, cu1, cu2, cu3, cu4, cu5⟩ := cells6 Ku_19.out
      have zu := Ku_19.out.lt
      obtain ⟨cv0, cv1, cv2, cv3, cv4, cv5⟩ := cells6 Kv_19.out
      have zv := Kv_19.out.lt
      go_wp2_with fail
      refine (S_b.out _ (HG.out.keep B19.out) (HS.out.keep B19.out) (HQ.out.keep B19.out)).mono ?_
      rintro e w20 ⟨rfl, hb⟩
      clear cx0 cx1 cx2 cx3 cx4 cx5 zx cy0 cy1 cy2 cy3 cy4 cy5 zy cz0 cz1 cz2 cz3 cz4 cz5 zz cu0 cu1 cu2 cu3 cu4 cu5 zu cv0 cv1 cv2 cv3 cv4 cv5 zv
      have B20 := Lib.hid (B19.out.trans (hb.mono B19.out.size))
      have Kx_20 := Lib.hid (Kx_19.out.keep hb)
      have Ky_20 := Lib.hid (Ky_19.out.keep hb)
      have Kz_20 := Lib.hid (Kz_19.out.keep hb)
      have Ku_20 := Lib.hid (Ku_19.out.keep hb)
      have Kv_20 := Lib.hid (Kv_19.out.keep hb)
      clear hb B19 Kx_19 Ky_19 Kz_19 Ku_19 Kv_19
      obtain ⟨cx0, cx1, cx2, cx3, cx4, cx5⟩ := cells6 Kx_20.out
      have zx := Kx_20.out.lt
      obtain ⟨cy0, cy1, cy2, cy3, cy4, cy5⟩ := cells6 Ky_20.out
      have zy := Ky_20.out.lt
      obtain ⟨cz0, cz1, cz2, cz3, cz4, cz5⟩ := cells6 Kz_20.out
      have zz := Kz_20.out.lt
      obtain ⟨cu0, cu1, cu2, cu3, cu4, cu5⟩ := cells6 Ku_20.out
      have zu := Ku_20.out.lt
      obtain ⟨cv0, cv1, cv2, cv3, cv4, cv5⟩ := cells6 Kv_20.out
      have zv := Kv_20.out.lt
      unfold pv arr6
      go_wp2_with fail
      clear cx0 cx1 cx2 cx3 cx4 cx5 zx cy0 cy1 cy2 cy3 cy4 cy5 zy cz0 cz1 cz2 cz3 cz4 cz5 zz cu0 cu1 cu2 cu3 cu4 cu5 zu cv0 cv1 cv2 cv3 cv4 cv5 zv
      have B21 := Lib.hid (B20.out.alloc B20.out.size (Obj.cells #[.int .u64 (wd (fe Mp (Wd ^ 6) Rb) 0), .int .u64 (wd (fe Mp (Wd ^ 6) Rb) 1), .int .u64 (wd (fe Mp (Wd ^ 6) Rb) 2), .int .u64 (wd (fe Mp (Wd ^ 6) Rb) 3), .int .u64 (wd (fe Mp (Wd ^ 6) Rb) 4), .int .u64 (wd (fe Mp (Wd ^ 6) Rb) 5)] 28))
      have Kx_21 := Lib.hid (Kx_20.out.alloc (Obj.cells #[.int .u64 (wd (fe Mp (Wd ^ 6) Rb) 0), .int .u64 (wd (fe Mp (Wd ^ 6) Rb) 1), .int .u64 (wd (fe Mp (Wd ^ 6) Rb) 2), .int .u64 (wd (fe Mp (Wd ^ 6) Rb) 3), .int .u64 (wd (fe Mp (Wd ^ 6) Rb) 4), .int .u64 (wd (fe Mp (Wd ^ 6) Rb) 5)] 28))
      have Ky_21 := Lib.hid (Ky_20.out.alloc (Obj.cells #[.int .u64 (wd (fe Mp (Wd ^ 6) Rb) 0), .int .u64 (wd (fe Mp (Wd ^ 6) Rb) 1), .int .u64 (wd (fe Mp (Wd ^ 6) Rb) 2), .int .u64 (wd (fe Mp (Wd ^ 6) Rb) 3), .int .u64 (wd (fe Mp (Wd ^ 6) Rb) 4), .int .u64 (wd (fe Mp (Wd ^ 6) Rb) 5)] 28))
      have Kz_21 := Lib.hid (Kz_20.out.alloc (Obj.cells #[.int .u64 (wd (fe Mp (Wd ^ 6) Rb) 0), .int .u64 (wd (fe Mp (Wd ^ 6) Rb) 1), .int .u64 (wd (fe Mp (Wd ^ 6) Rb) 2), .int .u64 (wd (fe Mp (Wd ^ 6) Rb) 3), .int .u64 (wd (fe Mp (Wd ^ 6) Rb) 4), .int .u64 (wd (fe Mp (Wd ^ 6) Rb) 5)] 28))
      have Ku_21 := Lib.hid (Ku_20.out.alloc (Obj.cells #[.int .u64 (wd (fe Mp (Wd ^ 6) Rb) 0), .int .u64 (wd (fe Mp (Wd ^ 6) Rb) 1), .int .u64 (wd (fe Mp (Wd ^ 6) Rb) 2), .int .u64 (wd (fe Mp (Wd ^ 6) Rb) 3), .int .u64 (wd (fe Mp (Wd ^ 6) Rb) 4), .int .u64 (wd (fe Mp (Wd ^ 6) Rb) 5)] 28))
      have Kv_21 := Lib.hid (Kv_20.out.alloc (Obj.cells #[.int .u64 (wd (fe Mp (Wd ^ 6) Rb) 0), .int .u64 (wd (fe Mp (Wd ^ 6) Rb) 1), .int .u64 (wd (fe Mp (Wd ^ 6) Rb) 2), .int .u64 (wd (fe Mp (Wd ^ 6) Rb) 3), .int .u64 (wd (fe Mp (Wd ^ 6) Rb) 4), .int .u64 (wd (fe Mp (Wd ^ 6) Rb) 5)] 28))
      have Ko_21 := Lib.hid (Blk.new w20 28 #[.int .u64 (wd (fe Mp (Wd ^ 6) Rb) 0), .int .u64 (wd (fe Mp (Wd ^ 6) Rb) 1), .int .u64 (wd (fe Mp (Wd ^ 6) Rb) 2), .int .u64 (wd (fe Mp (Wd ^ 6) Rb) 3), .int .u64 (wd (fe Mp (Wd ^ 6) Rb) 4), .int .u64 (wd (fe Mp (Wd ^ 6) Rb) 5)])
      obtain ⟨go, hgo⟩ : ∃ g, g = w20.heap.size := ⟨_, rfl⟩
      obtain ⟨w21, hw21⟩ : ∃ W, W = w20.alloc (Obj.cells #[.int .u64 (wd (fe Mp (Wd ^ 6) Rb) 0), .int .u64 (wd (fe Mp (Wd ^ 6) Rb) 1), .int .u64 (wd (fe Mp (Wd ^ 6) Rb) 2), .int .u64 (wd (fe Mp (Wd ^ 6) Rb) 3), .int .u64 (wd (fe Mp (Wd ^ 6) Rb) 4), .int .u64 (wd (fe Mp (Wd ^ 6) Rb) 5)] 28) := ⟨_, rfl⟩
      rw [← hgo] at Ko_21
      simp only [← hw21] at B21 Kx_21 Ky_21 Kz_21 Ku_21 Kv_21 Ko_21
      rw [← hw21, ← hgo]
      clear hw21 hgo B20 Kx_20 Ky_20 Kz_20 Ku_20 Kv_20
      obtain ⟨cx0, cx1, cx2, cx3, cx4, cx5⟩ := cells6 Kx_21.out
      have zx := Kx_21.out.lt
      obtain ⟨cy0, cy1, cy2, cy3, cy4, cy5⟩ := cells6 Ky_21.out
      have zy := Ky_21.out.lt
      obtain ⟨cz0, cz1, cz2, cz3, cz4, cz5⟩ := cells6 Kz_21.out
      have zz := Kz_21.out.lt
      obtain ⟨cu0, cu1, cu2, cu3, cu4, cu5⟩ := cells6 Ku_21.out
      have zu := Ku_21.out.lt
      obtain ⟨cv0, cv1, cv2, cv3, cv4, cv5⟩ := cells6 Kv_21.out
      have zv := Kv_21.out.lt
      obtain ⟨co0, co1, co2, co3, co4, co5⟩ := cells6 Ko_21.out
      have zo := Ko_21.out.lt
      refine (fp_zero X0 _).mono ?_
      rintro e w22 ⟨rfl, hb⟩
      clear cx0 cx1 cx2 cx3 cx4 cx5 zx cy0 cy1 cy2 cy3 cy4 cy5 zy cz0 cz1 cz2 cz3 cz4 cz5 zz cu0 cu1 cu2 cu3 cu4 cu5 zu cv0 cv1 cv2 cv3 cv4 cv5 zv co0 co1 co2 co3 co4 co5 zo
      have B22 := Lib.hid (B21.out.trans (hb.mono B21.out.size))
      have Kx_22 := Lib.hid (Kx_21.out.keep hb)
      have Ky_22 := Lib.hid (Ky_21.out.keep hb)
      have Kz_22 := Lib.hid (Kz_21.out.keep hb)
      have Ku_22 := Lib.hid (Ku_21.out.keep hb)
      have Kv_22 := Lib.hid (Kv_21.out.keep hb)
      have Ko_22 := Lib.hid (Ko_21.out.keep hb)
      clear hb B21 Kx_21 Ky_21 Kz_21 Ku_21 Kv_21 Ko_21
      obtain ⟨cx0, cx1, cx2, cx3, cx4, cx5⟩ := cells6 Kx_22.out
      have zx := Kx_22.out.lt
      obtain ⟨cy0, cy1, cy2, cy3, cy4, cy5⟩ := cells6 Ky_22.out
      have zy := Ky_22.out.lt
      obtain ⟨cz0, cz1, cz2, cz3, cz4, cz5⟩ := cells6 Kz_22.out
      have zz := Kz_22.out.lt
      obtain ⟨cu0, cu1, cu2, cu3, cu4, cu5⟩ := cells6 Ku_22.out
      have zu := Ku_22.out.lt
      obtain ⟨cv0, cv1, cv2, cv3, cv4, cv5⟩ := cells6 Kv_22.out
      have zv := Kv_22.out.lt
      obtain ⟨co0, co1, co2, co3, co4, co5⟩ := cells6 Ko_22.out
      have zo := Ko_22.out.lt
      rw [ZX.out]
      go_wp2_with fail
      refine (fp_zero X1 _).mono ?_
      rintro e w23 ⟨rfl, hb⟩
      clear cx0 cx1 cx2 cx3 cx4 cx5 zx cy0 cy1 cy2 cy3 cy4 cy5 zy cz0 cz1 cz2 cz3 cz4 cz5 zz cu0 cu1 cu2 cu3 cu4 cu5 zu cv0 cv1 cv2 cv3 cv4 cv5 zv co0 co1 co2 co3 co4 co5 zo
      have B23 := Lib.hid (B22.out.trans (hb.mono B22.out.size))
      have Kx_23 := Lib.hid (Kx_22.out.keep hb)
      have Ky_23 := Lib.hid (Ky_22.out.keep hb)
      have Kz_23 := Lib.hid (Kz_22.out.keep hb)
      have Ku_23 := Lib.hid (Ku_22.out.keep hb)
      have Kv_23 := Lib.hid (Kv_22.out.keep hb)
      have Ko_23 := Lib.hid (Ko_22.out.keep hb)
      clear hb B22 Kx_22 Ky_22 Kz_22 Ku_22 Kv_22 Ko_22
      obtain ⟨cx0, cx1, cx2, cx3, cx4, cx5⟩ := cells6 Kx_23.out
      have zx := Kx_23.out.lt
      obtain ⟨cy0, cy1, cy2, cy3, cy4, cy5⟩ := cells6 Ky_23.out
      have zy := Ky_23.out.lt
      obtain ⟨cz0, cz1, cz2, cz3, cz4, cz5⟩ := cells6 Kz_23.out
      have zz := Kz_23.out.lt
      obtain ⟨cu0, cu1, cu2, cu3, cu4, cu5⟩ := cells6 Ku_23.out
      have zu := Ku_23.out.lt
      obtain ⟨cv0, cv1, cv2, cv3, cv4, cv5⟩ := cells6 Kv_23.out
      have zv := Kv_23.out.lt
      obtain ⟨co0, co1, co2, co3, co4, co5⟩ := cells6 Ko_23.out
      have zo := Ko_23.out.lt
      rw [ZY.out]
      go_wp2_with fail
      go_ret
      exact ⟨rfl, B23.out⟩
    · have hb : ¬ (X0 * X1) ^ Qp * (X0 * X1) ^ Qp % Mp = X0 * X1 % Mp := by rw [hm]; simp [hx, hy]
      clear hm
      obtain ⟨Rx, hRx⟩ : ∃ R, R = (X0) ^ Qp := ⟨_, rfl⟩
      have hs := fun W a b c => fp_sqrt_yes (X0) W a b c hx
      simp only [← hRx] at hs
      have S_x := Lib.hid hs
      clear hs hRx
      have hs := fun W a b c => fp_sqrt_no (X1) W a b c hy
      simp only [pv_zero] at hs
      have S_y := Lib.hid hs
      clear hs
      have hs := fun W a b c => fp_sqrt_no (X0 * X1) W a b c hb
      simp only [pv_zero] at hs
      have S_b := Lib.hid hs
      clear hs
      have ZX := Lib.hid (show decide (X0 % Mp = 0) = false by simpa using zx)
      have ZY := Lib.hid (show decide (X1 % Mp = 0) = false by simpa using zy)
      clear hb
      clear hx
      clear hy
      clear zx
      clear zy
      go_wp2_with fail
      refine (S_x.out _ (HG.out.keep B14.out) (HS.out.keep B14.out) (HQ.out.keep B14.out)).mono ?_
      rintro e w15 ⟨rfl, hb⟩
      clear cx0 cx1 cx2 cx3 cx4 cx5 zx cy0 cy1 cy2 cy3 cy4 cy5 zy cz0 cz1 cz2 cz3 cz4 cz5 zz
      have B15 := Lib.hid (B14.out.trans (hb.mono B14.out.size))
      have Kx_15 := Lib.hid (Kx_14.out.keep hb)
      have Ky_15 := Lib.hid (Ky_14.out.keep hb)
      have Kz_15 := Lib.hid (Kz_14.out.keep hb)
      clear hb B14 Kx_14 Ky_14 Kz_14
      obtain ⟨cx0, cx1, cx2, cx3, cx4, cx5⟩ := cells6 Kx_15.out
      have zx := Kx_15.out.lt
      obtain ⟨cy0, cy1, cy2, cy3, cy4, cy5⟩ := cells6 Ky_15.out
      have zy := Ky_15.out.lt
      obtain ⟨cz0, cz1, cz2, cz3, cz4, cz5⟩ := cells6 Kz_15.out
      have zz := Kz_15.out.lt
      unfold pv arr6
      go_wp2_with fail
      clear cx0 cx1 cx2 cx3 cx4 cx5 zx cy0 cy1 cy2 cy3 cy4 cy5 zy cz0 cz1 cz2 cz3 cz4 cz5 zz
      have B16 := Lib.hid (B15.out.alloc B15.out.size (Obj.cells #[.int .u64 (wd (fe Mp (Wd ^ 6) Rx) 0), .int .u64 (wd (fe Mp (Wd ^ 6) Rx) 1), .int .u64 (wd (fe Mp (Wd ^ 6) Rx) 2), .int .u64 (wd (fe Mp (Wd ^ 6) Rx) 3), .int .u64 (wd (fe Mp (Wd ^ 6) Rx) 4), .int .u64 (wd (fe Mp (Wd ^ 6) Rx) 5)] 28))
      have Kx_16 := Lib.hid (Kx_15.out.alloc (Obj.cells #[.int .u64 (wd (fe Mp (Wd ^ 6) Rx) 0), .int .u64 (wd (fe Mp (Wd ^ 6) Rx) 1), .int .u64 (wd (fe Mp (Wd ^ 6) Rx) 2), .int .u64 (wd (fe Mp (Wd ^ 6) Rx) 3), .int .u64 (wd (fe Mp (Wd ^ 6) Rx) 4), .int .u64 (wd (fe Mp (Wd ^ 6) Rx) 5)] 28))
      have Ky_16 := Lib.hid (Ky_15.out.alloc (Obj.cells #[.int .u64 (wd (fe Mp (Wd ^ 6) Rx) 0), .int .u64 (wd (fe Mp (Wd ^ 6) Rx) 1), .int .u64 (wd (fe Mp (Wd ^ 6) Rx) 2), .int .u64 (wd (fe Mp (Wd ^ 6) Rx) 3), .int .u64 (wd (fe Mp (Wd ^ 6) Rx) 4), .int .u64 (wd (fe Mp (Wd ^ 6) Rx) 5)] 28))
      have Kz_16 := Lib.hid (Kz_15.out.alloc (Obj.cells #[.int .u64 (wd (fe Mp (Wd ^ 6) Rx) 0), .int .u64 (wd (fe Mp (Wd ^ 6) Rx) 1), .int .u64 (wd (fe Mp (Wd ^ 6) Rx) 2), .int .u64 (wd (fe Mp (Wd ^ 6) Rx) 3), .int .u64 (wd (fe Mp (Wd ^ 6) Rx) 4), .int .u64 (wd (fe Mp (Wd ^ 6) Rx) 5)] 28))
      have Ku_16 := Lib.hid (Blk.new w15 28 #[.int .u64 (wd (fe Mp (Wd ^ 6) Rx) 0), .int .u64 (wd (fe Mp (Wd ^ 6) Rx) 1), .int .u64 (wd (fe Mp (Wd ^ 6) Rx) 2), .int .u64 (wd (fe Mp (Wd ^ 6) Rx) 3), .int .u64 (wd (fe Mp (Wd ^ 6) Rx) 4), .int .u64 (wd (fe Mp (Wd ^ 6) Rx) 5)])
      obtain ⟨gu, hgu⟩ : ∃ g, g = w15.heap.size := ⟨_, rfl⟩
      obtain ⟨w16, hw16⟩ : ∃ W, W = w15.alloc (Obj.cells #[.int .u64 (wd (fe Mp (Wd ^ 6) Rx) 0), .int .u64 (wd (fe Mp (Wd ^ 6) Rx) 1), .int .u64 (wd (fe Mp (Wd ^ 6) Rx) 2), .int .u64 (wd (fe Mp (Wd ^ 6) Rx) 3), .int .u64 (wd (fe Mp (Wd ^ 6) Rx) 4), .int .u64 (wd (fe Mp (Wd ^ 6) Rx) 5)] 28) := ⟨_, rfl⟩
      rw [← hgu] at Ku_16
      simp only [← hw16] at B16 Kx_16 Ky_16 Kz_16 Ku_16
      rw [← hw16, ← hgu]
      clear hw16 hgu B15 Kx_15 Ky_15 Kz_15
      obtain ⟨cx0, cx1, cx2, cx3, cx4, cx5⟩ := cells6 Kx_16.out
      have zx := Kx_16.out.lt
      obtain ⟨cy0, cy1, cy2, cy3, cy4, cy5⟩ := cells6 Ky_16.out
      have zy := Ky_16.out.lt
      obtain ⟨cz0, cz1, cz2, cz3, cz4, cz5⟩ := cells6 Kz_16.out
      have zz := Kz_16.out.lt
      obtain ⟨cu0, cu1, cu2, cu3, cu4, cu5⟩ := cells6 Ku_16.out
      have zu := Ku_16.out.lt
      refine (S_y.out _ (HG.out.keep B16.out) (HS.out.keep B16.out) (HQ.out.keep B16.out)).mono ?_
      rintro e w17 ⟨rfl, hb⟩
      clear cx0 cx1 cx2 cx3 cx4 cx5 zx cy0 cy1 cy2 cy3 cy4 cy5 zy cz0 cz1 cz2 cz3 cz4 cz5 zz cu0 cu1 cu2 cu3 cu4 cu5 zu
      have B17 := Lib.hid (B16.out.trans (hb.mono B16.out.size))
      have Kx_17 := Lib.hid (Kx_16.out.keep hb)
      have Ky_17 := Lib.hid (Ky_16.out.keep hb)
      have Kz_17 := Lib.hid (Kz_16.out.keep hb)
      have Ku_17 := Lib.hid (Ku_16.out.keep hb)
      clear hb B16 Kx_16 Ky_16 Kz_16 Ku_16
      obtain ⟨cx0, cx1, cx2, cx3, cx4, cx5⟩ := cells6 Kx_17.out
      have zx := Kx_17.out.lt
      obtain ⟨cy0, cy1, cy2, cy3, cy4, cy5⟩ := cells6 Ky_17.out
      have zy := Ky_17.out.lt
      obtain ⟨cz0, cz1, cz2, cz3, cz4, cz5⟩ := cells6 Kz_17.out
      have zz := Kz_17.out.lt
      obtain ⟨cu0, cu1, cu2, cu3, cu4, cu5⟩ := cells6 Ku_17.out
      have zu := Ku_17.out.lt
      unfold pv arr6
      go_wp2_with fail
      clear cx0 cx1 cx2 cx3 cx4 cx5 zx cy0 cy1 cy2 cy3 cy4 cy5 zy cz0 cz1 cz2 cz3 cz4 cz5 zz cu0 cu1 cu2 cu3 cu4 cu5 zu
      have B18 := Lib.hid (B17.out.alloc B17.out.size (Obj.cells #[.int .u64 (wd (fe Mp (Wd ^ 6) 0) 0), .int .u64 (wd (fe Mp (Wd ^ 6) 0) 1), .int .u64 (wd (fe Mp (Wd ^ 6) 0) 2), .int .u64 (wd (fe Mp (Wd ^ 6) 0) 3), .int .u64 (wd (fe Mp (Wd ^ 6) 0) 4), .int .u64 (wd (fe Mp (Wd ^ 6) 0) 5)] 28))
      have Kx_18 := Lib.hid (Kx_17.out.alloc (Obj.cells #[.int .u64 (wd (fe Mp (Wd ^ 6) 0) 0), .int .u64 (wd (fe Mp (Wd ^ 6) 0) 1), .int .u64 (wd (fe Mp (Wd ^ 6) 0) 2), .int .u64 (wd (fe Mp (Wd ^ 6) 0) 3), .int .u64 (wd (fe Mp (Wd ^ 6) 0) 4), .int .u64 (wd (fe Mp (Wd ^ 6) 0) 5)] 28))
      have Ky_18 := Lib.hid (Ky_17.out.alloc (Obj.cells #[.int .u64 (wd (fe Mp (Wd ^ 6) 0) 0), .int .u64 (wd (fe Mp (Wd ^ 6) 0) 1), .int .u64 (wd (fe Mp (Wd ^ 6) 0) 2), .int .u64 (wd (fe Mp (Wd ^ 6) 0) 3), .int .u64 (wd (fe Mp (Wd ^ 6) 0) 4), .int .u64 (wd (fe Mp (Wd ^ 6) 0) 5)] 28))
      have Kz_18 := Lib.hid (Kz_17.out.alloc (Obj.cells #[.int .u64 (wd (fe Mp (Wd ^ 6) 0) 0), .int .u64 (wd (fe Mp (Wd ^ 6) 0) 1), .int .u64 (wd (fe Mp (Wd ^ 6) 0) 2), .int .u64 (wd (fe Mp (Wd ^ 6) 0) 3), .int .u64 (wd (fe Mp (Wd ^ 6) 0) 4), .int .u64 (wd (fe Mp (Wd ^ 6) 0) 5)] 28))
      have Ku_18 := Lib.hid (Ku_17.out.alloc (Obj.cells #[.int .u64 (wd (fe Mp (Wd ^ 6) 0) 0), .int .u64 (wd (fe Mp (Wd ^ 6) 0) 1), .int .u64 (wd (fe Mp (Wd ^ 6) 0) 2), .int .u64 (wd (fe Mp (Wd ^ 6) 0) 3), .int .u64 (wd (fe Mp (Wd ^ 6) 0) 4), .int .u64 (wd (fe Mp (Wd ^ 6) 0) 5)] 28))
      have Kv_18 := Lib.hid (Blk.new w17 28 #[.int .u64 (wd (fe Mp (Wd ^ 6) 0) 0), .int .u64 (wd (fe Mp (Wd ^ 6) 0) 1), .int .u64 (wd (fe Mp (Wd ^ 6) 0) 2), .int .u64 (wd (fe Mp (Wd ^ 6) 0) 3), .int .u64 (wd (fe Mp (Wd ^ 6) 0) 4), .int .u64 (wd (fe Mp (Wd ^ 6) 0) 5)])
      obtain ⟨gv, hgv⟩ : ∃ g, g = w17.heap.size := ⟨_, rfl⟩
      obtain ⟨w18, hw18⟩ : ∃ W, W = w17.alloc (Obj.cells #[.int .u64 (wd (fe Mp (Wd ^ 6) 0) 0), .int .u64 (wd (fe Mp (Wd ^ 6) 0) 1), .int .u64 (wd (fe Mp (Wd ^ 6) 0) 2), .int .u64 (wd (fe Mp (Wd ^ 6) 0) 3), .int .u64 (wd (fe Mp (Wd ^ 6) 0) 4), .int .u64 (wd (fe Mp (Wd ^ 6) 0) 5)] 28) := ⟨_, rfl⟩
      rw [← hgv] at Kv_18
      simp only [← hw18] at B18 Kx_18 Ky_18 Kz_18 Ku_18 Kv_18
      rw [← hw18, ← hgv]
      clear hw18 hgv B17 Kx_17 Ky_17 Kz_17 Ku_17
      obtain ⟨cx0, cx1, cx2, cx3, cx4, cx5⟩ := cells6 Kx_18.out
      have zx := Kx_18.out.lt
      obtain ⟨cy0, cy1, cy2, cy3, cy4, cy5⟩ := cells6 Ky_18.out
      have zy := Ky_18.out.lt
      obtain ⟨cz0, cz1, cz2, cz3, cz4, cz5⟩ := cells6 Kz_18.out
      have zz := Kz_18.out.lt
      obtain ⟨cu0, cu1, cu2, cu3, cu4, cu5⟩ := cells6 Ku_18.out
      have zu := Ku_18.out.lt
      obtain ⟨cv0, cv1, cv2, cv3, cv4, cv5⟩ := cells6 Kv_18.out
      have zv := Kv_18.out.lt
      refine (fp_mul X0 X1 _ (HG.out.keep B18.out)).mono ?_
      rintro e w19 ⟨rfl, hb⟩
      clear cx0 cx1 cx2 cx3 cx4 cx5 zx cy0 cy1 cy2 cy3 cy4 cy5 zy cz0 cz1 cz2 cz3 cz4 cz5 zz cu0 cu1 cu2 cu3 cu4 cu5 zu cv0 cv1 cv2 cv3 cv4 cv5 zv
      have B19 := Lib.hid (B18.out.trans (hb.mono B18.out.size))
      have Kx_19 := Lib.hid (Kx_18.out.keep hb)
      have Ky_19 := Lib.hid (Ky_18.out.keep hb)
      have Kz_19 := Lib.hid (Kz_18.out.keep hb)
      have Ku_19 := Lib.hid (Ku_18.out.keep hb)
      have Kv_19 := Lib.hid (Kv_18.out.keep hb)
      clear hb B18 Kx_18 Ky_18 Kz_18 Ku_18 Kv_18
      obtain ⟨cx0, cx1, cx2, cx3, cx4, cx5⟩ := cells6 Kx_19.out
      have zx := Kx_19.out.lt
      obtain ⟨cy0, cy1, cy2, cy3, cy4, cy5⟩ := cells6 Ky_19.out
      have zy := Ky_19.out.lt
      obtain ⟨cz0, cz1, cz2, cz3, cz4, cz5⟩ := cells6 Kz_19.out
      have zz := Kz_19.out.lt
      obtain ⟨cu0, cu1, cu2, cu3, cu4, cu5⟩ := cells6 Ku_19.out
      have zu := Ku_19.out.lt
      obtain ⟨cv0, cv1, cv2, cv3, cv4, cv5⟩ := cells6 Kv_19.out
      have zv := Kv_19.out.lt
      go_wp2_with fail
      refine (S_b.out _ (HG.out.keep B19.out) (HS.out.keep B19.out) (HQ.out.keep B19.out)).mono ?_
      rintro e w20 ⟨rfl, hb⟩
      clear cx0 cx1 cx2 cx3 cx4 cx5 zx cy0 cy1 cy2 cy3 cy4 cy5 zy cz0 cz1 cz2 cz3 cz4 cz5 zz cu0 cu1 cu2 cu3 cu4 cu5 zu cv0 cv1 cv2 cv3 cv4 cv5 zv
      have B20 := Lib.hid (B19.out.trans (hb.mono B19.out.size))
      have Kx_20 := Lib.hid (Kx_19.out.keep hb)
      have Ky_20 := Lib.hid (Ky_19.out.keep hb)
      have Kz_20 := Lib.hid (Kz_19.out.keep hb)
      have Ku_20 := Lib.hid (Ku_19.out.keep hb)
      have Kv_20 := Lib.hid (Kv_19.out.keep hb)
      clear hb B19 Kx_19 Ky_19 Kz_19 Ku_19 Kv_19
      obtain ⟨cx0, cx1, cx2, cx3, cx4, cx5⟩ := cells6 Kx_20.out
      have zx := Kx_20.out.lt
      obtain ⟨cy0, cy1, cy2, cy3, cy4, cy5⟩ := cells6 Ky_20.out
      have zy := Ky_20.out.lt
      obtain ⟨cz0, cz1, cz2, cz3, cz4, cz5⟩ := cells6 Kz_20.out
      have zz := Kz_20.out.lt
      obtain ⟨cu0, cu1, cu2, cu3, cu4, cu5⟩ := cells6 Ku_20.out
      have zu := Ku_20.out.lt
      obtain ⟨cv0, cv1, cv2, cv3, cv4, cv5⟩ := cells6 Kv_20.out
      have zv := Kv_20.out.lt
      unfold pv arr6
      go_wp2_with fail
      clear cx0 cx1 cx2 cx3 cx4 cx5 zx cy0 cy1 cy2 cy3 cy4 cy5 zy cz0 cz1 cz2 cz3 cz4 cz5 zz cu0 cu1 cu2 cu3 cu4 cu5 zu cv0 cv1 cv2 cv3 cv4 cv5 zv
      have B21 := Lib.hid (B20.out.alloc B20.out.size (Obj.cells #[.int .u64 (wd (fe Mp (Wd ^ 6) 0) 0), .int .u64 (wd (fe Mp (Wd ^ 6) 0) 1), .int .u64 (wd (fe Mp (Wd ^ 6) 0) 2), .int .u64 (wd (fe Mp (Wd ^ 6) 0) 3), .int .u64 (wd (fe Mp (Wd ^ 6) 0) 4), .int .u64 (wd (fe Mp (Wd ^ 6) 0) 5)] 28))
      have Kx_21 := Lib.hid (Kx_20.out.alloc (Obj.cells #[.int .u64 (wd (fe Mp (Wd ^ 6) 0) 0), .int .u64 (wd (fe Mp (Wd ^ 6) 0) 1), .int .u64 (wd (fe Mp (Wd ^ 6) 0) 2), .int .u64 (wd (fe Mp (Wd ^ 6) 0) 3), .int .u64 (wd (fe Mp (Wd ^ 6) 0) 4), .int .u64 (wd (fe Mp (Wd ^ 6) 0) 5)] 28))
      have Ky_21 := Lib.hid (Ky_20.out.alloc (Obj.cells #[.int .u64 (wd (fe Mp (Wd ^ 6) 0) 0), .int .u64 (wd (fe Mp (Wd ^ 6) 0) 1), .int .u64 (wd (fe Mp (Wd ^ 6) 0) 2), .int .u64 (wd (fe Mp (Wd ^ 6) 0) 3), .int .u64 (wd (fe Mp (Wd ^ 6) 0) 4), .int .u64 (wd (fe Mp (Wd ^ 6) 0) 5)] 28))
      have Kz_21 := Lib.hid (Kz_20.out.alloc (Obj.cells #[.int .u64 (wd (fe Mp (Wd ^ 6) 0) 0), .int .u64 (wd (fe Mp (Wd ^ 6) 0) 1), .int .u64 (wd (fe Mp (Wd ^ 6) 0) 2), .int .u64 (wd (fe Mp (Wd ^ 6) 0) 3), .int .u64 (wd (fe Mp (Wd ^ 6) 0) 4), .int .u64 (wd (fe Mp (Wd ^ 6) 0) 5)] 28))
      have Ku_21 := Lib.hid (Ku_20.out.alloc (Obj.cells #[.int .u64 (wd (fe Mp (Wd ^ 6) 0) 0), .int .u64 (wd (fe Mp (Wd ^ 6) 0) 1), .int .u64 (wd (fe Mp (Wd ^ 6) 0) 2), .int .u64 (wd (fe Mp (Wd ^ 6) 0) 3), .int .u64 (wd (fe Mp (Wd ^ 6) 0) 4), .int .u64 (wd (fe Mp (Wd ^ 6) 0) 5)] 28))
      have Kv_21 := Lib.hid (Kv_20.out.alloc (Obj.cells #[.int .u64 (wd (fe Mp (Wd ^ 6) 0) 0), .int .u64 (wd (fe Mp (Wd ^ 6) 0) 1), .int .u64 (wd (fe Mp (Wd ^ 6) 0) 2), .int .u64 (wd (fe Mp (Wd ^ 6) 0) 3), .int .u64 (wd (fe Mp (Wd ^ 6) 0) 4), .int .u64 (wd (fe Mp (Wd ^ 6) 0) 5)] 28))
      have Ko_21 := Lib.hid (Blk.new w20 28 #[.int .u64 (wd (fe Mp (Wd ^ 6) 0) 0), .int .u64 (wd (fe Mp (Wd ^ 6) 0) 1), .int .u64 (wd (fe Mp (Wd ^ 6) 0) 2), .int .u64 (wd (fe Mp (Wd ^ 6) 0) 3), .int .u64 (wd (fe Mp (Wd ^ 6) 0) 4), .int .u64 (wd (fe Mp (Wd ^ 6) 0) 5)])
      obtain ⟨go, hgo⟩ : ∃ g, g = w20.heap.size := ⟨_, rfl⟩
      obtain ⟨w21, hw21⟩ : ∃ W, W = w20.alloc (Obj.cells #[.int .u64 (wd (fe Mp (Wd ^ 6) 0) 0), .int .u64 (wd (fe Mp (Wd ^ 6) 0) 1), .int .u64 (wd (fe Mp (Wd ^ 6) 0) 2), .int .u64 (wd (fe Mp (Wd ^ 6) 0) 3), .int .u64 (wd (fe Mp (Wd ^ 6) 0) 4), .int .u64 (wd (fe Mp (Wd ^ 6) 0) 5)] 28) := ⟨_, rfl⟩
      rw [← hgo] at Ko_21
      simp only [← hw21] at B21 Kx_21 Ky_21 Kz_21 Ku_21 Kv_21 Ko_21
      rw [← hw21, ← hgo]
      clear hw21 hgo B20 Kx_20 Ky_20 Kz_20 Ku_20 Kv_20
      obtain ⟨cx0, cx1, cx2, cx3, cx4, cx5⟩ := cells6 Kx_21.out
      have zx := Kx_21.out.lt
      obtain ⟨cy0, cy1, cy2, cy3, cy4, cy5⟩ := cells6 Ky_21.out
      have zy := Ky_21.out.lt
      obtain ⟨cz0, cz1, cz2, cz3, cz4, cz5⟩ := cells6 Kz_21.out
      have zz := Kz_21.out.lt
      obtain ⟨cu0, cu1, cu2, cu3, cu4, cu5⟩ := cells6 Ku_21.out
      have zu := Ku_21.out.lt
      obtain ⟨cv0, cv1, cv2, cv3, cv4, cv5⟩ := cells6 Kv_21.out
      have zv := Kv_21.out.lt
      obtain ⟨co0, co1, co2, co3, co4, co5⟩ := cells6 Ko_21.out
      have zo := Ko_21.out.lt
      refine (fp_zero X0 _).mono ?_
      rintro e w22 ⟨rfl, hb⟩
      clear cx0 cx1 cx2 cx3 cx4 cx5 zx cy0 cy1 cy2 cy3 cy4 cy5 zy cz0 cz1 cz2 cz3 cz4 cz5 zz cu0 cu1 cu2 cu3 cu4 cu5 zu cv0 cv1 cv2 cv3 cv4 cv5 zv co0 co1 co2 co3 co4 co5 zo
      have B22 := Lib.hid (B21.out.trans (hb.mono B21.out.size))
      have Kx_22 := Lib.hid (Kx_21.out.keep hb)
      have Ky_22 := Lib.hid (Ky_21.out.keep hb)
      have Kz_22 := Lib.hid (Kz_21.out.keep hb)
      have Ku_22 := Lib.hid (Ku_21.out.keep hb)
      have Kv_22 := Lib.hid (Kv_21.out.keep hb)
      have Ko_22 := Lib.hid (Ko_21.out.keep hb)
      clear hb B21 Kx_21 Ky_21 Kz_21 Ku_21 Kv_21 Ko_21
      obtain ⟨cx0, cx1, cx2, cx3, cx4, cx5⟩ := cells6 Kx_22.out
      have zx := Kx_22.out.lt
      obtain ⟨cy0, cy1, cy2, cy3, cy4, cy5⟩ := cells6 Ky_22.out
      have zy := Ky_22.out.lt
      obtain ⟨cz0, cz1, cz2, cz3, cz4, cz5⟩ := cells6 Kz_22.out
      have zz := Kz_22.out.lt
      obtain ⟨cu0, cu1, cu2, cu3, cu4, cu5⟩ := cells6 Ku_22.out
      have zu := Ku_22.out.lt
      obtain ⟨cv0, cv1, cv2, cv3, cv4, cv5⟩ := cells6 Kv_22.out
      have zv := Kv_22.out.lt
      obtain ⟨co0, co1, co2, co3, co4, co5⟩ := cells6 Ko_22.out
      have zo := Ko_22.out.lt
      rw [ZX.out]
      go_wp2_with fail
      refine (fp_zero X1 _).mono ?_
      rintro e w23 ⟨rfl, hb⟩
      clear cx0 cx1 cx2 cx3 cx4 cx5 zx cy0 cy1 cy2 cy3 cy4 cy5 zy cz0 cz1 cz2 cz3 cz4 cz5 zz cu0 cu1 cu2 cu3 cu4 cu5 zu cv0 cv1 cv2 cv3 cv4 cv5 zv co0 co1 co2 co3 co4 co5 zo
      have B23 := Lib.hid (B22.out.trans (hb.mono B22.out.size))
      have Kx_23 := Lib.hid (Kx_22.out.keep hb)
      have Ky_23 := Lib.hid (Ky_22.out.keep hb)
      have Kz_23 := Lib.hid (Kz_22.out.keep hb)
      have Ku_23 := Lib.hid (Ku_22.out.keep hb)
      have Kv_23 := Lib.hid (Kv_22.out.keep hb)
      have Ko_23 := Lib.hid (Ko_22.out.keep hb)
      clear hb B22 Kx_22 Ky_22 Kz_22 Ku_22 Kv_22 Ko_22
      obtain ⟨cx0, cx1, cx2, cx3, cx4, cx5⟩ := cells6 Kx_23.out
      have zx := Kx_23.out.lt
      obtain ⟨cy0, cy1, cy2, cy3, cy4, cy5⟩ := cells6 Ky_23.out
      have zy := Ky_23.out.lt
      obtain ⟨cz0, cz1, cz2, cz3, cz4, cz5⟩ := cells6 Kz_23.out
      have zz := Kz_23.out.lt
      obtain ⟨cu0, cu1, cu2, cu3, cu4, cu5⟩ := cells6 Ku_23.out
      have zu := Ku_23.out.lt
      obtain ⟨cv0, cv1, cv2, cv3, cv4, cv5⟩ := cells6 Kv_23.out
      have zv := Kv_23.out.lt
      obtain ⟨co0, co1, co2, co3, co4, co5⟩ := cells6 Ko_23.out
      have zo := Ko_23.out.lt
      rw [ZY.out]
      go_wp2_with fail
      go_ret
      exact ⟨rfl, B23.out⟩
  · by_cases hy : X1 ^ Qp * X1 ^ Qp % Mp = X1 % Mp
    · have hb : ¬ (X0 * X1) ^ Qp * (X0 * X1) ^ Qp % Mp = X0 * X1 % Mp := by rw [hm]; simp [hx, hy]
      clear hm
      have hs := fun W a b c => fp_sqrt_no (X0) W a b c hx
      simp only [pv_zero] at hs
      have S_x := Lib.hid hs
      clear hs
      obtain ⟨Ry, hRy⟩ : ∃ R, R = (X1) ^ Qp := ⟨_, rfl⟩
      have hs := fun W a b c => fp_sqrt_yes (X1) W a b c hy
      simp only [← hRy] at hs
      have S_y := Lib.hid hs
      clear hs hRy
      have hs := fun W a b c => fp_sqrt_no (X0 * X1) W a b c hb
      simp only [pv_zero] at hs
      have S_b := Lib.hid hs
      clear hs
      have ZX := Lib.hid (show decide (X0 % Mp = 0) = false by simpa using zx)
      have ZY := Lib.hid (show decide (X1 % Mp = 0) = false by simpa using zy)
      clear hb
      clear hx
      clear hy
      clear zx
      clear zy
      go_wp2_with fail
      refine (S_x.out _ (HG.out.keep B14.out) (HS.out.keep B14.out) (HQ.out.keep B14.out)).mono ?_
      rintro e w15 ⟨rfl, hb⟩
      clear cx0 cx1 cx2 cx3 cx4 cx5 zx cy0 cy1 cy2 cy3 cy4 cy5 zy cz0 cz1 cz2 cz3 cz4 cz5 zz
      have B15 := Lib.hid (B14.out.trans (hb.mono B14.out.size))
      have Kx_15 := Lib.hid (Kx_14.out.keep hb)
      have Ky_15 := Lib.hid (Ky_14.out.keep hb)
      have Kz_15 := Lib.hid (Kz_14.out.keep hb)
      clear hb B14 Kx_14 Ky_14 Kz_14
      obtain ⟨cx0, cx1, cx2, cx3, cx4, cx5⟩ := cells6 Kx_15.out
      have zx := Kx_15.out.lt
      obtain ⟨cy0, cy1, cy2, cy3, cy4, cy5⟩ := cells6 Ky_15.out
      have zy := Ky_15.out.lt
      obtain ⟨cz0, cz1, cz2, cz3, cz4, cz5⟩ := cells6 Kz_15.out
      have zz := Kz_15.out.lt
      unfold pv arr6
      go_wp2_with fail
      clear cx0 cx1 cx2 cx3 cx4 cx5 zx cy0 cy1 cy2 cy3 cy4 cy5 zy cz0 cz1 cz2 cz3 cz4 cz5 zz
      have B16 := Lib.hid (B15.out.alloc B15.out.size (Obj.cells #[.int .u64 (wd (fe Mp (Wd ^ 6) 0) 0), .int .u64 (wd (fe Mp (Wd ^ 6) 0) 1), .int .u64 (wd (fe Mp (Wd ^ 6) 0) 2), .int .u64 (wd (fe Mp (Wd ^ 6) 0) 3), .int .u64 (wd (fe Mp (Wd ^ 6) 0) 4), .int .u64 (wd (fe Mp (Wd ^ 6) 0) 5)] 28))
      have Kx_16 := Lib.hid (Kx_15.out.alloc (Obj.cells #[.int .u64 (wd (fe Mp (Wd ^ 6) 0) 0), .int .u64 (wd (fe Mp (Wd ^ 6) 0) 1), .int .u64 (wd (fe Mp (Wd ^ 6) 0) 2), .int .u64 (wd (fe Mp (Wd ^ 6) 0) 3), .int .u64 (wd (fe Mp (Wd ^ 6) 0) 4), .int .u64 (wd (fe Mp (Wd ^ 6) 0) 5)] 28))
      have Ky_16 := Lib.hid (Ky_15.out.alloc (Obj.cells #[.int .u64 (wd (fe Mp (Wd ^ 6) 0) 0), .int .u64 (wd (fe Mp (Wd ^ 6) 0) 1), .int .u64 (wd (fe Mp (Wd ^ 6) 0) 2), .int .u64 (wd (fe Mp (Wd ^ 6) 0) 3), .int .u64 (wd (fe Mp (Wd ^ 6) 0) 4), .int .u64 (wd (fe Mp (Wd ^ 6) 0) 5)] 28))
      have Kz_16 := Lib.hid (Kz_15.out.alloc (Obj.cells #[.int .u64 (wd (fe Mp (Wd ^ 6) 0) 0), .int .u64 (wd (fe Mp (Wd ^ 6) 0) 1), .int .u64 (wd (fe Mp (Wd ^ 6) 0) 2), .int .u64 (wd (fe Mp (Wd ^ 6) 0) 3), .int .u64 (wd (fe Mp (Wd ^ 6) 0) 4), .int .u64 (wd (fe Mp (Wd ^ 6) 0) 5)] 28))
      have Ku_16 := Lib.hid (Blk.new w15 28 #[.int .u64 (wd (fe Mp (Wd ^ 6) 0) 0), .int .u64 (wd (fe Mp (Wd ^ 6) 0) 1), .int .u64 (wd (fe Mp (Wd ^ 6) 0) 2), .int .u64 (wd (fe Mp (Wd ^ 6) 0) 3), .int .u64 (wd (fe Mp (Wd ^ 6) 0) 4), .int .u64 (wd (fe Mp (Wd ^ 6) 0) 5)])
      obtain ⟨gu, hgu⟩ : ∃ g, g = w15.heap.size := ⟨_, rfl⟩
      obtain ⟨w16, hw16⟩ : ∃ W, W = w15.alloc (Obj.cells #[.int .u64 (wd (fe Mp (Wd ^ 6) 0) 0), .int .u64 (wd (fe Mp (Wd ^ 6) 0) 1), .int .u64 (wd (fe Mp (Wd ^ 6) 0) 2), .int .u64 (wd (fe Mp (Wd ^ 6) 0) 3), .int .u64 (wd (fe Mp (Wd ^ 6) 0) 4), .int .u64 (wd (fe Mp (Wd ^ 6) 0) 5)] 28) := ⟨_, rfl⟩
      rw [← hgu] at Ku_16
      simp only [← hw16] at B16 Kx_16 Ky_16 Kz_16 Ku_16
      rw [← hw16, ← hgu]
      clear hw16 hgu B15 Kx_15 Ky_15 Kz_15
      obtain ⟨cx0, cx1, cx2, cx3, cx4, cx5⟩ := cells6 Kx_16.out
      have zx := Kx_16.out.lt
      obtain ⟨cy0, cy1, cy2, cy3, cy4, cy5⟩ := cells6 Ky_16.out
      have zy := Ky_16.out.lt
      obtain ⟨cz0, cz1, cz2, cz3, cz4, cz5⟩ := cells6 Kz_16.out
      have zz := Kz_16.out.lt
      obtain ⟨cu0, cu1, cu2, cu3, cu4, cu5⟩ := cells6 Ku_16.out
      have zu := Ku_16.out.lt
      refine (S_y.out _ (HG.out.keep B16.out) (HS.out.keep B16.out) (HQ.out.keep B16.out)).mono ?_
      rintro e w17 ⟨rfl, hb⟩
      clear cx0 cx1 cx2 cx3 cx4 cx5 zx cy0 cy1 cy2 cy3 cy4 cy5 zy cz0 cz1 cz2 cz3 cz4 cz5 zz cu0 cu1 cu2 cu3 cu4 cu5 zu
      have B17 := Lib.hid (B16.out.trans (hb.mono B16.out.size))
      have Kx_17 := Lib.hid (Kx_16.out.keep hb)
      have Ky_17 := Lib.hid (Ky_16.out.keep hb)
      have Kz_17 := Lib.hid (Kz_16.out.keep hb)
      have Ku_17 := Lib.hid (Ku_16.out.keep hb)
      clear hb B16 Kx_16 Ky_16 Kz_16 Ku_16
      obtain ⟨cx0, cx1, cx2, cx3, cx4, cx5⟩ := cells6 Kx_17.out
      have zx := Kx_17.out.lt
      obtain ⟨cy0, cy1, cy2, cy3, cy4, cy5⟩ := cells6 Ky_17.out
      have zy := Ky_17.out.lt
      obtain ⟨cz0, cz1, cz2, cz3, cz4, cz5⟩ := cells6 Kz_17.out
      have zz := Kz_17.out.lt
      obtain ⟨cu0, cu1, cu2, cu3, cu4, cu5⟩ := cells6 Ku_17.out
      have zu := Ku_17.out.lt
      unfold pv arr6
      go_wp2_with fail
      clear cx0 cx1 cx2 cx3 cx4 cx5 zx cy0 cy1 cy2 cy3 cy4 cy5 zy cz0 cz1 cz2 cz3 cz4 cz5 zz cu0 cu1 cu2 cu3 cu4 cu5 zu
      have B18 := Lib.hid (B17.out.alloc B17.out.size (Obj.cells #[.int .u64 (wd (fe Mp (Wd ^ 6) Ry) 0), .int .u64 (wd (fe Mp (Wd ^ 6) Ry) 1), .int .u64 (wd (fe Mp (Wd ^ 6) Ry) 2), .int .u64 (wd (fe Mp (Wd ^ 6) Ry) 3), .int .u64 (wd (fe Mp (Wd ^ 6) Ry) 4), .int .u64 (wd (fe Mp (Wd ^ 6) Ry) 5)] 28))
      have Kx_18 := Lib.hid (Kx_17.out.alloc (Obj.cells #[.int .u64 (wd (fe Mp (Wd ^ 6) Ry) 0), .int .u64 (wd (fe Mp (Wd ^ 6) Ry) 1), .int .u64 (wd (fe Mp (Wd ^ 6) Ry) 2), .int .u64 (wd (fe Mp (Wd ^ 6) Ry) 3), .int .u64 (wd (fe Mp (Wd ^ 6) Ry) 4), .int .u64 (wd (fe Mp (Wd ^ 6) Ry) 5)] 28))
      have Ky_18 := Lib.hid (Ky_17.out.alloc (Obj.cells #[.int .u64 (wd (fe Mp (Wd ^ 6) Ry) 0), .int .u64 (wd (fe Mp (Wd ^ 6) Ry) 1), .int .u64 (wd (fe Mp (Wd ^ 6) Ry) 2), .int .u64 (wd (fe Mp (Wd ^ 6) Ry) 3), .int .u64 (wd (fe Mp (Wd ^ 6) Ry) 4), .int .u64 (wd (fe Mp (Wd ^ 6) Ry) 5)] 28))
      have Kz_18 := Lib.hid (Kz_17.out.alloc (Obj.cells #[.int .u64 (wd (fe Mp (Wd ^ 6) Ry) 0), .int .u64 (wd (fe Mp (Wd ^ 6) Ry) 1), .int .u64 (wd (fe Mp (Wd ^ 6) Ry) 2), .int .u64 (wd (fe Mp (Wd ^ 6) Ry) 3), .int .u64 (wd (fe Mp (Wd ^ 6) Ry) 4), .int .u64 (wd (fe Mp (Wd ^ 6) Ry) 5)] 28))
      have Ku_18 := Lib.hid (Ku_17.out.alloc (Obj.cells #[.int .u64 (wd (fe Mp (Wd ^ 6) Ry) 0), .int .u64 (wd (fe Mp (Wd ^ 6) Ry) 1), .int .u64 (wd (fe Mp (Wd ^ 6) Ry) 2), .int .u64 (wd (fe Mp (Wd ^ 6) Ry) 3), .int .u64 (wd (fe Mp (Wd ^ 6) Ry) 4), .int .u64 (wd (fe Mp (Wd ^ 6) Ry) 5)] 28))
      have Kv_18 := Lib.hid (Blk.new w17 28 #[.int .u64 (wd (fe Mp (Wd ^ 6) Ry) 0), .int .u64 (wd (fe Mp (Wd ^ 6) Ry) 1), .int .u64 (wd (fe Mp (Wd ^ 6) Ry) 2), .int .u64 (wd (fe Mp (Wd ^ 6) Ry) 3), .int .u64 (wd (fe Mp (Wd ^ 6) Ry) 4), .int .u64 (wd (fe Mp (Wd ^ 6) Ry) 5)])
      obtain ⟨gv, hgv⟩ : ∃ g, g = w17.heap.size := ⟨_, rfl⟩
      obtain ⟨w18, hw18⟩ : ∃ W, W = w17.alloc (Obj.cells #[.int .u64 (wd (fe Mp (Wd ^ 6) Ry) 0), .int .u64 (wd (fe Mp (Wd ^ 6) Ry) 1), .int .u64 (wd (fe Mp (Wd ^ 6) Ry) 2), .int .u64 (wd (fe Mp (Wd ^ 6) Ry) 3), .int .u64 (wd (fe Mp (Wd ^ 6) Ry) 4), .int .u64 (wd (fe Mp (Wd ^ 6) Ry) 5)] 28) := ⟨_, rfl⟩
      rw [← hgv] at Kv_18
      simp only [← hw18] at B18 Kx_18 Ky_18 Kz_18 Ku_18 Kv_18
      rw [← hw18, ← hgv]
      clear hw18 hgv B17 Kx_17 Ky_17 Kz_17 Ku_17
      obtain ⟨cx0, cx1, cx2, cx3, cx4, cx5⟩ := cells6 Kx_18.out
      have zx := Kx_18.out.lt
      obtain ⟨cy0, cy1, cy2, cy3, cy4, cy5⟩ := cells6 Ky_18.out
      have zy := Ky_18.out.lt
      obtain ⟨cz0, cz1, cz2, cz3, cz4, cz5⟩ := cells6 Kz_18.out
      have zz := Kz_18.out.lt
      obtain ⟨cu0, cu1, cu2, cu3, cu4, cu5⟩ := cells6 Ku_18.out
      have zu := Ku_18.out.lt
      obtain ⟨cv0, cv1, cv2, cv3, cv4, cv5⟩ := cells6 Kv_18.out
      have zv := Kv_18.out.lt
      refine (fp_mul X0 X1 _ (HG.out.keep B18.out)).mono ?_
      rintro e w19 ⟨rfl, hb⟩
      clear cx0 cx1 cx2 cx3 cx4 cx5 zx cy0 cy1 cy2 cy3 cy4 cy5 zy cz0 cz1 cz2 cz3 cz4 cz5 zz cu0 cu1 cu2 cu3 cu4 cu5 zu cv0 cv1 cv2 cv3 cv4 cv5 zv
      have B19 := Lib.hid (B18.out.trans (hb.mono B18.out.size))
      have Kx_19 := Lib.hid (Kx_18.out.keep hb)
      have Ky_19 := Lib.hid (Ky_18.out.keep hb)
      have Kz_19 := Lib.hid (Kz_18.out.keep hb)
      have Ku_19 := Lib.hid (Ku_18.out.keep hb)
      have Kv_19 := Lib.hid (Kv_18.out.keep hb)
      clear hb B18 Kx_18 Ky_18 Kz_18 Ku_18 Kv_18
      obtain ⟨cx0, cx1, cx2, cx3, cx4, cx5⟩ := cells6 Kx_19.out
      have zx := Kx_19.out.lt
      obtain ⟨cy0, cy1, cy2, cy3, cy4, cy5⟩ := cells6 Ky_19.out
      have zy := Ky_19.out.lt
      obtain ⟨cz0, cz1, cz2, cz3, cz4, cz5⟩ := cells6 Kz_19.out
      have zz := Kz_19.out.lt
      obtain ⟨cu0, cu1, cu2, cu3, cu4, cu5⟩ := cells6 Ku_19.out
      have zu := Ku_19.out.lt
      obtain ⟨cv0, cv1, cv2, cv3, cv4, cv5⟩ := cells6 Kv_19.out
      have zv := Kv_19.out.lt
      go_wp2_with fail
      refine (S_b.out _ (HG.out.keep B19.out) (HS.out.keep B19.out) (HQ.out.keep B19.out)).mono ?_
      rintro e w20 ⟨rfl, hb⟩
      clear cx0 cx1 cx2 cx3 cx4 cx5 zx cy0 cy1 cy2 cy3 cy4 cy5 zy cz0 cz1 cz2 cz3 cz4 cz5 zz cu0 cu1 cu2 cu3 cu4 cu5 zu cv0 cv1 cv2 cv3 cv4 cv5 zv
      have B20 := Lib.hid (B19.out.trans (hb.mono B19.out.size))
      have Kx_20 := Lib.hid (Kx_19.out.keep hb)
      have Ky_20 := Lib.hid (Ky_19.out.keep hb)
      have Kz_20 := Lib.hid (Kz_19.out.keep hb)
      have Ku_20 := Lib.hid (Ku_19.out.keep hb)
      have Kv_20 := Lib.hid (Kv_19.out.keep hb)
      clear hb B19 Kx_19 Ky_19 Kz_19 Ku_19 Kv_19
      obtain ⟨cx0, cx1, cx2, cx3, cx4, cx5⟩ := cells6 Kx_20.out
      have zx := Kx_20.out.lt
      obtain ⟨cy0, cy1, cy2, cy3, cy4, cy5⟩ := cells6 Ky_20.out
      have zy := Ky_20.out.lt
      obtain ⟨cz0, cz1, cz2, cz3, cz4, cz5⟩ := cells6 Kz_20.out
      have zz := Kz_20.out.lt
      obtain ⟨cu0, cu1, cu2, cu3, cu4, cu5⟩ := cells6 Ku_20.out
      have zu := Ku_20.out.lt
      obtain ⟨cv0, cv1, cv2, cv3, cv4, cv5⟩ := cells6 Kv_20.out
      have zv := Kv_20.out.lt
      unfold pv arr6
      go_wp2_with fail
      clear cx0 cx1 cx2 cx3 cx4 cx5 zx cy0 cy1 cy2 cy3 cy4 cy5 zy cz0 cz1 cz2 cz3 cz4 cz5 zz cu0 cu1 cu2 cu3 cu4 cu5 zu cv0 cv1 cv2 cv3 cv4 cv5 zv
      have B21 := Lib.hid (B20.out.alloc B20.out.size (Obj.cells #[.int .u64 (wd (fe Mp (Wd ^ 6) 0) 0), .int .u64 (wd (fe Mp (Wd ^ 6) 0) 1), .int .u64 (wd (fe Mp (Wd ^ 6) 0) 2), .int .u64 (wd (fe Mp (Wd ^ 6) 0) 3), .int .u64 (wd (fe Mp (Wd ^ 6) 0) 4), .int .u64 (wd (fe Mp (Wd ^ 6) 0) 5)] 28))
      have Kx_21 := Lib.hid (Kx_20.out.alloc (Obj.cells #[.int .u64 (wd (fe Mp (Wd ^ 6) 0) 0), .int .u64 (wd (fe Mp (Wd ^ 6) 0) 1), .int .u64 (wd (fe Mp (Wd ^ 6) 0) 2), .int .u64 (wd (fe Mp (Wd ^ 6) 0) 3), .int .u64 (wd (fe Mp (Wd ^ 6) 0) 4), .int .u64 (wd (fe Mp (Wd ^ 6) 0) 5)] 28))
      have Ky_21 := Lib.hid (Ky_20.out.alloc (Obj.cells #[.int .u64 (wd (fe Mp (Wd ^ 6) 0) 0), .int .u64 (wd (fe Mp (Wd ^ 6) 0) 1), .int .u64 (wd (fe Mp (Wd ^ 6) 0) 2), .int .u64 (wd (fe Mp (Wd ^ 6) 0) 3), .int .u64 (wd (fe Mp (Wd ^ 6) 0) 4), .int .u64 (wd (fe Mp (Wd ^ 6) 0) 5)] 28))
      have Kz_21 := Lib.hid (Kz_20.out.alloc (Obj.cells #[.int .u64 (wd (fe Mp (Wd ^ 6) 0) 0), .int .u64 (wd (fe Mp (Wd ^ 6) 0) 1), .int .u64 (wd (fe Mp (Wd ^ 6) 0) 2), .int .u64 (wd (fe Mp (Wd ^ 6) 0) 3), .int .u64 (wd (fe Mp (Wd ^ 6) 0) 4), .int .u64 (wd (fe Mp (Wd ^ 6) 0) 5)] 28))
      have Ku_21 := Lib.hid (Ku_20.out.alloc (Obj.cells #[.int .u64 (wd (fe Mp (Wd ^ 6) 0) 0), .int .u64 (wd (fe Mp (Wd ^ 6) 0) 1), .int .u64 (wd (fe Mp (Wd ^ 6) 0) 2), .int .u64 (wd (fe Mp (Wd ^ 6) 0) 3), .int .u64 (wd (fe Mp (Wd ^ 6) 0) 4), .int .u64 (wd (fe Mp (Wd ^ 6) 0) 5)] 28))
      have Kv_21 := Lib.hid (Kv_20.out.alloc (Obj.cells #[.int .u64 (wd (fe Mp (Wd ^ 6) 0) 0), .int .u64 (wd (fe Mp (Wd ^ 6) 0) 1), .int .u64 (wd (fe Mp (Wd ^ 6) 0) 2), .int .u64 (wd (fe Mp (Wd ^ 6) 0) 3), .int .u64 (wd (fe Mp (Wd ^ 6) 0) 4), .int .u64 (wd (fe Mp (Wd ^ 6) 0) 5)] 28))
      have Ko_21 := Lib.hid (Blk.new w20 28 #[.int .u64 (wd (fe Mp (Wd ^ 6) 0) 0), .int .u64 (wd (fe Mp (Wd ^ 6) 0) 1), .int .u64 (wd (fe Mp (Wd ^ 6) 0) 2), .int .u64 (wd (fe Mp (Wd ^ 6) 0) 3), .int .u64 (wd (fe Mp (Wd ^ 6) 0) 4), .int .u64 (wd (fe Mp (Wd ^ 6) 0) 5)])
      obtain ⟨go, hgo⟩ : ∃ g, g = w20.heap.size := ⟨_, rfl⟩
      obtain ⟨w21, hw21⟩ : ∃ W, W = w20.alloc (Obj.cells #[.int .u64 (wd (fe Mp (Wd ^ 6) 0) 0), .int .u64 (wd (fe Mp (Wd ^ 6) 0) 1), .int .u64 (wd (fe Mp (Wd ^ 6) 0) 2), .int .u64 (wd (fe Mp (Wd ^ 6) 0) 3), .int .u64 (wd (fe Mp (Wd ^ 6) 0) 4), .int .u64 (wd (fe Mp (Wd ^ 6) 0) 5)] 28) := ⟨_, rfl⟩
      rw [← hgo] at Ko_21
      simp only [← hw21] at B21 Kx_21 Ky_21 Kz_21 Ku_21 Kv_21 Ko_21
      rw [← hw21, ← hgo]
      clear hw21 hgo B20 Kx_20 Ky_20 Kz_20 Ku_20 Kv_20
      obtain ⟨cx0, cx1, cx2, cx3, cx4, cx5⟩ := cells6 Kx_21.out
      have zx := Kx_21.out.lt
      obtain ⟨cy0, cy1, cy2, cy3, cy4, cy5⟩ := cells6 Ky_21.out
      have zy := Ky_21.out.lt
      obtain ⟨cz0, cz1, cz2, cz3, cz4, cz5⟩ := cells6 Kz_21.out
      have zz := Kz_21.out.lt
      obtain ⟨cu0, cu1, cu2, cu3, cu4, cu5⟩ := cells6 Ku_21.out
      have zu := Ku_21.out.lt
      obtain ⟨cv0, cv1, cv2, cv3, cv4, cv5⟩ := cells6 Kv_21.out
      have zv := Kv_21.out.lt
      obtain ⟨co0, co1, co2, co3, co4, co5⟩ := cells6 Ko_21.out
      have zo := Ko_21.out.lt
      refine (fp_zero X0 _).mono ?_
      rintro e w22 ⟨rfl, hb⟩
      clear cx0 cx1 cx2 cx3 cx4 cx5 zx cy0 cy1 cy2 cy3 cy4 cy5 zy cz0 cz1 cz2 cz3 cz4 cz5 zz cu0 cu1 cu2 cu3 cu4 cu5 zu cv0 cv1 cv2 cv3 cv4 cv5 zv co0 co1 co2 co3 co4 co5 zo
      have B22 := Lib.hid (B21.out.trans (hb.mono B21.out.size))
      have Kx_22 := Lib.hid (Kx_21.out.keep hb)
      have Ky_22 := Lib.hid (Ky_21.out.keep hb)
      have Kz_22 := Lib.hid (Kz_21.out.keep hb)
      have Ku_22 := Lib.hid (Ku_21.out.keep hb)
      have Kv_22 := Lib.hid (Kv_21.out.keep hb)
      have Ko_22 := Lib.hid (Ko_21.out.keep hb)
      clear hb B21 Kx_21 Ky_21 Kz_21 Ku_21 Kv_21 Ko_21
      obtain ⟨cx0, cx1, cx2, cx3, cx4, cx5⟩ := cells6 Kx_22.out
      have zx := Kx_22.out.lt
      obtain ⟨cy0, cy1, cy2, cy3, cy4, cy5⟩ := cells6 Ky_22.out
      have zy := Ky_22.out.lt
      obtain ⟨cz0, cz1, cz2, cz3, cz4, cz5⟩ := cells6 Kz_22.out
      have zz := Kz_22.out.lt
      obtain ⟨cu0, cu1, cu2, cu3, cu4, cu5⟩ := cells6 Ku_22.out
      have zu := Ku_22.out.lt
      obtain ⟨cv0, cv1, cv2, cv3, cv4, cv5⟩ := cells6 Kv_22.out
      have zv := Kv_22.out.lt
      obtain ⟨co0, co1, co2, co3, co4, co5⟩ := cells6 Ko_22.out
      have zo := Ko_22.out.lt
      rw [ZX.out]
      go_wp2_with fail
      refine (fp_zero X1 _).mono ?_
      rintro e w23 ⟨rfl, hb⟩
      clear cx0 cx1 cx2 cx3 cx4 cx5 zx cy0 cy1 cy2 cy3 cy4 cy5 zy cz0 cz1 cz2 cz3 cz4 cz5 zz cu0 cu1 cu2 cu3 cu4 cu5 zu cv0 cv1 cv2 cv3 cv4 cv5 zv co0 co1 co2 co3 co4 co5 zo
      have B23 := Lib.hid (B22.out.trans (hb.mono B22.out.size))
      have Kx_23 := Lib.hid (Kx_22.out.keep hb)
      have Ky_23 := Lib.hid (Ky_22.out.keep hb)
      have Kz_23 := Lib.hid (Kz_22.out.keep hb)
      have Ku_23 := Lib.hid (Ku_22.out.keep hb)
      have Kv_23 := Lib.hid (Kv_22.out.keep hb)
      have Ko_23 := Lib.hid (Ko_22.out.keep hb)
      clear hb B22 Kx_22 Ky_22 Kz_22 Ku_22 Kv_22 Ko_22
      obtain ⟨cx0, cx1, cx2, cx3, cx4, cx5⟩ := cells6 Kx_23.out
      have zx := Kx_23.out.lt
      obtain ⟨cy0, cy1, cy2, cy3, cy4, cy5⟩ := cells6 Ky_23.out
      have zy := Ky_23.out.lt
      obtain ⟨cz0, cz1, cz2, cz3, cz4, cz5⟩ := cells6 Kz_23.out
      have zz := Kz_23.out.lt
      obtain ⟨cu0, cu1, cu2, cu3, cu4, cu5⟩ := cells6 Ku_23.out
      have zu := Ku_23.out.lt
      obtain ⟨cv0, cv1, cv2, cv3, cv4, cv5⟩ := cells6 Kv_23.out
      have zv := Kv_23.out.lt
      obtain ⟨co0, co1, co2, co3, co4, co5⟩ := cells6 Ko_23.out
      have zo := Ko_23.out.lt
      rw [ZY.out]
      go_wp2_with fail
      go_ret
      exact ⟨rfl, B23.out⟩
    · have hb : (X0 * X1) ^ Qp * (X0 * X1) ^ Qp % Mp = X0 * X1 % Mp := by rw [hm]; simp [hx, hy]
      clear hm
      have hs := fun W a b c => fp_sqrt_no (X0) W a b c hx
      simp only [pv_zero] at hs
      have S_x := Lib.hid hs
      clear hs
      have hs := fun W a b c => fp_sqrt_no (X1) W a b c hy
      simp only [pv_zero] at hs
      have S_y := Lib.hid hs
      clear hs
      obtain ⟨Rb, hRb⟩ : ∃ R, R = (X0 * X1) ^ Qp := ⟨_, rfl⟩
      have hs := fun W a b c => fp_sqrt_yes (X0 * X1) W a b c hb
      simp only [← hRb] at hs
      have S_b := Lib.hid hs
      clear hs hRb
      have ZX := Lib.hid (show decide (X0 % Mp = 0) = false by simpa using zx)
      have ZY := Lib.hid (show decide (X1 % Mp = 0) = false by simpa using zy)
      clear hb
      clear hx
      clear hy
      clear zx
      clear zy
      go_wp2_with fail
      refine (S_x.out _ (HG.out.keep B14.out) (HS.out.keep B14.out) (HQ.out.keep B14.out)).mono ?_
      rintro e w15 ⟨rfl, hb⟩
      clear cx0 cx1 cx2 cx3 cx4 cx5 zx cy0 cy1 cy2 cy3 cy4 cy5 zy cz0 cz1 cz2 cz3 cz4 cz5 zz
      have B15 := Lib.hid (B14.out.trans (hb.mono B14.out.size))
      have Kx_15 := Lib.hid (Kx_14.out.keep hb)
      have Ky_15 := Lib.hid (Ky_14.out.keep hb)
      have Kz_15 := Lib.hid (Kz_14.out.keep hb)
      clear hb B14 Kx_14 Ky_14 Kz_14
      obtain ⟨cx0, cx1, cx2, cx3, cx4, cx5⟩ := cells6 Kx_15.out
      have zx := Kx_15.out.lt
      obtain ⟨cy0, cy1, cy2, cy3, cy4, cy5⟩ := cells6 Ky_15.out
      have zy := Ky_15.out.lt
      obtain ⟨cz0, cz1, cz2, cz3, cz4, cz5⟩ := cells6 Kz_15.out
      have zz := Kz_15.out.lt
      unfold pv arr6
      go_wp2_with fail
      clear cx0 cx1 cx2 cx3 cx4 cx5 zx cy0 cy1 cy2 cy3 cy4 cy5 zy cz0 cz1 cz2 cz3 cz4 cz5 zz
      have B16 := Lib.hid (B15.out.alloc B15.out.size (Obj.cells #[.int .u64 (wd (fe Mp (Wd ^ 6) 0) 0), .int .u64 (wd (fe Mp (Wd ^ 6) 0) 1), .int .u64 (wd (fe Mp (Wd ^ 6) 0) 2), .int .u64 (wd (fe Mp (Wd ^ 6) 0) 3), .int .u64 (wd (fe Mp (Wd ^ 6) 0) 4), .int .u64 (wd (fe Mp (Wd ^ 6) 0) 5)] 28))
      have Kx_16 := Lib.hid (Kx_15.out.alloc (Obj.cells #[.int .u64 (wd (fe Mp (Wd ^ 6) 0) 0), .int .u64 (wd (fe Mp (Wd ^ 6) 0) 1), .int .u64 (wd (fe Mp (Wd ^ 6) 0) 2), .int .u64 (wd (fe Mp (Wd ^ 6) 0) 3), .int .u64 (wd (fe Mp (Wd ^ 6) 0) 4), .int .u64 (wd (fe Mp (Wd ^ 6) 0) 5)] 28))
      have Ky_16 := Lib.hid (Ky_15.out.alloc (Obj.cells #[.int .u64 (wd (fe Mp (Wd ^ 6) 0) 0), .int .u64 (wd (fe Mp (Wd ^ 6) 0) 1), .int .u64 (wd (fe Mp (Wd ^ 6) 0) 2), .int .u64 (wd (fe Mp (Wd ^ 6) 0) 3), .int .u64 (wd (fe Mp (Wd ^ 6) 0) 4), .int .u64 (wd (fe Mp (Wd ^ 6) 0) 5)] 28))
      have Kz_16 := Lib.hid (Kz_15.out.alloc (Obj.cells #[.int .u64 (wd (fe Mp (Wd ^ 6) 0) 0), .int .u64 (wd (fe Mp (Wd ^ 6) 0) 1), .int .u64 (wd (fe Mp (Wd ^ 6) 0) 2), .int .u64 (wd (fe Mp (Wd ^ 6) 0) 3), .int .u64 (wd (fe Mp (Wd ^ 6) 0) 4), .int .u64 (wd (fe Mp (Wd ^ 6) 0) 5)] 28))
      have Ku_16 := Lib.hid (Blk.new w15 28 #[.int .u64 (wd (fe Mp (Wd ^ 6) 0) 0), .int .u64 (wd (fe Mp (Wd ^ 6) 0) 1), .int .u64 (wd (fe Mp (Wd ^ 6) 0) 2), .int .u64 (wd (fe Mp (Wd ^ 6) 0) 3), .int .u64 (wd (fe Mp (Wd ^ 6) 0) 4), .int .u64 (wd (fe Mp (Wd ^ 6) 0) 5)])
      obtain ⟨gu, hgu⟩ : ∃ g, g = w15.heap.size := ⟨_, rfl⟩
      obtain ⟨w16, hw16⟩ : ∃ W, W = w15.alloc (Obj.cells #[.int .u64 (wd (fe Mp (Wd ^ 6) 0) 0), .int .u64 (wd (fe Mp (Wd ^ 6) 0) 1), .int .u64 (wd (fe Mp (Wd ^ 6) 0) 2), .int .u64 (wd (fe Mp (Wd ^ 6) 0) 3), .int .u64 (wd (fe Mp (Wd ^ 6) 0) 4), .int .u64 (wd (fe Mp (Wd ^ 6) 0) 5)] 28) := ⟨_, rfl⟩
      rw [← hgu] at Ku_16
      simp only [← hw16] at B16 Kx_16 Ky_16 Kz_16 Ku_16
      rw [← hw16, ← hgu]
      clear hw16 hgu B15 Kx_15 Ky_15 Kz_15
      obtain ⟨cx0, cx1, cx2, cx3, cx4, cx5⟩ := cells6 Kx_16.out
      have zx := Kx_16.out.lt
      obtain ⟨cy0, cy1, cy2, cy3, cy4, cy5⟩ := cells6 Ky_16.out
      have zy := Ky_16.out.lt
      obtain ⟨cz0, cz1, cz2, cz3, cz4, cz5⟩ := cells6 Kz_16.out
      have zz := Kz_16.out.lt
      obtain ⟨cu0, cu1, cu2, cu3, cu4, cu5⟩ := cells6 Ku_16.out
      have zu := Ku_16.out.lt
      refine (S_y.out _ (HG.out.keep B16.out) (HS.out.keep B16.out) (HQ.out.keep B16.out)).mono ?_
      rintro e w17 ⟨rfl, hb⟩
      clear cx0 cx1 cx2 cx3 cx4 cx5 zx cy0 cy1 cy2 cy3 cy4 cy5 zy cz0 cz1 cz2 cz3 cz4 cz5 zz cu0 cu1 cu2 cu3 cu4 cu5 zu
      have B17 := Lib.hid (B16.out.trans (hb.mono B16.out.size))
      have Kx_17 := Lib.hid (Kx_16.out.keep hb)
      have Ky_17 := Lib.hid (Ky_16.out.keep hb)
      have Kz_17 := Lib.hid (Kz_16.out.keep hb)
      have Ku_17 := Lib.hid (Ku_16.out.keep hb)
      clear hb B16 Kx_16 Ky_16 Kz_16 Ku_16
      obtain ⟨cx0, cx1, cx2, cx3, cx4, cx5⟩ := cells6 Kx_17.out
      have zx := Kx_17.out.lt
      obtain ⟨cy0, cy1, cy2, cy3, cy4, cy5⟩ := cells6 Ky_17.out
      have zy := Ky_17.out.lt
      obtain ⟨cz0, cz1, cz2, cz3, cz4, cz5⟩ := cells6 Kz_17.out
      have zz := Kz_17.out.lt
      obtain ⟨cu0, cu1, cu2, cu3, cu4, cu5⟩ := cells6 Ku_17.out
      have zu := Ku_17.out.lt
      unfold pv arr6
      go_wp2_with fail
      clear cx0 cx1 cx2 cx3 cx4 cx5 zx cy0 cy1 cy2 cy3 cy4 cy5 zy cz0 cz1 cz2 cz3 cz4 cz5 zz cu0 cu1 cu2 cu3 cu4 cu5 zu
      have B18 := Lib.hid (B17.out.alloc B17.out.size (Obj.cells #[.int .u64 (wd (fe Mp (Wd ^ 6) 0) 0), .int .u64 (wd (fe Mp (Wd ^ 6) 0) 1), .int .u64 (wd (fe Mp (Wd ^ 6) 0) 2), .int .u64 (wd (fe Mp (Wd ^ 6) 0) 3), .int .u64 (wd (fe Mp (Wd ^ 6) 0) 4), .int .u64 (wd (fe Mp (Wd ^ 6) 0) 5)] 28))
      have Kx_18 := Lib.hid (Kx_17.out.alloc (Obj.cells #[.int .u64 (wd (fe Mp (Wd ^ 6) 0) 0), .int .u64 (wd (fe Mp (Wd ^ 6) 0) 1), .int .u64 (wd (fe Mp (Wd ^ 6) 0) 2), .int .u64 (wd (fe Mp (Wd ^ 6) 0) 3), .int .u64 (wd (fe Mp (Wd ^ 6) 0) 4), .int .u64 (wd (fe Mp (Wd ^ 6) 0) 5)] 28))
      have Ky_18 := Lib.hid (Ky_17.out.alloc (Obj.cells #[.int .u64 (wd (fe Mp (Wd ^ 6) 0) 0), .int .u64 (wd (fe Mp (Wd ^ 6) 0) 1), .int .u64 (wd (fe Mp (Wd ^ 6) 0) 2), .int .u64 (wd (fe Mp (Wd ^ 6) 0) 3), .int .u64 (wd (fe Mp (Wd ^ 6) 0) 4), .int .u64 (wd (fe Mp (Wd ^ 6) 0) 5)] 28))
      have Kz_18 := Lib.hid (Kz_17.out.alloc (Obj.cells #[.int .u64 (wd (fe Mp (Wd ^ 6) 0) 0), .int .u64 (wd (fe Mp (Wd ^ 6) 0) 1), .int .u64 (wd (fe Mp (Wd ^ 6) 0) 2), .int .u64 (wd (fe Mp (Wd ^ 6) 0) 3), .int .u64 (wd (fe Mp (Wd ^ 6) 0) 4), .int .u64 (wd (fe Mp (Wd ^ 6) 0) 5)] 28))
      have Ku_18 := Lib.hid (Ku_17.out.alloc (Obj.cells #[.int .u64 (wd (fe Mp (Wd ^ 6) 0) 0), .int .u64 (wd (fe Mp (Wd ^ 6) 0) 1), .int .u64 (wd (fe Mp (Wd ^ 6) 0) 2), .int .u64 (wd (fe Mp (Wd ^ 6) 0) 3), .int .u64 (wd (fe Mp (Wd ^ 6) 0) 4), .int .u64 (wd (fe Mp (Wd ^ 6) 0) 5)] 28))
      have Kv_18 := Lib.hid (Blk.new w17 28 #[.int .u64 (wd (fe Mp (Wd ^ 6) 0) 0), .int .u64 (wd (fe Mp (Wd ^ 6) 0) 1), .int .u64 (wd (fe Mp (Wd ^ 6) 0) 2), .int .u64 (wd (fe Mp (Wd ^ 6) 0) 3), .int .u64 (wd (fe Mp (Wd ^ 6) 0) 4), .int .u64 (wd (fe Mp (Wd ^ 6) 0) 5)])
      obtain ⟨gv, hgv⟩ : ∃ g, g = w17.heap.size := ⟨_, rfl⟩
      obtain ⟨w18, hw18⟩ : ∃ W, W = w17.alloc (Obj.cells #[.int .u64 (wd (fe Mp (Wd ^ 6) 0) 0), .int .u64 (wd (fe Mp (Wd ^ 6) 0) 1), .int .u64 (wd (fe Mp (Wd ^ 6) 0) 2), .int .u64 (wd (fe Mp (Wd ^ 6) 0) 3), .int .u64 (wd (fe Mp (Wd ^ 6) 0) 4), .int .u64 (wd (fe Mp (Wd ^ 6) 0) 5)] 28) := ⟨_, rfl⟩
      rw [← hgv] at Kv_18
      simp only [← hw18] at B18 Kx_18 Ky_18 Kz_18 Ku_18 Kv_18
      rw [← hw18, ← hgv]
      clear hw18 hgv B17 Kx_17 Ky_17 Kz_17 Ku_17
      obtain ⟨cx0, cx1, cx2, cx3, cx4, cx5⟩ := cells6 Kx_18.out
      have zx := Kx_18.out.lt
      obtain ⟨cy0, cy1, cy2, cy3, cy4, cy5⟩ := cells6 Ky_18.out
      have zy := Ky_18.out.lt
      obtain ⟨cz0, cz1, cz2, cz3, cz4, cz5⟩ := cells6 Kz_18.out
      have zz := Kz_18.out.lt
      obtain ⟨cu0, cu1, cu2, cu3, cu4, cu5⟩ := cells6 Ku_18.out
      have zu := Ku_18.out.lt
      obtain ⟨cv0, cv1, cv2, cv3, cv4, cv5⟩ := cells6 Kv_18.out
      have zv := Kv_18.out.lt
      refine (fp_mul X0 X1 _ (HG.out.keep B18.out)).mono ?_
      rintro e w19 ⟨rfl, hb⟩
      clear cx0 cx1 cx2 cx3 cx4 cx5 zx cy0 cy1 cy2 cy3 cy4 cy5 zy cz0 cz1 cz2 cz3 cz4 cz5 zz cu0 cu1 cu2 cu3 cu4 cu5 zu cv0 cv1 cv2 cv3 cv4 cv5 zv
      have B19 := Lib.hid (B18.out.trans (hb.mono B18.out.size))
      have Kx_19 := Lib.hid (Kx_18.out.keep hb)
      have Ky_19 := Lib.hid (Ky_18.out.keep hb)
      have Kz_19 := Lib.hid (Kz_18.out.keep hb)
      have Ku_19 := Lib.hid (Ku_18.out.keep hb)
      have Kv_19 := Lib.hid (Kv_18.out.keep hb)
      clear hb B18 Kx_18 Ky_18 Kz_18 Ku_18 Kv_18
      obtain ⟨cx0, cx1, cx2, cx3, cx4, cx5⟩ := cells6 Kx_19.out
      have zx := Kx_19.out.lt
      obtain ⟨cy0, cy1, cy2, cy3, cy4, cy5⟩ := cells6 Ky_19.out
      have zy := Ky_19.out.lt
      obtain ⟨cz0, cz1, cz2, cz3, cz4, cz5⟩ := cells6 Kz_19.out
      have zz := Kz_19.out.lt
      obtain ⟨cu0, cu1, cu2, cu3, cu4, cu5⟩ := cells6 Ku_19.out
      have zu := Ku_19.out.lt
      obtain ⟨cv0, cv1, cv2, cv3, cv4, cv5⟩ := cells6 Kv_19.out
      have zv := Kv_19.out.lt
      go_wp2_with fail
      refine (S_b.out _ (HG.out.keep B19.out) (HS.out.keep B19.out) (HQ.out.keep B19.out)).mono ?_
      rintro e w20 ⟨rfl, hb⟩
      clear cx0 cx1 cx2 cx3 cx4 cx5 zx cy0 cy1 cy2 cy3 cy4 cy5 zy cz0 cz1 cz2 cz3 cz4 cz5 zz cu0 cu1 cu2 cu3 cu4 cu5 zu cv0 cv1 cv2 cv3 cv4 cv5 zv
      have B20 := Lib.hid (B19.out.trans (hb.mono B19.out.size))
      have Kx_20 := Lib.hid (Kx_19.out.keep hb)
      have Ky_20 := Lib.hid (Ky_19.out.keep hb)
      have Kz_20 := Lib.hid (Kz_19.out.keep hb)
      have Ku_20 := Lib.hid (Ku_19.out.keep hb)
      have Kv_20 := Lib.hid (Kv_19.out.keep hb)
      clear hb B19 Kx_19 Ky_19 Kz_19 Ku_19 Kv_19
      obtain ⟨cx0, cx1, cx2, cx3, cx4, cx5⟩ := cells6 Kx_20.out
      have zx := Kx_20.out.lt
      obtain ⟨cy0, cy1, cy2, cy3, cy4, cy5⟩ := cells6 Ky_20.out
      have zy := Ky_20.out.lt
      obtain ⟨cz0, cz1, cz2, cz3, cz4, cz5⟩ := cells6 Kz_20.out
      have zz := Kz_20.out.lt
      obtain ⟨cu0, cu1, cu2, cu3, cu4, cu5⟩ := cells6 Ku_20.out
      have zu := Ku_20.out.lt
      obtain ⟨cv0, cv1, cv2, cv3, cv4, cv5⟩ := cells6 Kv_20.out
      have zv := Kv_20.out.lt
      unfold pv arr6
      go_wp2_with fail
      clear cx0 cx1 cx2 cx3 cx4 cx5 zx cy0 cy1 cy2 cy3 cy4 cy5 zy cz0 cz1 cz2 cz3 cz4 cz5 zz cu0 cu1 cu2 cu3 cu4 cu5 zu cv0 cv1 cv2 cv3 cv4 cv5 zv
      have B21 := Lib.hid (B20.out.alloc B20.out.size (Obj.cells #[.int .u64 (wd (fe Mp (Wd ^ 6) Rb) 0), .int .u64 (wd (fe Mp (Wd ^ 6) Rb) 1), .int .u64 (wd (fe Mp (Wd ^ 6) Rb) 2), .int .u64 (wd (fe Mp (Wd ^ 6) Rb) 3), .int .u64 (wd (fe Mp (Wd ^ 6) Rb) 4), .int .u64 (wd (fe Mp (Wd ^ 6) Rb) 5)] 28))
      have Kx_21 := Lib.hid (Kx_20.out.alloc (Obj.cells #[.int .u64 (wd (fe Mp (Wd ^ 6) Rb) 0), .int .u64 (wd (fe Mp (Wd ^ 6) Rb) 1), .int .u64 (wd (fe Mp (Wd ^ 6) Rb) 2), .int .u64 (wd (fe Mp (Wd ^ 6) Rb) 3), .int .u64 (wd (fe Mp (Wd ^ 6) Rb) 4), .int .u64 (wd (fe Mp (Wd ^ 6) Rb) 5)] 28))
      have Ky_21 := Lib.hid (Ky_20.out.alloc (Obj.cells #[.int .u64 (wd (fe Mp (Wd ^ 6) Rb) 0), .int .u64 (wd (fe Mp (Wd ^ 6) Rb) 1), .int .u64 (wd (fe Mp (Wd ^ 6) Rb) 2), .int .u64 (wd (fe Mp (Wd ^ 6) Rb) 3), .int .u64 (wd (fe Mp (Wd ^ 6) Rb) 4), .int .u64 (wd (fe Mp (Wd ^ 6) Rb) 5)] 28))
      have Kz_21 := Lib.hid (Kz_20.out.alloc (Obj.cells #[.int .u64 (wd (fe Mp (Wd ^ 6) Rb) 0), .int .u64 (wd (fe Mp (Wd ^ 6) Rb) 1), .int .u64 (wd (fe Mp (Wd ^ 6) Rb) 2), .int .u64 (wd (fe Mp (Wd ^ 6) Rb) 3), .int .u64 (wd (fe Mp (Wd ^ 6) Rb) 4), .int .u64 (wd (fe Mp (Wd ^ 6) Rb) 5)] 28))
      have Ku_21 := Lib.hid (Ku_20.out.alloc (Obj.cells #[.int .u64 (wd (fe Mp (Wd ^ 6) Rb) 0), .int .u64 (wd (fe Mp (Wd ^ 6) Rb) 1), .int .u64 (wd (fe Mp (Wd ^ 6) Rb) 2), .int .u64 (wd (fe Mp (Wd ^ 6) Rb) 3), .int .u64 (wd (fe Mp (Wd ^ 6) Rb) 4), .int .u64 (wd (fe Mp (Wd ^ 6) Rb) 5)] 28))
      have Kv_21 := Lib.hid (Kv_20.out.alloc (Obj.cells #[.int .u64 (wd (fe Mp (Wd ^ 6) Rb) 0), .int .u64 (wd (fe Mp (Wd ^ 6) Rb) 1), .int .u64 (wd (fe Mp (Wd ^ 6) Rb) 2), .int .u64 (wd (fe Mp (Wd ^ 6) Rb) 3), .int .u64 (wd (fe Mp (Wd ^ 6) Rb) 4), .int .u64 (wd (fe Mp (Wd ^ 6) Rb) 5)] 28))
      have Ko_21 := Lib.hid (Blk.new w20 28 #[.int .u64 (wd (fe Mp (Wd ^ 6) Rb) 0), .int .u64 (wd (fe Mp (Wd ^ 6) Rb) 1), .int .u64 (wd (fe Mp (Wd ^ 6) Rb) 2), .int .u64 (wd (fe Mp (Wd ^ 6) Rb) 3), .int .u64 (wd (fe Mp (Wd ^ 6) Rb) 4), .int .u64 (wd (fe Mp (Wd ^ 6) Rb) 5)])
      obtain ⟨go, hgo⟩ : ∃ g, g = w20.heap.size := ⟨_, rfl⟩
      obtain ⟨w21, hw21⟩ : ∃ W, W = w20.alloc (Obj.cells #[.int .u64 (wd (fe Mp (Wd ^ 6) Rb) 0), .int .u64 (wd (fe Mp (Wd ^ 6) Rb) 1), .int .u64 (wd (fe Mp (Wd ^ 6) Rb) 2), .int .u64 (wd (fe Mp (Wd ^ 6) Rb) 3), .int .u64 (wd (fe Mp (Wd ^ 6) Rb) 4), .int .u64 (wd (fe Mp (Wd ^ 6) Rb) 5)] 28) := ⟨_, rfl⟩
      rw [← hgo] at Ko_21
      simp only [← hw21] at B21 Kx_21 Ky_21 Kz_21 Ku_21 Kv_21 Ko_21
      rw [← hw21, ← hgo]
      clear hw21 hgo B20 Kx_20 Ky_20 Kz_20 Ku_20 Kv_20
      obtain ⟨cx0, cx1, cx2, cx3, cx4, cx5⟩ := cells6 Kx_21.out
      have zx := Kx_21.out.lt
      obtain ⟨cy0, cy1, cy2, cy3, cy4, cy5⟩ := cells6 Ky_21.out
      have zy := Ky_21.out.lt
      obtain ⟨cz0, cz1, cz2, cz3, cz4, cz5⟩ := cells6 Kz_21.out
      have zz := Kz_21.out.lt
      obtain ⟨cu0, cu1, cu2, cu3, cu4, cu5⟩ := cells6 Ku_21.out
      have zu := Ku_21.out.lt
      obtain ⟨cv0, cv1, cv2, cv3, cv4, cv5⟩ := cells6 Kv_21.out
      have zv := Kv_21.out.lt
      obtain ⟨co0, co1, co2, co3, co4, co5⟩ := cells6 Ko_21.out
      have zo := Ko_21.out.lt
      refine (fp_zero X0 _).mono ?_
      rintro e w22 ⟨rfl, hb⟩
      clear cx0 cx1 cx2 cx3 cx4 cx5 zx cy0 cy1 cy2 cy3 cy4 cy5 zy cz0 cz1 cz2 cz3 cz4 cz5 zz cu0 cu1 cu2 cu3 cu4 cu5 zu cv0 cv1 cv2 cv3 cv4 cv5 zv co0 co1 co2 co3 co4 co5 zo
      have B22 := Lib.hid (B21.out.trans (hb.mono B21.out.size))
      have Kx_22 := Lib.hid (Kx_21.out.keep hb)
      have Ky_22 := Lib.hid (Ky_21.out.keep hb)
      have Kz_22 := Lib.hid (Kz_21.out.keep hb)
      have Ku_22 := Lib.hid (Ku_21.out.keep hb)
      have Kv_22 := Lib.hid (Kv_21.out.keep hb)
      have Ko_22 := Lib.hid (Ko_21.out.keep hb)
      clear hb B21 Kx_21 Ky_21 Kz_21 Ku_21 Kv_21 Ko_21
      obtain ⟨cx0, cx1, cx2, cx3, cx4, cx5⟩ := cells6 Kx_22.out
      have zx := Kx_22.out.lt
      obtain ⟨cy0, cy1, cy2, cy3, cy4, cy5⟩ := cells6 Ky_22.out
      have zy := Ky_22.out.lt
      obtain ⟨cz0, cz1, cz2, cz3, cz4, cz5⟩ := cells6 Kz_22.out
      have zz := Kz_22.out.lt
      obtain ⟨cu0, cu1, cu2, cu3, cu4, cu5⟩ := cells6 Ku_22.out
      have zu := Ku_22.out.lt
      obtain ⟨cv0, cv1, cv2, cv3, cv4, cv5⟩ := cells6 Kv_22.out
      have zv := Kv_22.out.lt
      obtain ⟨co0, co1, co2, co3, co4, co5⟩ := cells6 Ko_22.out
      have zo := Ko_22.out.lt
      rw [ZX.out]
      go_wp2_with fail
      refine (fp_zero X1 _).mono ?_
      rintro e w23 ⟨rfl, hb⟩
      clear cx0 cx1 cx2 cx3 cx4 cx5 zx cy0 cy1 cy2 cy3 cy4 cy5 zy cz0 cz1 cz2 cz3 cz4 cz5 zz cu0 cu1 cu2 cu3 cu4 cu5 zu cv0 cv1 cv2 cv3 cv4 cv5 zv co0 co1 co2 co3 co4 co5 zo
      have B23 := Lib.hid (B22.out.trans (hb.mono B22.out.size))
      have Kx_23 := Lib.hid (Kx_22.out.keep hb)
      have Ky_23 := Lib.hid (Ky_22.out.keep hb)
      have Kz_23 := Lib.hid (Kz_22.out.keep hb)
      have Ku_23 := Lib.hid (Ku_22.out.keep hb)
      have Kv_23 := Lib.hid (Kv_22.out.keep hb)
      have Ko_23 := Lib.hid (Ko_22.out.keep hb)
      clear hb B22 Kx_22 Ky_22 Kz_22 Ku_22 Kv_22 Ko_22
      obtain ⟨cx0, cx1, cx2, cx3, cx4, cx5⟩ := cells6 Kx_23.out
      have zx := Kx_23.out.lt
      obtain ⟨cy0, cy1, cy2, cy3, cy4, cy5⟩ := cells6 Ky_23.out
      have zy := Ky_23.out.lt
      obtain ⟨cz0, cz1, cz2, cz3, cz4, cz5⟩ := cells6 Kz_23.out
      have zz := Kz_23.out.lt
      obtain ⟨cu0, cu1, cu2, cu3, cu4, cu5⟩ := cells6 Ku_23.out
      have zu := Ku_23.out.lt
      obtain ⟨cv0, cv1, cv2, cv3, cv4, cv5⟩ := cells6 Kv_23.out
      have zv := Kv_23.out.lt
      obtain ⟨co0, co1, co2, co3, co4, co5⟩ := cells6 Ko_23.out
      have zo := Ko_23.out.lt
      rw [ZY.out]
      go_wp2_with fail
      go_ret
      exact ⟨rfl, B23.out⟩
end Go.Proofs.YtlbmohofdgooaaaDoor
