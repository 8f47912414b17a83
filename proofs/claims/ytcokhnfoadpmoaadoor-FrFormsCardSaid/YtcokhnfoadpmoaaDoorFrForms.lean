/-
  FrForms: the walk.
-/
import Derived.Test.YtcokhnfoadpmoaaDoorFrR
import Derived.Deep.MidRow
namespace Go.Proofs.YtcokhnfoadpmoaaDoor
open Go.RowKit
/-- The bytes of a number, as cells. -/
def octs (x : Int) : List Value := (lo (x % Mr) 32).map (Value.int .u8)
theorem octs_len (x : Int) : (octs x).length = 32 := by simp [octs, lo_len]
theorem octs_at (x : Int) (i : Nat) (hi : i < 32) : (octs x).toArray[i]? = some (Value.int .u8 (gt (lo (x % Mr) 32) i)) := ag8_at _ i (by rw [lo_len]; exact hi)
theorem und52 : Tryd.prog.underlying 52 = some (.array 32 5) := by kernel_rfl
theorem und5 : Tryd.prog.underlying 5 = some (.int .u8) := by kernel_rfl
theorem size5 (w : World) : (sizeOf 5).run Tryd.prog w = .ok 1 w := by kernel_rfl
theorem octs_same (x y : Int) (h : x % Mr = y % Mr) (w : World) : (Op.equalIn 10000 52 (.agg (octs x).toArray) (.agg (octs y).toArray)).run Tryd.prog w = .ok true w := by
  have e : octs x = octs y := by unfold octs; rw [h]
  rw [e]
  exact run_equalIn_arr 9998 w _ _ 32 .u8 _ _ und52 und5 size5 (fun i hi => ⟨_, _, octs_at y i hi, octs_at y i hi⟩) true (by simp)
theorem octs_unlike (x y : Int) (h : ¬ x % Mr = y % Mr) (w : World) : (Op.equalIn 10000 52 (.agg (octs x).toArray) (.agg (octs y).toArray)).run Tryd.prog w = .ok false w := by
  refine run_equalIn_arr 9998 w _ _ 32 .u8 _ _ und52 und5 size5 (fun i hi => ⟨_, _, octs_at x i hi, octs_at y i hi⟩) false ?_
  constructor
  · intro h0; cases h0
  · intro h0
    exfalso
    have e : lo (x % Mr) 32 = lo (y % Mr) 32 := by
      apply List.ext_getElem?
      intro i
      by_cases hi : i < 32
      · have := h0 i hi
        rw [octs_at x i hi, octs_at y i hi] at this
        have e2 : gt (lo (x % Mr) 32) i = gt (lo (y % Mr) 32) i := by simpa using this
        rw [gt_eq (by rw [lo_len]; exact hi), gt_eq (by rw [lo_len]; exact hi)] at e2
        rw [List.getElem?_eq_getElem (by rw [lo_len]; exact hi), List.getElem?_eq_getElem (by rw [lo_len]; exact hi), e2]
      · rw [List.getElem?_eq_none (by rw [lo_len]; omega), List.getElem?_eq_none (by rw [lo_len]; omega)]
    have e3 := congrArg num e
    rw [num_lo, num_lo] at e3
    have b1 : ∀ z : Int, z % Mr % 256 ^ 32 = z % Mr := fun z => Int.emod_eq_of_lt (Int.emod_nonneg _ (by simp [Mr])) (Int.lt_trans (Int.emod_lt_of_pos _ (by simp [Mr])) (by simp [Mr]))
    rw [b1, b1] at e3
    exact h e3
theorem read_octs (x : Int) (W : World) (g : Nat) (hG : GMr W) (hS : GSq W) (hB : Blk W g 52 (octs x).toArray) :
    Calls Tryd.prog 23 #[.slice (some ⟨g, 0, none⟩) 32 32] W fun e w' => e = .returned (.tuple #[fv x, .int .i64 0]) ∧ Below W.heap.size W w' := by
  have hr : Reads W W.heap.size (some ⟨g, 0, none⟩) 32 ((lo (x % Mr) 32).map (Value.int .u8)) := copy_reads (bs := lo (x % Mr) 32) hB (lo_len _ _)
  have hn : num (lo (x % Mr) 32) = x % Mr := by
    rw [num_lo]
    exact Int.emod_eq_of_lt (Int.emod_nonneg _ (by simp [Mr])) (Int.lt_trans (Int.emod_lt_of_pos _ (by simp [Mr])) (by simp [Mr]))
  have h := fr_read_ok W hG hS _ 32 _ hr (lo_oct _ _) (Nat.le_refl _) (by rw [hn]; exact Int.emod_lt_of_pos _ (by simp [Mr]))
  rw [hn, fv_cast (Int.emod_emod x Mr)] at h
  exact h
theorem arr52 : Tryd.prog.arrayLen 52 = 32 := by kernel_rfl
theorem und52' : Tryd.prog.underlying 52 = some (.array (Tryd.prog.arrayLen 52) (Tryd.prog.elem 52)) := by kernel_rfl
theorem el52 : Tryd.prog.elem 52 = 5 := by kernel_rfl
theorem slice52_all (g o : Nat) (w : World) : (Instr.sliceAt 52 (.pointer (some ⟨g, o, none⟩)) none none none).run Tryd.prog w = .ok (.slice (some ⟨g, o, none⟩) 32 32) w := by
  have h := run_sliceAt_array_all (P := Tryd.prog) w 52 ⟨g, o, none⟩ und52'
  rw [h, el52, size5, arr52]
  simp [slicedAt, Result.andThen, add_plain]
set_option maxRecDepth 100000 in
set_option maxHeartbeats 8000000 in
theorem forms_eq (w : World) (hG : GMr w) (hS : GSq w) (hH : GSh w) (A0 : Option Addr) (L0 c0 : Nat) (bs0 : List Int) (A1 : Option Addr) (L1 c1 : Nat) (bs1 : List Int) (hr0 : Reads w w.heap.size A0 L0 (bs0.map (Value.int .u8))) (ho0 : Oct bs0) (hr1 : Reads w w.heap.size A1 L1 (bs1.map (Value.int .u8))) (ho1 : Oct bs1) (h0 : L0 ≤ 400) (h1 : L1 ≤ 400) (hq : num bs0 % Mr = num bs1 % Mr) :
    Calls Tryd.prog 9 #[.slice A0 L0 c0, .slice A1 L1 c1] w fun e w' => e = .returned (.bool true) ∧ Below w.heap.size w w' := by
  have HG := Lib.hid hG
  have HS := Lib.hid hS
  have HH := Lib.hid hH
  have HR0 := Lib.hid hr0
  have HO0 := Lib.hid ho0
  have HL0 := Lib.hid (show bs0.length = L0 by simpa using hr0.1)
  obtain ⟨X0, hX0⟩ : ∃ X, X = num bs0 := ⟨_, rfl⟩
  have HR1 := Lib.hid hr1
  have HO1 := Lib.hid ho1
  have HL1 := Lib.hid (show bs1.length = L1 by simpa using hr1.1)
  obtain ⟨X1, hX1⟩ : ∃ X, X = num bs1 := ⟨_, rfl⟩
  rw [← hX0, ← hX1] at hq
  have q1 := fv_same X0 X0 rfl
  have q2 := fv_same X0 X1 hq
  have q3 := octs_same X0 X1 hq
  obtain ⟨N, hN⟩ : ∃ N, N = -X0 := ⟨_, rfl⟩
  obtain ⟨NN, hNN⟩ : ∃ N2, N2 = -N := ⟨_, rfl⟩
  obtain ⟨U, hU⟩ : ∃ U, U = X0 - X1 := ⟨_, rfl⟩
  obtain ⟨V, hV⟩ : ∃ V, V = X1 - X0 := ⟨_, rfl⟩
  obtain ⟨NV, hNV⟩ : ∃ V2, V2 = -V := ⟨_, rfl⟩
  have q4 := fv_same NN X0 (by rw [hNN, hN, Int.neg_neg])
  have q5 := fv_same U NV (by rw [hNV, hV, hU, Int.neg_sub])
  have hby0 := fr_bytes X0
  have hby1 := fr_bytes X1
  have hrd := read_octs X0
  rw [show ag8 (lo (X0 % Mr) 32) = (octs X0).toArray from rfl] at hby0
  rw [show ag8 (lo (X1 % Mr) 32) = (octs X1).toArray from rfl] at hby1
  have hl0 := octs_len X0
  have hl1 := octs_len X1
  have ho0' : (octs X0).toArray.all (·.oneCell') = true := ag8_one _
  have ho1' : (octs X1).toArray.all (·.oneCell') = true := ag8_one _
  obtain ⟨D0, hD0⟩ : ∃ D, D = octs X0 := ⟨_, rfl⟩
  obtain ⟨D1, hD1⟩ : ∃ D, D = octs X1 := ⟨_, rfl⟩
  rw [← hD0] at hby0 hrd hl0 ho0' q3
  rw [← hD1] at hby1 hl1 ho1' q3
  have hi0 : (Tryd.prog.info? 52).map (·.size) = some D0.toArray.size := by rw [List.size_toArray, hl0]; kernel_rfl
  have hi1 : (Tryd.prog.info? 52).map (·.size) = some D1.toArray.size := by rw [List.size_toArray, hl1]; kernel_rfl
  have DZ0 : Hid (D0.toArray.size = 32) := Lib.hid (by rw [List.size_toArray, hl0])
  have DZ1 : Hid (D1.toArray.size = 32) := Lib.hid (by rw [List.size_toArray, hl1])
  have DI0 := Lib.hid hi0
  have DI1 := Lib.hid hi1
  have DO0 := Lib.hid ho0'
  have DO1 := Lib.hid ho1'
  have BY0 := Lib.hid hby0
  have BY1 := Lib.hid hby1
  have RD := Lib.hid hrd
  have HN := Lib.hid hN
  have HNN := Lib.hid hNN
  have HU := Lib.hid hU
  have HV := Lib.hid hV
  have HNV := Lib.hid hNV
  have Q3 := Lib.hid q3
  clear hN hNN hU hV hNV hby0 hby1 hrd hl0 hl1 ho0' ho1' hi0 hi1 hD0 hD1 hq q3
  obtain ⟨Z, hZ⟩ : ∃ Z, Z = ag8 (List.replicate 32 0) := ⟨_, rfl⟩
  have hz52 : ∀ W : World, (zeroValue 52).run Tryd.prog W = .ok (.agg Z) W := fun W => by rw [hZ]; exact zero52 W
  have hZz : Z.size = 32 := by rw [hZ, ag8_size]; simp
  have ZZ := Lib.hid hZz
  clear hZ hZz
  have HX0 := Lib.hid hX0
  clear hX0 hr0 ho0
  have HX1 := Lib.hid hX1
  clear hX1 hr1 ho1
  clear hG hS hH
  have B0 : Hid (Below w.heap.size w w) := Lib.hid (Below.refl _ _)
  go_enter Tryd.func9, Tryd.ntmps9
  go_wp2_with fail
  refine (fr_head _ (HG.out.keep B0.out) (HS.out.keep B0.out)).mono ?_
  rintro e w1 ⟨rfl, hb⟩
  have B1 := Lib.hid (B0.out.trans (hb.mono B0.out.size))
  clear hb B0 
  go_wp2_with fail
  refine (copy_any w1 A0 L0 c0 bs0 ((HR0.out.below B1.out).more B1.out.size) (by omega)).mono ?_
  rintro e w2 ⟨gc0, rfl, -, hBc, hb⟩
  have RC0 := Lib.hid (copy_reads hBc HL0.out)
  have B2 := Lib.hid (B1.out.trans (hb.mono B1.out.size))
  clear hb hBc B1 
  go_wp2_with fail
  refine (fr_wide _ (HG.out.keep B2.out) (HS.out.keep B2.out) (HH.out.keep B2.out) (some ⟨gc0, 0, none⟩) L0 L0 bs0 RC0.out HO0.out (Nat.le_refl _) (by omega)).mono ?_
  rintro e w3 ⟨rfl, hb⟩
  have B3 := Lib.hid (B2.out.trans (hb.mono B2.out.size))
  clear hb B2 
  rw [← HX0.out]
  unfold fv arr4
  go_wp2_with fail
  have B4 := Lib.hid (B3.out.alloc B3.out.size (Obj.cells #[.int .u64 (wd (fe Mr (Wd ^ 4) X0) 0), .int .u64 (wd (fe Mr (Wd ^ 4) X0) 1), .int .u64 (wd (fe Mr (Wd ^ 4) X0) 2), .int .u64 (wd (fe Mr (Wd ^ 4) X0) 3)] 28))
  have Kx_4 := Lib.hid (Blk.new w3 28 #[.int .u64 (wd (fe Mr (Wd ^ 4) X0) 0), .int .u64 (wd (fe Mr (Wd ^ 4) X0) 1), .int .u64 (wd (fe Mr (Wd ^ 4) X0) 2), .int .u64 (wd (fe Mr (Wd ^ 4) X0) 3)])
  obtain ⟨gx, hgx⟩ : ∃ g, g = w3.heap.size := ⟨_, rfl⟩
  obtain ⟨w4, hw4⟩ : ∃ W, W = w3.alloc (Obj.cells #[.int .u64 (wd (fe Mr (Wd ^ 4) X0) 0), .int .u64 (wd (fe Mr (Wd ^ 4) X0) 1), .int .u64 (wd (fe Mr (Wd ^ 4) X0) 2), .int .u64 (wd (fe Mr (Wd ^ 4) X0) 3)] 28) := ⟨_, rfl⟩
  rw [← hgx] at Kx_4
  simp only [← hw4] at B4 Kx_4
  rw [← hw4, ← hgx]
  clear hw4 hgx B3 
  obtain ⟨cx0, cx1, cx2, cx3⟩ := cells4 Kx_4.out
  have zx := Kx_4.out.lt
  refine (copy_any w4 A1 L1 c1 bs1 ((HR1.out.below B4.out).more B4.out.size) (by omega)).mono ?_
  rintro e w5 ⟨gc1, rfl, -, hBc, hb⟩
  clear cx0 cx1 cx2 cx3 zx
  have RC1 := Lib.hid (copy_reads hBc HL1.out)
  have B5 := Lib.hid (B4.out.trans (hb.mono B4.out.size))
  have Kx_5 := Lib.hid (Kx_4.out.keep hb)
  clear hb hBc B4 Kx_4
  go_wp2_with fail
  refine (fr_wide _ (HG.out.keep B5.out) (HS.out.keep B5.out) (HH.out.keep B5.out) (some ⟨gc1, 0, none⟩) L1 L1 bs1 RC1.out HO1.out (Nat.le_refl _) (by omega)).mono ?_
  rintro e w6 ⟨rfl, hb⟩
  have B6 := Lib.hid (B5.out.trans (hb.mono B5.out.size))
  have Kx_6 := Lib.hid (Kx_5.out.keep hb)
  clear hb B5 Kx_5
  obtain ⟨cx0, cx1, cx2, cx3⟩ := cells4 Kx_6.out
  have zx := Kx_6.out.lt
  rw [← HX1.out]
  unfold fv arr4
  go_wp2_with fail
  clear cx0 cx1 cx2 cx3 zx
  have B7 := Lib.hid (B6.out.alloc B6.out.size (Obj.cells #[.int .u64 (wd (fe Mr (Wd ^ 4) X1) 0), .int .u64 (wd (fe Mr (Wd ^ 4) X1) 1), .int .u64 (wd (fe Mr (Wd ^ 4) X1) 2), .int .u64 (wd (fe Mr (Wd ^ 4) X1) 3)] 28))
  have Kx_7 := Lib.hid (Kx_6.out.alloc (Obj.cells #[.int .u64 (wd (fe Mr (Wd ^ 4) X1) 0), .int .u64 (wd (fe Mr (Wd ^ 4) X1) 1), .int .u64 (wd (fe Mr (Wd ^ 4) X1) 2), .int .u64 (wd (fe Mr (Wd ^ 4) X1) 3)] 28))
  have Ky_7 := Lib.hid (Blk.new w6 28 #[.int .u64 (wd (fe Mr (Wd ^ 4) X1) 0), .int .u64 (wd (fe Mr (Wd ^ 4) X1) 1), .int .u64 (wd (fe Mr (Wd ^ 4) X1) 2), .int .u64 (wd (fe Mr (Wd ^ 4) X1) 3)])
  obtain ⟨gy, hgy⟩ : ∃ g, g = w6.heap.size := ⟨_, rfl⟩
  obtain ⟨w7, hw7⟩ : ∃ W, W = w6.alloc (Obj.cells #[.int .u64 (wd (fe Mr (Wd ^ 4) X1) 0), .int .u64 (wd (fe Mr (Wd ^ 4) X1) 1), .int .u64 (wd (fe Mr (Wd ^ 4) X1) 2), .int .u64 (wd (fe Mr (Wd ^ 4) X1) 3)] 28) := ⟨_, rfl⟩
  rw [← hgy] at Ky_7
  simp only [← hw7] at B7 Kx_7 Ky_7
  rw [← hw7, ← hgy]
  clear hw7 hgy B6 Kx_6
  obtain ⟨cx0, cx1, cx2, cx3⟩ := cells4 Kx_7.out
  have zx := Kx_7.out.lt
  obtain ⟨cy0, cy1, cy2, cy3⟩ := cells4 Ky_7.out
  have zy := Ky_7.out.lt
  refine (BY0.out _ (HG.out.keep B7.out)).mono ?_
  rintro e w8 ⟨rfl, hb⟩
  clear cx0 cx1 cx2 cx3 zx cy0 cy1 cy2 cy3 zy
  have B8 := Lib.hid (B7.out.trans (hb.mono B7.out.size))
  have Kx_8 := Lib.hid (Kx_7.out.keep hb)
  have Ky_8 := Lib.hid (Ky_7.out.keep hb)
  clear hb B7 Kx_7 Ky_7
  obtain ⟨cx0, cx1, cx2, cx3⟩ := cells4 Kx_8.out
  have zx := Kx_8.out.lt
  obtain ⟨cy0, cy1, cy2, cy3⟩ := cells4 Ky_8.out
  have zy := Ky_8.out.lt
  go_wp2_with (((with_reducible refine wpList_store_at (ty := 52) (x := .tmp 7) (y := .tmp 28) w8.heap.size 0 52 Z D0.toArray ?_ ?_ ?_ DI0.out ?_ DO0.out ?_); exact rfl; exact rfl; exact Blk.new w8 _ _; exact (by rw [DZ0.out, ZZ.out]; omega); intro w9 HB9 HG9; clear cx0 cx1 cx2 cx3 zx cy0 cy1 cy2 cy3 zy; have Js_9 : Hid (Blk w9 w8.heap.size 52 D0.toArray) := Lib.hid (HB9.out.cast (by rw [splice_all _ _ (by rw [Array.length_toList, Array.length_toList, DZ0.out, ZZ.out]), Array.toArray_toList])); have B9 := Lib.hid ((B8.out.alloc B8.out.size (Obj.cells Z 52)).grown HG9.out (by have := B8.out.size; simp; omega) (fun i hi => by cases hi; exact B8.out.size)); have Kx_9 := Lib.hid ((Kx_8.out.alloc (Obj.cells Z 52)).grown HG9.out (by intro e; cases e; exact absurd Kx_8.out.lt (Nat.lt_irrefl _))); have Ky_9 := Lib.hid ((Ky_8.out.alloc (Obj.cells Z 52)).grown HG9.out (by intro e; cases e; exact absurd Ky_8.out.lt (Nat.lt_irrefl _))); obtain ⟨gs, hgs⟩ : ∃ g, g = w8.heap.size := ⟨_, rfl⟩; rw [← hgs] at Js_9 ⊢; clear hgs HB9 HG9 B8 Kx_8 Ky_8; obtain ⟨cx0, cx1, cx2, cx3⟩ := cells4 Kx_9.out; have zx := Kx_9.out.lt; obtain ⟨cy0, cy1, cy2, cy3⟩ := cells4 Ky_9.out; have zy := Ky_9.out.lt))
  refine (BY1.out _ (HG.out.keep B9.out)).mono ?_
  rintro e w10 ⟨rfl, hb⟩
  clear cx0 cx1 cx2 cx3 zx cy0 cy1 cy2 cy3 zy
  have B10 := Lib.hid (B9.out.trans (hb.mono B9.out.size))
  have Kx_10 := Lib.hid (Kx_9.out.keep hb)
  have Ky_10 := Lib.hid (Ky_9.out.keep hb)
  have Js_10 := Lib.hid (Js_9.out.keep hb)
  clear hb B9 Kx_9 Ky_9 Js_9
  obtain ⟨cx0, cx1, cx2, cx3⟩ := cells4 Kx_10.out
  have zx := Kx_10.out.lt
  obtain ⟨cy0, cy1, cy2, cy3⟩ := cells4 Ky_10.out
  have zy := Ky_10.out.lt
  have hsl := slice52_all gs 0
  go_wp2_with (((with_reducible refine wpList_store_at (ty := 52) (x := .tmp 8) (y := .tmp 30) w10.heap.size 0 52 Z D1.toArray ?_ ?_ ?_ DI1.out ?_ DO1.out ?_); exact rfl; exact rfl; exact Blk.new w10 _ _; exact (by rw [DZ1.out, ZZ.out]; omega); intro w11 HB11 HG11; clear cx0 cx1 cx2 cx3 zx cy0 cy1 cy2 cy3 zy; have Jt_11 : Hid (Blk w11 w10.heap.size 52 D1.toArray) := Lib.hid (HB11.out.cast (by rw [splice_all _ _ (by rw [Array.length_toList, Array.length_toList, DZ1.out, ZZ.out]), Array.toArray_toList])); have B11 := Lib.hid ((B10.out.alloc B10.out.size (Obj.cells Z 52)).grown HG11.out (by have := B10.out.size; simp; omega) (fun i hi => by cases hi; exact B10.out.size)); have Kx_11 := Lib.hid ((Kx_10.out.alloc (Obj.cells Z 52)).grown HG11.out (by intro e; cases e; exact absurd Kx_10.out.lt (Nat.lt_irrefl _))); have Ky_11 := Lib.hid ((Ky_10.out.alloc (Obj.cells Z 52)).grown HG11.out (by intro e; cases e; exact absurd Ky_10.out.lt (Nat.lt_irrefl _))); have Js_11 := Lib.hid ((Js_10.out.alloc (Obj.cells Z 52)).grown HG11.out (by intro e; cases e; exact absurd Js_10.out.lt (Nat.lt_irrefl _))); obtain ⟨gt, hgt⟩ : ∃ g, g = w10.heap.size := ⟨_, rfl⟩; rw [← hgt] at Jt_11 ⊢; clear hgt HB11 HG11 B10 Kx_10 Ky_10 Js_10; obtain ⟨cx0, cx1, cx2, cx3⟩ := cells4 Kx_11.out; have zx := Kx_11.out.lt; obtain ⟨cy0, cy1, cy2, cy3⟩ := cells4 Ky_11.out; have zy := Ky_11.out.lt))
  refine (RD.out _ gs (HG.out.keep B11.out) (HS.out.keep B11.out) Js_11.out).mono ?_
  rintro e w12 ⟨rfl, hb⟩
  clear cx0 cx1 cx2 cx3 zx cy0 cy1 cy2 cy3 zy
  have B12 := Lib.hid (B11.out.trans (hb.mono B11.out.size))
  have Kx_12 := Lib.hid (Kx_11.out.keep hb)
  have Ky_12 := Lib.hid (Ky_11.out.keep hb)
  have Js_12 := Lib.hid (Js_11.out.keep hb)
  have Jt_12 := Lib.hid (Jt_11.out.keep hb)
  clear hb B11 Kx_11 Ky_11 Js_11 Jt_11
  obtain ⟨cx0, cx1, cx2, cx3⟩ := cells4 Kx_12.out
  have zx := Kx_12.out.lt
  obtain ⟨cy0, cy1, cy2, cy3⟩ := cells4 Ky_12.out
  have zy := Ky_12.out.lt
  unfold fv arr4
  go_wp2_with fail
  clear cx0 cx1 cx2 cx3 zx cy0 cy1 cy2 cy3 zy
  have B13 := Lib.hid (B12.out.alloc B12.out.size (Obj.cells #[.int .u64 (wd (fe Mr (Wd ^ 4) X0) 0), .int .u64 (wd (fe Mr (Wd ^ 4) X0) 1), .int .u64 (wd (fe Mr (Wd ^ 4) X0) 2), .int .u64 (wd (fe Mr (Wd ^ 4) X0) 3)] 28))
  have Kx_13 := Lib.hid (Kx_12.out.alloc (Obj.cells #[.int .u64 (wd (fe Mr (Wd ^ 4) X0) 0), .int .u64 (wd (fe Mr (Wd ^ 4) X0) 1), .int .u64 (wd (fe Mr (Wd ^ 4) X0) 2), .int .u64 (wd (fe Mr (Wd ^ 4) X0) 3)] 28))
  have Ky_13 := Lib.hid (Ky_12.out.alloc (Obj.cells #[.int .u64 (wd (fe Mr (Wd ^ 4) X0) 0), .int .u64 (wd (fe Mr (Wd ^ 4) X0) 1), .int .u64 (wd (fe Mr (Wd ^ 4) X0) 2), .int .u64 (wd (fe Mr (Wd ^ 4) X0) 3)] 28))
  have Kz_13 := Lib.hid (Blk.new w12 28 #[.int .u64 (wd (fe Mr (Wd ^ 4) X0) 0), .int .u64 (wd (fe Mr (Wd ^ 4) X0) 1), .int .u64 (wd (fe Mr (Wd ^ 4) X0) 2), .int .u64 (wd (fe Mr (Wd ^ 4) X0) 3)])
  obtain ⟨gz, hgz⟩ : ∃ g, g = w12.heap.size := ⟨_, rfl⟩
  have Js_13 := Lib.hid (Js_12.out.alloc (Obj.cells #[.int .u64 (wd (fe Mr (Wd ^ 4) X0) 0), .int .u64 (wd (fe Mr (Wd ^ 4) X0) 1), .int .u64 (wd (fe Mr (Wd ^ 4) X0) 2), .int .u64 (wd (fe Mr (Wd ^ 4) X0) 3)] 28))
  have Jt_13 := Lib.hid (Jt_12.out.alloc (Obj.cells #[.int .u64 (wd (fe Mr (Wd ^ 4) X0) 0), .int .u64 (wd (fe Mr (Wd ^ 4) X0) 1), .int .u64 (wd (fe Mr (Wd ^ 4) X0) 2), .int .u64 (wd (fe Mr (Wd ^ 4) X0) 3)] 28))
  obtain ⟨w13, hw13⟩ : ∃ W, W = w12.alloc (Obj.cells #[.int .u64 (wd (fe Mr (Wd ^ 4) X0) 0), .int .u64 (wd (fe Mr (Wd ^ 4) X0) 1), .int .u64 (wd (fe Mr (Wd ^ 4) X0) 2), .int .u64 (wd (fe Mr (Wd ^ 4) X0) 3)] 28) := ⟨_, rfl⟩
  rw [← hgz] at Kz_13
  simp only [← hw13] at B13 Kx_13 Ky_13 Kz_13 Js_13 Jt_13
  rw [← hw13, ← hgz]
  clear hw13 hgz B12 Kx_12 Ky_12 Js_12 Jt_12
  obtain ⟨cx0, cx1, cx2, cx3⟩ := cells4 Kx_13.out
  have zx := Kx_13.out.lt
  obtain ⟨cy0, cy1, cy2, cy3⟩ := cells4 Ky_13.out
  have zy := Ky_13.out.lt
  obtain ⟨cz0, cz1, cz2, cz3⟩ := cells4 Kz_13.out
  have zz := Kz_13.out.lt
  clear hsl hz52
  have q3 := Q3.out
  have hu52 := und52
  have hjs : (Tryd.prog.info? 52).map (·.size) = some D0.length := by have := DI0.out; rwa [List.size_toArray] at this
  have hjt : (Tryd.prog.info? 52).map (·.size) = some D1.length := by have := DI1.out; rwa [List.size_toArray] at this
  have GV1 := Lib.hid (HG.out.keep B13.out)
  have h1_0 := based_neg w13 GV1.out (X0)
  rw [← HN.out] at h1_0
  unfold fv arr4 at h1_0
  have A1_0 := Lib.hid h1_0
  clear h1_0
  have h1_1 := based_neg w13 GV1.out (N)
  rw [← HNN.out] at h1_1
  unfold fv arr4 at h1_1
  have A1_1 := Lib.hid h1_1
  clear h1_1
  have h1_2 := based_sub w13 GV1.out (X0) (X1)
  rw [← HU.out] at h1_2
  unfold fv arr4 at h1_2
  have A1_2 := Lib.hid h1_2
  clear h1_2
  have h1_3 := based_sub w13 GV1.out (X1) (X0)
  rw [← HV.out] at h1_3
  unfold fv arr4 at h1_3
  have A1_3 := Lib.hid h1_3
  clear h1_3
  have h1_4 := based_neg w13 GV1.out (V)
  rw [← HNV.out] at h1_4
  unfold fv arr4 at h1_4
  have A1_4 := Lib.hid h1_4
  clear h1_4
  clear cx0 cx1 cx2 cx3 zx cy0 cy1 cy2 cy3 zy cz0 cz1 cz2 cz3 zz
  have D13 := hid_drew w13
  have SS13 : Hid (∀ W, Hid (Below w13.heap.size w13 W) → W.cell? ⟨gx, 0, none⟩ = some (.int .u64 (wd (fe Mr (Wd ^ 4) X0) 0)) ∧ W.cell? ⟨gx, 1, none⟩ = some (.int .u64 (wd (fe Mr (Wd ^ 4) X0) 1)) ∧ W.cell? ⟨gx, 2, none⟩ = some (.int .u64 (wd (fe Mr (Wd ^ 4) X0) 2)) ∧ W.cell? ⟨gx, 3, none⟩ = some (.int .u64 (wd (fe Mr (Wd ^ 4) X0) 3)) ∧ W.cell? ⟨gy, 0, none⟩ = some (.int .u64 (wd (fe Mr (Wd ^ 4) X1) 0)) ∧ W.cell? ⟨gy, 1, none⟩ = some (.int .u64 (wd (fe Mr (Wd ^ 4) X1) 1)) ∧ W.cell? ⟨gy, 2, none⟩ = some (.int .u64 (wd (fe Mr (Wd ^ 4) X1) 2)) ∧ W.cell? ⟨gy, 3, none⟩ = some (.int .u64 (wd (fe Mr (Wd ^ 4) X1) 3)) ∧ W.cell? ⟨gz, 0, none⟩ = some (.int .u64 (wd (fe Mr (Wd ^ 4) X0) 0)) ∧ W.cell? ⟨gz, 1, none⟩ = some (.int .u64 (wd (fe Mr (Wd ^ 4) X0) 1)) ∧ W.cell? ⟨gz, 2, none⟩ = some (.int .u64 (wd (fe Mr (Wd ^ 4) X0) 2)) ∧ W.cell? ⟨gz, 3, none⟩ = some (.int .u64 (wd (fe Mr (Wd ^ 4) X0) 3)) ∧ W.rangeAt gs 0 D0 ∧ W.rangeAt gt 0 D1 ∧ Hid (Below w13.heap.size w13 W)) := Lib.hid (fun W hW => by
    obtain ⟨qx0, qx1, qx2, qx3⟩ := cells4 (Kx_13.out.keep hW.out)
    obtain ⟨qy0, qy1, qy2, qy3⟩ := cells4 (Ky_13.out.keep hW.out)
    obtain ⟨qz0, qz1, qz2, qz3⟩ := cells4 (Kz_13.out.keep hW.out)
    have rs : W.rangeAt gs 0 D0 := fun j v hv => (Js_13.out.keep hW.out).range j v (by simpa using hv)
    have rt : W.rangeAt gt 0 D1 := fun j v hv => (Jt_13.out.keep hW.out).range j v (by simpa using hv)
    exact ⟨qx0, qx1, qx2, qx3, qy0, qy1, qy2, qy3, qz0, qz1, qz2, qz3, rs, rt, hW⟩)
  refine wp_region_held_drew (S := fun W => W.cell? ⟨gx, 0, none⟩ = some (.int .u64 (wd (fe Mr (Wd ^ 4) X0) 0)) ∧ W.cell? ⟨gx, 1, none⟩ = some (.int .u64 (wd (fe Mr (Wd ^ 4) X0) 1)) ∧ W.cell? ⟨gx, 2, none⟩ = some (.int .u64 (wd (fe Mr (Wd ^ 4) X0) 2)) ∧ W.cell? ⟨gx, 3, none⟩ = some (.int .u64 (wd (fe Mr (Wd ^ 4) X0) 3)) ∧ W.cell? ⟨gy, 0, none⟩ = some (.int .u64 (wd (fe Mr (Wd ^ 4) X1) 0)) ∧ W.cell? ⟨gy, 1, none⟩ = some (.int .u64 (wd (fe Mr (Wd ^ 4) X1) 1)) ∧ W.cell? ⟨gy, 2, none⟩ = some (.int .u64 (wd (fe Mr (Wd ^ 4) X1) 2)) ∧ W.cell? ⟨gy, 3, none⟩ = some (.int .u64 (wd (fe Mr (Wd ^ 4) X1) 3)) ∧ W.cell? ⟨gz, 0, none⟩ = some (.int .u64 (wd (fe Mr (Wd ^ 4) X0) 0)) ∧ W.cell? ⟨gz, 1, none⟩ = some (.int .u64 (wd (fe Mr (Wd ^ 4) X0) 1)) ∧ W.cell? ⟨gz, 2, none⟩ = some (.int .u64 (wd (fe Mr (Wd ^ 4) X0) 2)) ∧ W.cell? ⟨gz, 3, none⟩ = some (.int .u64 (wd (fe Mr (Wd ^ 4) X0) 3)) ∧ W.rangeAt gs 0 D0 ∧ W.rangeAt gt 0 D1 ∧ Hid (Below w13.heap.size w13 W)) (by kernel_rfl) (SS13.out _ D13) (fun hHeld => ?_)
  refine wpAnyH_put (i := 0) 36 (.int .i64 0) rfl (by kernel_rfl) (by kernel_rfl) (by kernel_rfl) (fun _ _ _ h => h) rfl (Or.inl ⟨by rfl, fun w hSw => ?_⟩) hHeld ?_
  · (try dsimp only at hSw); go_simp
  try go_frame
  refine wpAnyH_put (i := 1) 37 (.bool true) rfl (by kernel_rfl) (by kernel_rfl) (by kernel_rfl) (fun _ _ _ h => h) rfl (Or.inl ⟨by rfl, fun w hSw => ?_⟩) hHeld ?_
  · (try dsimp only at hSw); go_simp
  try go_frame
  refine wpAnyH_put (i := 2) 38 (.bool true) rfl (by kernel_rfl) (by kernel_rfl) (by kernel_rfl) (fun _ _ _ h => h) rfl (Or.inl ⟨by rfl, fun w hSw => ?_⟩) hHeld ?_
  · (try dsimp only at hSw); go_simp
  try go_frame
  refine wpAnyH_put (i := 3) 39 (.agg #[.int .u64 (wd (fe Mr (Wd ^ 4) X0) 0), .int .u64 (wd (fe Mr (Wd ^ 4) X0) 1), .int .u64 (wd (fe Mr (Wd ^ 4) X0) 2), .int .u64 (wd (fe Mr (Wd ^ 4) X0) 3)]) rfl (by kernel_rfl) (by kernel_rfl) (by kernel_rfl) (fun _ _ _ h => h) rfl (Or.inl ⟨by rfl, fun w hSw => ?_⟩) hHeld ?_
  · (try dsimp only at hSw); go_simp
  try go_frame
  refine wpAnyH_put (i := 4) 40 (.agg #[.int .u64 (wd (fe Mr (Wd ^ 4) X0) 0), .int .u64 (wd (fe Mr (Wd ^ 4) X0) 1), .int .u64 (wd (fe Mr (Wd ^ 4) X0) 2), .int .u64 (wd (fe Mr (Wd ^ 4) X0) 3)]) rfl (by kernel_rfl) (by kernel_rfl) (by kernel_rfl) (fun _ _ _ h => h) rfl (Or.inl ⟨by rfl, fun w hSw => ?_⟩) hHeld ?_
  · (try dsimp only at hSw); go_simp
  try go_frame
  refine wpAnyH_put (i := 5) 41 (.bool true) rfl (by kernel_rfl) (by kernel_rfl) (by kernel_rfl) (fun _ _ _ h => h) rfl (Or.inl ⟨by rfl, fun w hSw => ?_⟩) hHeld ?_
  · (try dsimp only at hSw); go_simp
  try go_frame
  refine wpAnyH_put (i := 6) 42 (.bool true) rfl (by kernel_rfl) (by kernel_rfl) (by kernel_rfl) (fun _ _ _ h => h) rfl (Or.inl ⟨by rfl, fun w hSw => ?_⟩) hHeld ?_
  · (try dsimp only at hSw); go_simp
  try go_frame
  refine wpAnyH_put (i := 7) 43 (.bool true) rfl (by kernel_rfl) (by kernel_rfl) (by kernel_rfl) (fun _ _ _ h => h) rfl (Or.inl ⟨by rfl, fun w hSw => ?_⟩) hHeld ?_
  · (try dsimp only at hSw); go_simp
  try go_frame
  refine wpAnyH_put (i := 8) 44 (.agg D0.toArray) rfl (by kernel_rfl) (by kernel_rfl) (by kernel_rfl) (fun _ _ _ h => h) rfl (yieldsIf_load_mid (by rfl) _ _ rfl gs 0 rfl D0 _ (fun w hSw => by (try dsimp only at hSw); go_split_ands; assumption) hu52 rfl hjs) hHeld ?_
  try go_frame
  refine wpAnyH_put (i := 9) 45 (.agg D1.toArray) rfl (by kernel_rfl) (by kernel_rfl) (by kernel_rfl) (fun _ _ _ h => h) rfl (yieldsIf_load_mid (by rfl) _ _ rfl gt 0 rfl D1 _ (fun w hSw => by (try dsimp only at hSw); go_split_ands; assumption) hu52 rfl hjt) hHeld ?_
  try go_frame
  refine wpAnyH_put (i := 10) 46 (.bool true) rfl (by kernel_rfl) (by kernel_rfl) (by kernel_rfl) (fun _ _ _ h => h) rfl (Or.inl ⟨by rfl, fun w hSw => ?_⟩) hHeld ?_
  · (try dsimp only at hSw); go_simp
  try go_frame
  refine wpAnyH_put (i := 11) 47 (.agg #[.int .u64 (wd (fe Mr (Wd ^ 4) X0) 0), .int .u64 (wd (fe Mr (Wd ^ 4) X0) 1), .int .u64 (wd (fe Mr (Wd ^ 4) X0) 2), .int .u64 (wd (fe Mr (Wd ^ 4) X0) 3)]) rfl (by kernel_rfl) (by kernel_rfl) (by kernel_rfl) (fun _ _ _ h => h) rfl (Or.inl ⟨by rfl, fun w hSw => ?_⟩) hHeld ?_
  · (try dsimp only at hSw); go_simp
  try go_frame
  refine wpAnyH_put (i := 12) 48 (.agg #[.int .u64 (wd (fe Mr (Wd ^ 4) X1) 0), .int .u64 (wd (fe Mr (Wd ^ 4) X1) 1), .int .u64 (wd (fe Mr (Wd ^ 4) X1) 2), .int .u64 (wd (fe Mr (Wd ^ 4) X1) 3)]) rfl (by kernel_rfl) (by kernel_rfl) (by kernel_rfl) (fun _ _ _ h => h) rfl (Or.inl ⟨by rfl, fun w hSw => ?_⟩) hHeld ?_
  · (try dsimp only at hSw); go_simp
  try go_frame
  refine wpAnyH_put (i := 13) 49 (.bool true) rfl (by kernel_rfl) (by kernel_rfl) (by kernel_rfl) (fun _ _ _ h => h) rfl (Or.inl ⟨by rfl, fun w hSw => ?_⟩) hHeld ?_
  · (try dsimp only at hSw); go_simp
  try go_frame
  refine wpAnyH_put (i := 14) 50 (.bool true) rfl (by kernel_rfl) (by kernel_rfl) (by kernel_rfl) (fun _ _ _ h => h) rfl (Or.inl ⟨by rfl, fun w hSw => ?_⟩) hHeld ?_
  · (try dsimp only at hSw); go_simp
  try go_frame
  refine wpAnyH_put (i := 15) 51 (.bool true) rfl (by kernel_rfl) (by kernel_rfl) (by kernel_rfl) (fun _ _ _ h => h) rfl (Or.inl ⟨by rfl, fun w hSw => ?_⟩) hHeld ?_
  · (try dsimp only at hSw); go_simp
  try go_frame
  refine wpAnyH_put (i := 16) 52 (.bool true) rfl (by kernel_rfl) (by kernel_rfl) (by kernel_rfl) (fun _ _ _ h => h) rfl (Or.inl ⟨by rfl, fun w hSw => ?_⟩) hHeld ?_
  · (try dsimp only at hSw); go_simp
  try go_frame
  refine wpAnyH_put (i := 17) 53 (.agg #[.int .u64 (wd (fe Mr (Wd ^ 4) X0) 0), .int .u64 (wd (fe Mr (Wd ^ 4) X0) 1), .int .u64 (wd (fe Mr (Wd ^ 4) X0) 2), .int .u64 (wd (fe Mr (Wd ^ 4) X0) 3)]) rfl (by kernel_rfl) (by kernel_rfl) (by kernel_rfl) (fun _ _ _ h => h) rfl (Or.inl ⟨by rfl, fun w hSw => ?_⟩) hHeld ?_
  · (try dsimp only at hSw); go_simp
  try go_frame
  refine wpAnyH_put (i := 20) 56 (.agg #[.int .u64 (wd (fe Mr (Wd ^ 4) X0) 0), .int .u64 (wd (fe Mr (Wd ^ 4) X0) 1), .int .u64 (wd (fe Mr (Wd ^ 4) X0) 2), .int .u64 (wd (fe Mr (Wd ^ 4) X0) 3)]) rfl (by kernel_rfl) (by kernel_rfl) (by kernel_rfl) (fun _ _ _ h => h) rfl (Or.inl ⟨by rfl, fun w hSw => ?_⟩) hHeld ?_
  · (try dsimp only at hSw); go_simp
  try go_frame
  refine wpAnyH_ready (rs := [18]) (by kernel_rfl) (by simp) ?_
  refine AllReadyH.cons rfl (fun K hK => ?_) AllReadyH.nil
  go_simp
  refine (A1_0.out _ (by first | exact D13 | with_reducible assumption)).mono ?_
  rintro e w14 ⟨rfl, HB14⟩
  go_simp
  refine hK.out _ _ (SS13.out _ HB14) (fun hHeld => ?_)
  clear hK K
  try go_frame
  refine wpAnyH_ready (rs := [19]) (by kernel_rfl) (by simp) ?_
  refine AllReadyH.cons rfl (fun K hK => ?_) AllReadyH.nil
  go_simp
  refine (A1_1.out _ (by first | exact D13 | with_reducible assumption)).mono ?_
  rintro e w14 ⟨rfl, HB14⟩
  go_simp
  refine hK.out _ _ (SS13.out _ HB14) (fun hHeld => ?_)
  clear hK K
  try go_frame
  refine wpAnyH_put (i := 21) 57 (.bool true) rfl (by kernel_rfl) (by kernel_rfl) (by kernel_rfl) (fun _ _ _ h => h) rfl (Or.inl ⟨by rfl, fun w hSw => ?_⟩) hHeld ?_
  · (try dsimp only at hSw); go_simp
  try go_frame
  refine wpAnyH_put (i := 22) 58 (.bool true) rfl (by kernel_rfl) (by kernel_rfl) (by kernel_rfl) (fun _ _ _ h => h) rfl (Or.inl ⟨by rfl, fun w hSw => ?_⟩) hHeld ?_
  · (try dsimp only at hSw); go_simp
  try go_frame
  refine wpAnyH_put (i := 23) 59 (.bool true) rfl (by kernel_rfl) (by kernel_rfl) (by kernel_rfl) (fun _ _ _ h => h) rfl (Or.inl ⟨by rfl, fun w hSw => ?_⟩) hHeld ?_
  · (try dsimp only at hSw); go_simp
  try go_frame
  refine wpAnyH_put (i := 24) 60 (.agg #[.int .u64 (wd (fe Mr (Wd ^ 4) X0) 0), .int .u64 (wd (fe Mr (Wd ^ 4) X0) 1), .int .u64 (wd (fe Mr (Wd ^ 4) X0) 2), .int .u64 (wd (fe Mr (Wd ^ 4) X0) 3)]) rfl (by kernel_rfl) (by kernel_rfl) (by kernel_rfl) (fun _ _ _ h => h) rfl (Or.inl ⟨by rfl, fun w hSw => ?_⟩) hHeld ?_
  · (try dsimp only at hSw); go_simp
  try go_frame
  refine wpAnyH_put (i := 25) 61 (.agg #[.int .u64 (wd (fe Mr (Wd ^ 4) X1) 0), .int .u64 (wd (fe Mr (Wd ^ 4) X1) 1), .int .u64 (wd (fe Mr (Wd ^ 4) X1) 2), .int .u64 (wd (fe Mr (Wd ^ 4) X1) 3)]) rfl (by kernel_rfl) (by kernel_rfl) (by kernel_rfl) (fun _ _ _ h => h) rfl (Or.inl ⟨by rfl, fun w hSw => ?_⟩) hHeld ?_
  · (try dsimp only at hSw); go_simp
  try go_frame
  refine wpAnyH_put (i := 27) 63 (.agg #[.int .u64 (wd (fe Mr (Wd ^ 4) X1) 0), .int .u64 (wd (fe Mr (Wd ^ 4) X1) 1), .int .u64 (wd (fe Mr (Wd ^ 4) X1) 2), .int .u64 (wd (fe Mr (Wd ^ 4) X1) 3)]) rfl (by kernel_rfl) (by kernel_rfl) (by kernel_rfl) (fun _ _ _ h => h) rfl (Or.inl ⟨by rfl, fun w hSw => ?_⟩) hHeld ?_
  · (try dsimp only at hSw); go_simp
  try go_frame
  refine wpAnyH_put (i := 28) 64 (.agg #[.int .u64 (wd (fe Mr (Wd ^ 4) X0) 0), .int .u64 (wd (fe Mr (Wd ^ 4) X0) 1), .int .u64 (wd (fe Mr (Wd ^ 4) X0) 2), .int .u64 (wd (fe Mr (Wd ^ 4) X0) 3)]) rfl (by kernel_rfl) (by kernel_rfl) (by kernel_rfl) (fun _ _ _ h => h) rfl (Or.inl ⟨by rfl, fun w hSw => ?_⟩) hHeld ?_
  · (try dsimp only at hSw); go_simp
  try go_frame
  refine wpAnyH_ready (rs := [26]) (by kernel_rfl) (by simp) ?_
  refine AllReadyH.cons rfl (fun K hK => ?_) AllReadyH.nil
  go_simp
  refine (A1_2.out _ (by first | exact D13 | with_reducible assumption)).mono ?_
  rintro e w14 ⟨rfl, HB14⟩
  go_simp
  refine hK.out _ _ (SS13.out _ HB14) (fun hHeld => ?_)
  clear hK K
  try go_frame
  refine wpAnyH_ready (rs := [29]) (by kernel_rfl) (by simp) ?_
  refine AllReadyH.cons rfl (fun K hK => ?_) AllReadyH.nil
  go_simp
  refine (A1_3.out _ (by first | exact D13 | with_reducible assumption)).mono ?_
  rintro e w14 ⟨rfl, HB14⟩
  go_simp
  refine hK.out _ _ (SS13.out _ HB14) (fun hHeld => ?_)
  clear hK K
  try go_frame
  refine wpAnyH_ready (rs := [30]) (by kernel_rfl) (by simp) ?_
  refine AllReadyH.cons rfl (fun K hK => ?_) AllReadyH.nil
  go_simp
  refine (A1_4.out _ (by first | exact D13 | with_reducible assumption)).mono ?_
  rintro e w14 ⟨rfl, HB14⟩
  go_simp
  refine hK.out _ _ (SS13.out _ HB14) (fun hHeld => ?_)
  clear hK K
  try go_frame
  refine wpAnyH_put (i := 31) 67 (.bool true) rfl (by kernel_rfl) (by kernel_rfl) (by kernel_rfl) (fun _ _ _ h => h) rfl (Or.inl ⟨by rfl, fun w hSw => ?_⟩) hHeld ?_
  · (try dsimp only at hSw); go_simp
  try go_frame
  refine wpAnyH_put (i := 32) 68 (.bool true) rfl (by kernel_rfl) (by kernel_rfl) (by kernel_rfl) (fun _ _ _ h => h) rfl (Or.inl ⟨by rfl, fun w hSw => ?_⟩) hHeld ?_
  · (try dsimp only at hSw); go_simp
  try go_frame
  refine wpAnyH_put (i := 33) 4 (.bool true) rfl (by kernel_rfl) (by kernel_rfl) (by kernel_rfl) (fun _ _ _ h => h) rfl (Or.inl ⟨by rfl, fun w hSw => ?_⟩) hHeld ?_
  · (try dsimp only at hSw); go_simp
  try go_frame
  refine wpAnyH_done (by kernel_rfl) ?_ _
  try go_frame
  have B14 := Lib.hid (B13.out.trans (HB14.out.mono B13.out.size))
  have Kx_14 := Lib.hid (Kx_13.out.keep HB14.out)
  have Ky_14 := Lib.hid (Ky_13.out.keep HB14.out)
  have Kz_14 := Lib.hid (Kz_13.out.keep HB14.out)
  clear B13 SS13 D13 HB14 hHeld Kx_13 Ky_13 Kz_13 A1_0 A1_1 A1_2 A1_3 A1_4
  obtain ⟨cx0, cx1, cx2, cx3⟩ := cells4 Kx_14.out
  have zx := Kx_14.out.lt
  obtain ⟨cy0, cy1, cy2, cy3⟩ := cells4 Ky_14.out
  have zy := Ky_14.out.lt
  obtain ⟨cz0, cz1, cz2, cz3⟩ := cells4 Kz_14.out
  have zz := Kz_14.out.lt
  go_wp2_with fail
  go_ret
  exact ⟨rfl, B14.out⟩
set_option maxRecDepth 100000 in
set_option maxHeartbeats 8000000 in
theorem forms_ne (w : World) (hG : GMr w) (hS : GSq w) (hH : GSh w) (A0 : Option Addr) (L0 c0 : Nat) (bs0 : List Int) (A1 : Option Addr) (L1 c1 : Nat) (bs1 : List Int) (hr0 : Reads w w.heap.size A0 L0 (bs0.map (Value.int .u8))) (ho0 : Oct bs0) (hr1 : Reads w w.heap.size A1 L1 (bs1.map (Value.int .u8))) (ho1 : Oct bs1) (h0 : L0 ≤ 400) (h1 : L1 ≤ 400) (hq : ¬ num bs0 % Mr = num bs1 % Mr) :
    Calls Tryd.prog 9 #[.slice A0 L0 c0, .slice A1 L1 c1] w fun e w' => e = .returned (.bool true) ∧ Below w.heap.size w w' := by
  have HG := Lib.hid hG
  have HS := Lib.hid hS
  have HH := Lib.hid hH
  have HR0 := Lib.hid hr0
  have HO0 := Lib.hid ho0
  have HL0 := Lib.hid (show bs0.length = L0 by simpa using hr0.1)
  obtain ⟨X0, hX0⟩ : ∃ X, X = num bs0 := ⟨_, rfl⟩
  have HR1 := Lib.hid hr1
  have HO1 := Lib.hid ho1
  have HL1 := Lib.hid (show bs1.length = L1 by simpa using hr1.1)
  obtain ⟨X1, hX1⟩ : ∃ X, X = num bs1 := ⟨_, rfl⟩
  rw [← hX0, ← hX1] at hq
  have q1 := fv_same X0 X0 rfl
  have q2 := fv_unlike X0 X1 hq
  have q3 := octs_unlike X0 X1 hq
  obtain ⟨N, hN⟩ : ∃ N, N = -X0 := ⟨_, rfl⟩
  obtain ⟨NN, hNN⟩ : ∃ N2, N2 = -N := ⟨_, rfl⟩
  obtain ⟨U, hU⟩ : ∃ U, U = X0 - X1 := ⟨_, rfl⟩
  obtain ⟨V, hV⟩ : ∃ V, V = X1 - X0 := ⟨_, rfl⟩
  obtain ⟨NV, hNV⟩ : ∃ V2, V2 = -V := ⟨_, rfl⟩
  have q4 := fv_same NN X0 (by rw [hNN, hN, Int.neg_neg])
  have q5 := fv_same U NV (by rw [hNV, hV, hU, Int.neg_sub])
  have hby0 := fr_bytes X0
  have hby1 := fr_bytes X1
  have hrd := read_octs X0
  rw [show ag8 (lo (X0 % Mr) 32) = (octs X0).toArray from rfl] at hby0
  rw [show ag8 (lo (X1 % Mr) 32) = (octs X1).toArray from rfl] at hby1
  have hl0 := octs_len X0
  have hl1 := octs_len X1
  have ho0' : (octs X0).toArray.all (·.oneCell') = true := ag8_one _
  have ho1' : (octs X1).toArray.all (·.oneCell') = true := ag8_one _
  obtain ⟨D0, hD0⟩ : ∃ D, D = octs X0 := ⟨_, rfl⟩
  obtain ⟨D1, hD1⟩ : ∃ D, D = octs X1 := ⟨_, rfl⟩
  rw [← hD0] at hby0 hrd hl0 ho0' q3
  rw [← hD1] at hby1 hl1 ho1' q3
  have hi0 : (Tryd.prog.info? 52).map (·.size) = some D0.toArray.size := by rw [List.size_toArray, hl0]; kernel_rfl
  have hi1 : (Tryd.prog.info? 52).map (·.size) = some D1.toArray.size := by rw [List.size_toArray, hl1]; kernel_rfl
  have DZ0 : Hid (D0.toArray.size = 32) := Lib.hid (by rw [List.size_toArray, hl0])
  have DZ1 : Hid (D1.toArray.size = 32) := Lib.hid (by rw [List.size_toArray, hl1])
  have DI0 := Lib.hid hi0
  have DI1 := Lib.hid hi1
  have DO0 := Lib.hid ho0'
  have DO1 := Lib.hid ho1'
  have BY0 := Lib.hid hby0
  have BY1 := Lib.hid hby1
  have RD := Lib.hid hrd
  have HN := Lib.hid hN
  have HNN := Lib.hid hNN
  have HU := Lib.hid hU
  have HV := Lib.hid hV
  have HNV := Lib.hid hNV
  have Q3 := Lib.hid q3
  clear hN hNN hU hV hNV hby0 hby1 hrd hl0 hl1 ho0' ho1' hi0 hi1 hD0 hD1 hq q3
  obtain ⟨Z, hZ⟩ : ∃ Z, Z = ag8 (List.replicate 32 0) := ⟨_, rfl⟩
  have hz52 : ∀ W : World, (zeroValue 52).run Tryd.prog W = .ok (.agg Z) W := fun W => by rw [hZ]; exact zero52 W
  have hZz : Z.size = 32 := by rw [hZ, ag8_size]; simp
  have ZZ := Lib.hid hZz
  clear hZ hZz
  have HX0 := Lib.hid hX0
  clear hX0 hr0 ho0
  have HX1 := Lib.hid hX1
  clear hX1 hr1 ho1
  clear hG hS hH
  have B0 : Hid (Below w.heap.size w w) := Lib.hid (Below.refl _ _)
  go_enter Tryd.func9, Tryd.ntmps9
  go_wp2_with fail
  refine (fr_head _ (HG.out.keep B0.out) (HS.out.keep B0.out)).mono ?_
  rintro e w1 ⟨rfl, hb⟩
  have B1 := Lib.hid (B0.out.trans (hb.mono B0.out.size))
  clear hb B0 
  go_wp2_with fail
  refine (copy_any w1 A0 L0 c0 bs0 ((HR0.out.below B1.out).more B1.out.size) (by omega)).mono ?_
  rintro e w2 ⟨gc0, rfl, -, hBc, hb⟩
  have RC0 := Lib.hid (copy_reads hBc HL0.out)
  have B2 := Lib.hid (B1.out.trans (hb.mono B1.out.size))
  clear hb hBc B1 
  go_wp2_with fail
  refine (fr_wide _ (HG.out.keep B2.out) (HS.out.keep B2.out) (HH.out.keep B2.out) (some ⟨gc0, 0, none⟩) L0 L0 bs0 RC0.out HO0.out (Nat.le_refl _) (by omega)).mono ?_
  rintro e w3 ⟨rfl, hb⟩
  have B3 := Lib.hid (B2.out.trans (hb.mono B2.out.size))
  clear hb B2 
  rw [← HX0.out]
  unfold fv arr4
  go_wp2_with fail
  have B4 := Lib.hid (B3.out.alloc B3.out.size (Obj.cells #[.int .u64 (wd (fe Mr (Wd ^ 4) X0) 0), .int .u64 (wd (fe Mr (Wd ^ 4) X0) 1), .int .u64 (wd (fe Mr (Wd ^ 4) X0) 2), .int .u64 (wd (fe Mr (Wd ^ 4) X0) 3)] 28))
  have Kx_4 := Lib.hid (Blk.new w3 28 #[.int .u64 (wd (fe Mr (Wd ^ 4) X0) 0), .int .u64 (wd (fe Mr (Wd ^ 4) X0) 1), .int .u64 (wd (fe Mr (Wd ^ 4) X0) 2), .int .u64 (wd (fe Mr (Wd ^ 4) X0) 3)])
  obtain ⟨gx, hgx⟩ : ∃ g, g = w3.heap.size := ⟨_, rfl⟩
  obtain ⟨w4, hw4⟩ : ∃ W, W = w3.alloc (Obj.cells #[.int .u64 (wd (fe Mr (Wd ^ 4) X0) 0), .int .u64 (wd (fe Mr (Wd ^ 4) X0) 1), .int .u64 (wd (fe Mr (Wd ^ 4) X0) 2), .int .u64 (wd (fe Mr (Wd ^ 4) X0) 3)] 28) := ⟨_, rfl⟩
  rw [← hgx] at Kx_4
  simp only [← hw4] at B4 Kx_4
  rw [← hw4, ← hgx]
  clear hw4 hgx B3 
  obtain ⟨cx0, cx1, cx2, cx3⟩ := cells4 Kx_4.out
  have zx := Kx_4.out.lt
  refine (copy_any w4 A1 L1 c1 bs1 ((HR1.out.below B4.out).more B4.out.size) (by omega)).mono ?_
  rintro e w5 ⟨gc1, rfl, -, hBc, hb⟩
  clear cx0 cx1 cx2 cx3 zx
  have RC1 := Lib.hid (copy_reads hBc HL1.out)
  have B5 := Lib.hid (B4.out.trans (hb.mono B4.out.size))
  have Kx_5 := Lib.hid (Kx_4.out.keep hb)
  clear hb hBc B4 Kx_4
  go_wp2_with fail
  refine (fr_wide _ (HG.out.keep B5.out) (HS.out.keep B5.out) (HH.out.keep B5.out) (some ⟨gc1, 0, none⟩) L1 L1 bs1 RC1.out HO1.out (Nat.le_refl _) (by omega)).mono ?_
  rintro e w6 ⟨rfl, hb⟩
  have B6 := Lib.hid (B5.out.trans (hb.mono B5.out.size))
  have Kx_6 := Lib.hid (Kx_5.out.keep hb)
  clear hb B5 Kx_5
  obtain ⟨cx0, cx1, cx2, cx3⟩ := cells4 Kx_6.out
  have zx := Kx_6.out.lt
  rw [← HX1.out]
  unfold fv arr4
  go_wp2_with fail
  clear cx0 cx1 cx2 cx3 zx
  have B7 := Lib.hid (B6.out.alloc B6.out.size (Obj.cells #[.int .u64 (wd (fe Mr (Wd ^ 4) X1) 0), .int .u64 (wd (fe Mr (Wd ^ 4) X1) 1), .int .u64 (wd (fe Mr (Wd ^ 4) X1) 2), .int .u64 (wd (fe Mr (Wd ^ 4) X1) 3)] 28))
  have Kx_7 := Lib.hid (Kx_6.out.alloc (Obj.cells #[.int .u64 (wd (fe Mr (Wd ^ 4) X1) 0), .int .u64 (wd (fe Mr (Wd ^ 4) X1) 1), .int .u64 (wd (fe Mr (Wd ^ 4) X1) 2), .int .u64 (wd (fe Mr (Wd ^ 4) X1) 3)] 28))
  have Ky_7 := Lib.hid (Blk.new w6 28 #[.int .u64 (wd (fe Mr (Wd ^ 4) X1) 0), .int .u64 (wd (fe Mr (Wd ^ 4) X1) 1), .int .u64 (wd (fe Mr (Wd ^ 4) X1) 2), .int .u64 (wd (fe Mr (Wd ^ 4) X1) 3)])
  obtain ⟨gy, hgy⟩ : ∃ g, g = w6.heap.size := ⟨_, rfl⟩
  obtain ⟨w7, hw7⟩ : ∃ W, W = w6.alloc (Obj.cells #[.int .u64 (wd (fe Mr (Wd ^ 4) X1) 0), .int .u64 (wd (fe Mr (Wd ^ 4) X1) 1), .int .u64 (wd (fe Mr (Wd ^ 4) X1) 2), .int .u64 (wd (fe Mr (Wd ^ 4) X1) 3)] 28) := ⟨_, rfl⟩
  rw [← hgy] at Ky_7
  simp only [← hw7] at B7 Kx_7 Ky_7
  rw [← hw7, ← hgy]
  clear hw7 hgy B6 Kx_6
  obtain ⟨cx0, cx1, cx2, cx3⟩ := cells4 Kx_7.out
  have zx := Kx_7.out.lt
  obtain ⟨cy0, cy1, cy2, cy3⟩ := cells4 Ky_7.out
  have zy := Ky_7.out.lt
  refine (BY0.out _ (HG.out.keep B7.out)).mono ?_
  rintro e w8 ⟨rfl, hb⟩
  clear cx0 cx1 cx2 cx3 zx cy0 cy1 cy2 cy3 zy
  have B8 := Lib.hid (B7.out.trans (hb.mono B7.out.size))
  have Kx_8 := Lib.hid (Kx_7.out.keep hb)
  have Ky_8 := Lib.hid (Ky_7.out.keep hb)
  clear hb B7 Kx_7 Ky_7
  obtain ⟨cx0, cx1, cx2, cx3⟩ := cells4 Kx_8.out
  have zx := Kx_8.out.lt
  obtain ⟨cy0, cy1, cy2, cy3⟩ := cells4 Ky_8.out
  have zy := Ky_8.out.lt
  go_wp2_with (((with_reducible refine wpList_store_at (ty := 52) (x := .tmp 7) (y := .tmp 28) w8.heap.size 0 52 Z D0.toArray ?_ ?_ ?_ DI0.out ?_ DO0.out ?_); exact rfl; exact rfl; exact Blk.new w8 _ _; exact (by rw [DZ0.out, ZZ.out]; omega); intro w9 HB9 HG9; clear cx0 cx1 cx2 cx3 zx cy0 cy1 cy2 cy3 zy; have Js_9 : Hid (Blk w9 w8.heap.size 52 D0.toArray) := Lib.hid (HB9.out.cast (by rw [splice_all _ _ (by rw [Array.length_toList, Array.length_toList, DZ0.out, ZZ.out]), Array.toArray_toList])); have B9 := Lib.hid ((B8.out.alloc B8.out.size (Obj.cells Z 52)).grown HG9.out (by have := B8.out.size; simp; omega) (fun i hi => by cases hi; exact B8.out.size)); have Kx_9 := Lib.hid ((Kx_8.out.alloc (Obj.cells Z 52)).grown HG9.out (by intro e; cases e; exact absurd Kx_8.out.lt (Nat.lt_irrefl _))); have Ky_9 := Lib.hid ((Ky_8.out.alloc (Obj.cells Z 52)).grown HG9.out (by intro e; cases e; exact absurd Ky_8.out.lt (Nat.lt_irrefl _))); obtain ⟨gs, hgs⟩ : ∃ g, g = w8.heap.size := ⟨_, rfl⟩; rw [← hgs] at Js_9 ⊢; clear hgs HB9 HG9 B8 Kx_8 Ky_8; obtain ⟨cx0, cx1, cx2, cx3⟩ := cells4 Kx_9.out; have zx := Kx_9.out.lt; obtain ⟨cy0, cy1, cy2, cy3⟩ := cells4 Ky_9.out; have zy := Ky_9.out.lt))
  refine (BY1.out _ (HG.out.keep B9.out)).mono ?_
  rintro e w10 ⟨rfl, hb⟩
  clear cx0 cx1 cx2 cx3 zx cy0 cy1 cy2 cy3 zy
  have B10 := Lib.hid (B9.out.trans (hb.mono B9.out.size))
  have Kx_10 := Lib.hid (Kx_9.out.keep hb)
  have Ky_10 := Lib.hid (Ky_9.out.keep hb)
  have Js_10 := Lib.hid (Js_9.out.keep hb)
  clear hb B9 Kx_9 Ky_9 Js_9
  obtain ⟨cx0, cx1, cx2, cx3⟩ := cells4 Kx_10.out
  have zx := Kx_10.out.lt
  obtain ⟨cy0, cy1, cy2, cy3⟩ := cells4 Ky_10.out
  have zy := Ky_10.out.lt
  have hsl := slice52_all gs 0
  go_wp2_with (((with_reducible refine wpList_store_at (ty := 52) (x := .tmp 8) (y := .tmp 30) w10.heap.size 0 52 Z D1.toArray ?_ ?_ ?_ DI1.out ?_ DO1.out ?_); exact rfl; exact rfl; exact Blk.new w10 _ _; exact (by rw [DZ1.out, ZZ.out]; omega); intro w11 HB11 HG11; clear cx0 cx1 cx2 cx3 zx cy0 cy1 cy2 cy3 zy; have Jt_11 : Hid (Blk w11 w10.heap.size 52 D1.toArray) := Lib.hid (HB11.out.cast (by rw [splice_all _ _ (by rw [Array.length_toList, Array.length_toList, DZ1.out, ZZ.out]), Array.toArray_toList])); have B11 := Lib.hid ((B10.out.alloc B10.out.size (Obj.cells Z 52)).grown HG11.out (by have := B10.out.size; simp; omega) (fun i hi => by cases hi; exact B10.out.size)); have Kx_11 := Lib.hid ((Kx_10.out.alloc (Obj.cells Z 52)).grown HG11.out (by intro e; cases e; exact absurd Kx_10.out.lt (Nat.lt_irrefl _))); have Ky_11 := Lib.hid ((Ky_10.out.alloc (Obj.cells Z 52)).grown HG11.out (by intro e; cases e; exact absurd Ky_10.out.lt (Nat.lt_irrefl _))); have Js_11 := Lib.hid ((Js_10.out.alloc (Obj.cells Z 52)).grown HG11.out (by intro e; cases e; exact absurd Js_10.out.lt (Nat.lt_irrefl _))); obtain ⟨gt, hgt⟩ : ∃ g, g = w10.heap.size := ⟨_, rfl⟩; rw [← hgt] at Jt_11 ⊢; clear hgt HB11 HG11 B10 Kx_10 Ky_10 Js_10; obtain ⟨cx0, cx1, cx2, cx3⟩ := cells4 Kx_11.out; have zx := Kx_11.out.lt; obtain ⟨cy0, cy1, cy2, cy3⟩ := cells4 Ky_11.out; have zy := Ky_11.out.lt))
  refine (RD.out _ gs (HG.out.keep B11.out) (HS.out.keep B11.out) Js_11.out).mono ?_
  rintro e w12 ⟨rfl, hb⟩
  clear cx0 cx1 cx2 cx3 zx cy0 cy1 cy2 cy3 zy
  have B12 := Lib.hid (B11.out.trans (hb.mono B11.out.size))
  have Kx_12 := Lib.hid (Kx_11.out.keep hb)
  have Ky_12 := Lib.hid (Ky_11.out.keep hb)
  have Js_12 := Lib.hid (Js_11.out.keep hb)
  have Jt_12 := Lib.hid (Jt_11.out.keep hb)
  clear hb B11 Kx_11 Ky_11 Js_11 Jt_11
  obtain ⟨cx0, cx1, cx2, cx3⟩ := cells4 Kx_12.out
  have zx := Kx_12.out.lt
  obtain ⟨cy0, cy1, cy2, cy3⟩ := cells4 Ky_12.out
  have zy := Ky_12.out.lt
  unfold fv arr4
  go_wp2_with fail
  clear cx0 cx1 cx2 cx3 zx cy0 cy1 cy2 cy3 zy
  have B13 := Lib.hid (B12.out.alloc B12.out.size (Obj.cells #[.int .u64 (wd (fe Mr (Wd ^ 4) X0) 0), .int .u64 (wd (fe Mr (Wd ^ 4) X0) 1), .int .u64 (wd (fe Mr (Wd ^ 4) X0) 2), .int .u64 (wd (fe Mr (Wd ^ 4) X0) 3)] 28))
  have Kx_13 := Lib.hid (Kx_12.out.alloc (Obj.cells #[.int .u64 (wd (fe Mr (Wd ^ 4) X0) 0), .int .u64 (wd (fe Mr (Wd ^ 4) X0) 1), .int .u64 (wd (fe Mr (Wd ^ 4) X0) 2), .int .u64 (wd (fe Mr (Wd ^ 4) X0) 3)] 28))
  have Ky_13 := Lib.hid (Ky_12.out.alloc (Obj.cells #[.int .u64 (wd (fe Mr (Wd ^ 4) X0) 0), .int .u64 (wd (fe Mr (Wd ^ 4) X0) 1), .int .u64 (wd (fe Mr (Wd ^ 4) X0) 2), .int .u64 (wd (fe Mr (Wd ^ 4) X0) 3)] 28))
  have Kz_13 := Lib.hid (Blk.new w12 28 #[.int .u64 (wd (fe Mr (Wd ^ 4) X0) 0), .int .u64 (wd (fe Mr (Wd ^ 4) X0) 1), .int .u64 (wd (fe Mr (Wd ^ 4) X0) 2), .int .u64 (wd (fe Mr (Wd ^ 4) X0) 3)])
  obtain ⟨gz, hgz⟩ : ∃ g, g = w12.heap.size := ⟨_, rfl⟩
  have Js_13 := Lib.hid (Js_12.out.alloc (Obj.cells #[.int .u64 (wd (fe Mr (Wd ^ 4) X0) 0), .int .u64 (wd (fe Mr (Wd ^ 4) X0) 1), .int .u64 (wd (fe Mr (Wd ^ 4) X0) 2), .int .u64 (wd (fe Mr (Wd ^ 4) X0) 3)] 28))
  have Jt_13 := Lib.hid (Jt_12.out.alloc (Obj.cells #[.int .u64 (wd (fe Mr (Wd ^ 4) X0) 0), .int .u64 (wd (fe Mr (Wd ^ 4) X0) 1), .int .u64 (wd (fe Mr (Wd ^ 4) X0) 2), .int .u64 (wd (fe Mr (Wd ^ 4) X0) 3)] 28))
  obtain ⟨w13, hw13⟩ : ∃ W, W = w12.alloc (Obj.cells #[.int .u64 (wd (fe Mr (Wd ^ 4) X0) 0), .int .u64 (wd (fe Mr (Wd ^ 4) X0) 1), .int .u64 (wd (fe Mr (Wd ^ 4) X0) 2), .int .u64 (wd (fe Mr (Wd ^ 4) X0) 3)] 28) := ⟨_, rfl⟩
  rw [← hgz] at Kz_13
  simp only [← hw13] at B13 Kx_13 Ky_13 Kz_13 Js_13 Jt_13
  rw [← hw13, ← hgz]
  clear hw13 hgz B12 Kx_12 Ky_12 Js_12 Jt_12
  obtain ⟨cx0, cx1, cx2, cx3⟩ := cells4 Kx_13.out
  have zx := Kx_13.out.lt
  obtain ⟨cy0, cy1, cy2, cy3⟩ := cells4 Ky_13.out
  have zy := Ky_13.out.lt
  obtain ⟨cz0, cz1, cz2, cz3⟩ := cells4 Kz_13.out
  have zz := Kz_13.out.lt
  clear hsl hz52
  have q3 := Q3.out
  have hu52 := und52
  have hjs : (Tryd.prog.info? 52).map (·.size) = some D0.length := by have := DI0.out; rwa [List.size_toArray] at this
  have hjt : (Tryd.prog.info? 52).map (·.size) = some D1.length := by have := DI1.out; rwa [List.size_toArray] at this
  have GV1 := Lib.hid (HG.out.keep B13.out)
  have h1_0 := based_neg w13 GV1.out (X0)
  rw [← HN.out] at h1_0
  unfold fv arr4 at h1_0
  have A1_0 := Lib.hid h1_0
  clear h1_0
  have h1_1 := based_neg w13 GV1.out (N)
  rw [← HNN.out] at h1_1
  unfold fv arr4 at h1_1
  have A1_1 := Lib.hid h1_1
  clear h1_1
  have h1_2 := based_sub w13 GV1.out (X0) (X1)
  rw [← HU.out] at h1_2
  unfold fv arr4 at h1_2
  have A1_2 := Lib.hid h1_2
  clear h1_2
  have h1_3 := based_sub w13 GV1.out (X1) (X0)
  rw [← HV.out] at h1_3
  unfold fv arr4 at h1_3
  have A1_3 := Lib.hid h1_3
  clear h1_3
  have h1_4 := based_neg w13 GV1.out (V)
  rw [← HNV.out] at h1_4
  unfold fv arr4 at h1_4
  have A1_4 := Lib.hid h1_4
  clear h1_4
  clear cx0 cx1 cx2 cx3 zx cy0 cy1 cy2 cy3 zy cz0 cz1 cz2 cz3 zz
  have D13 := hid_drew w13
  have SS13 : Hid (∀ W, Hid (Below w13.heap.size w13 W) → W.cell? ⟨gx, 0, none⟩ = some (.int .u64 (wd (fe Mr (Wd ^ 4) X0) 0)) ∧ W.cell? ⟨gx, 1, none⟩ = some (.int .u64 (wd (fe Mr (Wd ^ 4) X0) 1)) ∧ W.cell? ⟨gx, 2, none⟩ = some (.int .u64 (wd (fe Mr (Wd ^ 4) X0) 2)) ∧ W.cell? ⟨gx, 3, none⟩ = some (.int .u64 (wd (fe Mr (Wd ^ 4) X0) 3)) ∧ W.cell? ⟨gy, 0, none⟩ = some (.int .u64 (wd (fe Mr (Wd ^ 4) X1) 0)) ∧ W.cell? ⟨gy, 1, none⟩ = some (.int .u64 (wd (fe Mr (Wd ^ 4) X1) 1)) ∧ W.cell? ⟨gy, 2, none⟩ = some (.int .u64 (wd (fe Mr (Wd ^ 4) X1) 2)) ∧ W.cell? ⟨gy, 3, none⟩ = some (.int .u64 (wd (fe Mr (Wd ^ 4) X1) 3)) ∧ W.cell? ⟨gz, 0, none⟩ = some (.int .u64 (wd (fe Mr (Wd ^ 4) X0) 0)) ∧ W.cell? ⟨gz, 1, none⟩ = some (.int .u64 (wd (fe Mr (Wd ^ 4) X0) 1)) ∧ W.cell? ⟨gz, 2, none⟩ = some (.int .u64 (wd (fe Mr (Wd ^ 4) X0) 2)) ∧ W.cell? ⟨gz, 3, none⟩ = some (.int .u64 (wd (fe Mr (Wd ^ 4) X0) 3)) ∧ W.rangeAt gs 0 D0 ∧ W.rangeAt gt 0 D1 ∧ Hid (Below w13.heap.size w13 W)) := Lib.hid (fun W hW => by
    obtain ⟨qx0, qx1, qx2, qx3⟩ := cells4 (Kx_13.out.keep hW.out)
    obtain ⟨qy0, qy1, qy2, qy3⟩ := cells4 (Ky_13.out.keep hW.out)
    obtain ⟨qz0, qz1, qz2, qz3⟩ := cells4 (Kz_13.out.keep hW.out)
    have rs : W.rangeAt gs 0 D0 := fun j v hv => (Js_13.out.keep hW.out).range j v (by simpa using hv)
    have rt : W.rangeAt gt 0 D1 := fun j v hv => (Jt_13.out.keep hW.out).range j v (by simpa using hv)
    exact ⟨qx0, qx1, qx2, qx3, qy0, qy1, qy2, qy3, qz0, qz1, qz2, qz3, rs, rt, hW⟩)
  refine wp_region_held_drew (S := fun W => W.cell? ⟨gx, 0, none⟩ = some (.int .u64 (wd (fe Mr (Wd ^ 4) X0) 0)) ∧ W.cell? ⟨gx, 1, none⟩ = some (.int .u64 (wd (fe Mr (Wd ^ 4) X0) 1)) ∧ W.cell? ⟨gx, 2, none⟩ = some (.int .u64 (wd (fe Mr (Wd ^ 4) X0) 2)) ∧ W.cell? ⟨gx, 3, none⟩ = some (.int .u64 (wd (fe Mr (Wd ^ 4) X0) 3)) ∧ W.cell? ⟨gy, 0, none⟩ = some (.int .u64 (wd (fe Mr (Wd ^ 4) X1) 0)) ∧ W.cell? ⟨gy, 1, none⟩ = some (.int .u64 (wd (fe Mr (Wd ^ 4) X1) 1)) ∧ W.cell? ⟨gy, 2, none⟩ = some (.int .u64 (wd (fe Mr (Wd ^ 4) X1) 2)) ∧ W.cell? ⟨gy, 3, none⟩ = some (.int .u64 (wd (fe Mr (Wd ^ 4) X1) 3)) ∧ W.cell? ⟨gz, 0, none⟩ = some (.int .u64 (wd (fe Mr (Wd ^ 4) X0) 0)) ∧ W.cell? ⟨gz, 1, none⟩ = some (.int .u64 (wd (fe Mr (Wd ^ 4) X0) 1)) ∧ W.cell? ⟨gz, 2, none⟩ = some (.int .u64 (wd (fe Mr (Wd ^ 4) X0) 2)) ∧ W.cell? ⟨gz, 3, none⟩ = some (.int .u64 (wd (fe Mr (Wd ^ 4) X0) 3)) ∧ W.rangeAt gs 0 D0 ∧ W.rangeAt gt 0 D1 ∧ Hid (Below w13.heap.size w13 W)) (by kernel_rfl) (SS13.out _ D13) (fun hHeld => ?_)
  refine wpAnyH_put (i := 0) 36 (.int .i64 0) rfl (by kernel_rfl) (by kernel_rfl) (by kernel_rfl) (fun _ _ _ h => h) rfl (Or.inl ⟨by rfl, fun w hSw => ?_⟩) hHeld ?_
  · (try dsimp only at hSw); go_simp
  try go_frame
  refine wpAnyH_put (i := 1) 37 (.bool true) rfl (by kernel_rfl) (by kernel_rfl) (by kernel_rfl) (fun _ _ _ h => h) rfl (Or.inl ⟨by rfl, fun w hSw => ?_⟩) hHeld ?_
  · (try dsimp only at hSw); go_simp
  try go_frame
  refine wpAnyH_put (i := 2) 38 (.bool true) rfl (by kernel_rfl) (by kernel_rfl) (by kernel_rfl) (fun _ _ _ h => h) rfl (Or.inl ⟨by rfl, fun w hSw => ?_⟩) hHeld ?_
  · (try dsimp only at hSw); go_simp
  try go_frame
  refine wpAnyH_put (i := 3) 39 (.agg #[.int .u64 (wd (fe Mr (Wd ^ 4) X0) 0), .int .u64 (wd (fe Mr (Wd ^ 4) X0) 1), .int .u64 (wd (fe Mr (Wd ^ 4) X0) 2), .int .u64 (wd (fe Mr (Wd ^ 4) X0) 3)]) rfl (by kernel_rfl) (by kernel_rfl) (by kernel_rfl) (fun _ _ _ h => h) rfl (Or.inl ⟨by rfl, fun w hSw => ?_⟩) hHeld ?_
  · (try dsimp only at hSw); go_simp
  try go_frame
  refine wpAnyH_put (i := 4) 40 (.agg #[.int .u64 (wd (fe Mr (Wd ^ 4) X0) 0), .int .u64 (wd (fe Mr (Wd ^ 4) X0) 1), .int .u64 (wd (fe Mr (Wd ^ 4) X0) 2), .int .u64 (wd (fe Mr (Wd ^ 4) X0) 3)]) rfl (by kernel_rfl) (by kernel_rfl) (by kernel_rfl) (fun _ _ _ h => h) rfl (Or.inl ⟨by rfl, fun w hSw => ?_⟩) hHeld ?_
  · (try dsimp only at hSw); go_simp
  try go_frame
  refine wpAnyH_put (i := 5) 41 (.bool true) rfl (by kernel_rfl) (by kernel_rfl) (by kernel_rfl) (fun _ _ _ h => h) rfl (Or.inl ⟨by rfl, fun w hSw => ?_⟩) hHeld ?_
  · (try dsimp only at hSw); go_simp
  try go_frame
  refine wpAnyH_put (i := 6) 42 (.bool true) rfl (by kernel_rfl) (by kernel_rfl) (by kernel_rfl) (fun _ _ _ h => h) rfl (Or.inl ⟨by rfl, fun w hSw => ?_⟩) hHeld ?_
  · (try dsimp only at hSw); go_simp
  try go_frame
  refine wpAnyH_put (i := 7) 43 (.bool true) rfl (by kernel_rfl) (by kernel_rfl) (by kernel_rfl) (fun _ _ _ h => h) rfl (Or.inl ⟨by rfl, fun w hSw => ?_⟩) hHeld ?_
  · (try dsimp only at hSw); go_simp
  try go_frame
  refine wpAnyH_put (i := 8) 44 (.agg D0.toArray) rfl (by kernel_rfl) (by kernel_rfl) (by kernel_rfl) (fun _ _ _ h => h) rfl (yieldsIf_load_mid (by rfl) _ _ rfl gs 0 rfl D0 _ (fun w hSw => by (try dsimp only at hSw); go_split_ands; assumption) hu52 rfl hjs) hHeld ?_
  try go_frame
  refine wpAnyH_put (i := 9) 45 (.agg D1.toArray) rfl (by kernel_rfl) (by kernel_rfl) (by kernel_rfl) (fun _ _ _ h => h) rfl (yieldsIf_load_mid (by rfl) _ _ rfl gt 0 rfl D1 _ (fun w hSw => by (try dsimp only at hSw); go_split_ands; assumption) hu52 rfl hjt) hHeld ?_
  try go_frame
  refine wpAnyH_put (i := 10) 46 (.bool false) rfl (by kernel_rfl) (by kernel_rfl) (by kernel_rfl) (fun _ _ _ h => h) rfl (Or.inl ⟨by rfl, fun w hSw => ?_⟩) hHeld ?_
  · (try dsimp only at hSw); go_simp
  try go_frame
  refine wpAnyH_put (i := 11) 47 (.agg #[.int .u64 (wd (fe Mr (Wd ^ 4) X0) 0), .int .u64 (wd (fe Mr (Wd ^ 4) X0) 1), .int .u64 (wd (fe Mr (Wd ^ 4) X0) 2), .int .u64 (wd (fe Mr (Wd ^ 4) X0) 3)]) rfl (by kernel_rfl) (by kernel_rfl) (by kernel_rfl) (fun _ _ _ h => h) rfl (Or.inl ⟨by rfl, fun w hSw => ?_⟩) hHeld ?_
  · (try dsimp only at hSw); go_simp
  try go_frame
  refine wpAnyH_put (i := 12) 48 (.agg #[.int .u64 (wd (fe Mr (Wd ^ 4) X1) 0), .int .u64 (wd (fe Mr (Wd ^ 4) X1) 1), .int .u64 (wd (fe Mr (Wd ^ 4) X1) 2), .int .u64 (wd (fe Mr (Wd ^ 4) X1) 3)]) rfl (by kernel_rfl) (by kernel_rfl) (by kernel_rfl) (fun _ _ _ h => h) rfl (Or.inl ⟨by rfl, fun w hSw => ?_⟩) hHeld ?_
  · (try dsimp only at hSw); go_simp
  try go_frame
  refine wpAnyH_put (i := 13) 49 (.bool false) rfl (by kernel_rfl) (by kernel_rfl) (by kernel_rfl) (fun _ _ _ h => h) rfl (Or.inl ⟨by rfl, fun w hSw => ?_⟩) hHeld ?_
  · (try dsimp only at hSw); go_simp
  try go_frame
  refine wpAnyH_put (i := 14) 50 (.bool true) rfl (by kernel_rfl) (by kernel_rfl) (by kernel_rfl) (fun _ _ _ h => h) rfl (Or.inl ⟨by rfl, fun w hSw => ?_⟩) hHeld ?_
  · (try dsimp only at hSw); go_simp
  try go_frame
  refine wpAnyH_put (i := 15) 51 (.bool true) rfl (by kernel_rfl) (by kernel_rfl) (by kernel_rfl) (fun _ _ _ h => h) rfl (Or.inl ⟨by rfl, fun w hSw => ?_⟩) hHeld ?_
  · (try dsimp only at hSw); go_simp
  try go_frame
  refine wpAnyH_put (i := 16) 52 (.bool true) rfl (by kernel_rfl) (by kernel_rfl) (by kernel_rfl) (fun _ _ _ h => h) rfl (Or.inl ⟨by rfl, fun w hSw => ?_⟩) hHeld ?_
  · (try dsimp only at hSw); go_simp
  try go_frame
  refine wpAnyH_put (i := 17) 53 (.agg #[.int .u64 (wd (fe Mr (Wd ^ 4) X0) 0), .int .u64 (wd (fe Mr (Wd ^ 4) X0) 1), .int .u64 (wd (fe Mr (Wd ^ 4) X0) 2), .int .u64 (wd (fe Mr (Wd ^ 4) X0) 3)]) rfl (by kernel_rfl) (by kernel_rfl) (by kernel_rfl) (fun _ _ _ h => h) rfl (Or.inl ⟨by rfl, fun w hSw => ?_⟩) hHeld ?_
  · (try dsimp only at hSw); go_simp
  try go_frame
  refine wpAnyH_put (i := 20) 56 (.agg #[.int .u64 (wd (fe Mr (Wd ^ 4) X0) 0), .int .u64 (wd (fe Mr (Wd ^ 4) X0) 1), .int .u64 (wd (fe Mr (Wd ^ 4) X0) 2), .int .u64 (wd (fe Mr (Wd ^ 4) X0) 3)]) rfl (by kernel_rfl) (by kernel_rfl) (by kernel_rfl) (fun _ _ _ h => h) rfl (Or.inl ⟨by rfl, fun w hSw => ?_⟩) hHeld ?_
  · (try dsimp only at hSw); go_simp
  try go_frame
  refine wpAnyH_ready (rs := [18]) (by kernel_rfl) (by simp) ?_
  refine AllReadyH.cons rfl (fun K hK => ?_) AllReadyH.nil
  go_simp
  refine (A1_0.out _ (by first | exact D13 | with_reducible assumption)).mono ?_
  rintro e w14 ⟨rfl, HB14⟩
  go_simp
  refine hK.out _ _ (SS13.out _ HB14) (fun hHeld => ?_)
  clear hK K
  try go_frame
  refine wpAnyH_ready (rs := [19]) (by kernel_rfl) (by simp) ?_
  refine AllReadyH.cons rfl (fun K hK => ?_) AllReadyH.nil
  go_simp
  refine (A1_1.out _ (by first | exact D13 | with_reducible assumption)).mono ?_
  rintro e w14 ⟨rfl, HB14⟩
  go_simp
  refine hK.out _ _ (SS13.out _ HB14) (fun hHeld => ?_)
  clear hK K
  try go_frame
  refine wpAnyH_put (i := 21) 57 (.bool true) rfl (by kernel_rfl) (by kernel_rfl) (by kernel_rfl) (fun _ _ _ h => h) rfl (Or.inl ⟨by rfl, fun w hSw => ?_⟩) hHeld ?_
  · (try dsimp only at hSw); go_simp
  try go_frame
  refine wpAnyH_put (i := 22) 58 (.bool true) rfl (by kernel_rfl) (by kernel_rfl) (by kernel_rfl) (fun _ _ _ h => h) rfl (Or.inl ⟨by rfl, fun w hSw => ?_⟩) hHeld ?_
  · (try dsimp only at hSw); go_simp
  try go_frame
  refine wpAnyH_put (i := 23) 59 (.bool true) rfl (by kernel_rfl) (by kernel_rfl) (by kernel_rfl) (fun _ _ _ h => h) rfl (Or.inl ⟨by rfl, fun w hSw => ?_⟩) hHeld ?_
  · (try dsimp only at hSw); go_simp
  try go_frame
  refine wpAnyH_put (i := 24) 60 (.agg #[.int .u64 (wd (fe Mr (Wd ^ 4) X0) 0), .int .u64 (wd (fe Mr (Wd ^ 4) X0) 1), .int .u64 (wd (fe Mr (Wd ^ 4) X0) 2), .int .u64 (wd (fe Mr (Wd ^ 4) X0) 3)]) rfl (by kernel_rfl) (by kernel_rfl) (by kernel_rfl) (fun _ _ _ h => h) rfl (Or.inl ⟨by rfl, fun w hSw => ?_⟩) hHeld ?_
  · (try dsimp only at hSw); go_simp
  try go_frame
  refine wpAnyH_put (i := 25) 61 (.agg #[.int .u64 (wd (fe Mr (Wd ^ 4) X1) 0), .int .u64 (wd (fe Mr (Wd ^ 4) X1) 1), .int .u64 (wd (fe Mr (Wd ^ 4) X1) 2), .int .u64 (wd (fe Mr (Wd ^ 4) X1) 3)]) rfl (by kernel_rfl) (by kernel_rfl) (by kernel_rfl) (fun _ _ _ h => h) rfl (Or.inl ⟨by rfl, fun w hSw => ?_⟩) hHeld ?_
  · (try dsimp only at hSw); go_simp
  try go_frame
  refine wpAnyH_put (i := 27) 63 (.agg #[.int .u64 (wd (fe Mr (Wd ^ 4) X1) 0), .int .u64 (wd (fe Mr (Wd ^ 4) X1) 1), .int .u64 (wd (fe Mr (Wd ^ 4) X1) 2), .int .u64 (wd (fe Mr (Wd ^ 4) X1) 3)]) rfl (by kernel_rfl) (by kernel_rfl) (by kernel_rfl) (fun _ _ _ h => h) rfl (Or.inl ⟨by rfl, fun w hSw => ?_⟩) hHeld ?_
  · (try dsimp only at hSw); go_simp
  try go_frame
  refine wpAnyH_put (i := 28) 64 (.agg #[.int .u64 (wd (fe Mr (Wd ^ 4) X0) 0), .int .u64 (wd (fe Mr (Wd ^ 4) X0) 1), .int .u64 (wd (fe Mr (Wd ^ 4) X0) 2), .int .u64 (wd (fe Mr (Wd ^ 4) X0) 3)]) rfl (by kernel_rfl) (by kernel_rfl) (by kernel_rfl) (fun _ _ _ h => h) rfl (Or.inl ⟨by rfl, fun w hSw => ?_⟩) hHeld ?_
  · (try dsimp only at hSw); go_simp
  try go_frame
  refine wpAnyH_ready (rs := [26]) (by kernel_rfl) (by simp) ?_
  refine AllReadyH.cons rfl (fun K hK => ?_) AllReadyH.nil
  go_simp
  refine (A1_2.out _ (by first | exact D13 | with_reducible assumption)).mono ?_
  rintro e w14 ⟨rfl, HB14⟩
  go_simp
  refine hK.out _ _ (SS13.out _ HB14) (fun hHeld => ?_)
  clear hK K
  try go_frame
  refine wpAnyH_ready (rs := [29]) (by kernel_rfl) (by simp) ?_
  refine AllReadyH.cons rfl (fun K hK => ?_) AllReadyH.nil
  go_simp
  refine (A1_3.out _ (by first | exact D13 | with_reducible assumption)).mono ?_
  rintro e w14 ⟨rfl, HB14⟩
  go_simp
  refine hK.out _ _ (SS13.out _ HB14) (fun hHeld => ?_)
  clear hK K
  try go_frame
  refine wpAnyH_ready (rs := [30]) (by kernel_rfl) (by simp) ?_
  refine AllReadyH.cons rfl (fun K hK => ?_) AllReadyH.nil
  go_simp
  refine (A1_4.out _ (by first | exact D13 | with_reducible assumption)).mono ?_
  rintro e w14 ⟨rfl, HB14⟩
  go_simp
  refine hK.out _ _ (SS13.out _ HB14) (fun hHeld => ?_)
  clear hK K
  try go_frame
  refine wpAnyH_put (i := 31) 67 (.bool true) rfl (by kernel_rfl) (by kernel_rfl) (by kernel_rfl) (fun _ _ _ h => h) rfl (Or.inl ⟨by rfl, fun w hSw => ?_⟩) hHeld ?_
  · (try dsimp only at hSw); go_simp
  try go_frame
  refine wpAnyH_put (i := 32) 68 (.bool true) rfl (by kernel_rfl) (by kernel_rfl) (by kernel_rfl) (fun _ _ _ h => h) rfl (Or.inl ⟨by rfl, fun w hSw => ?_⟩) hHeld ?_
  · (try dsimp only at hSw); go_simp
  try go_frame
  refine wpAnyH_put (i := 33) 4 (.bool true) rfl (by kernel_rfl) (by kernel_rfl) (by kernel_rfl) (fun _ _ _ h => h) rfl (Or.inl ⟨by rfl, fun w hSw => ?_⟩) hHeld ?_
  · (try dsimp only at hSw); go_simp
  try go_frame
  refine wpAnyH_done (by kernel_rfl) ?_ _
  try go_frame
  have B14 := Lib.hid (B13.out.trans (HB14.out.mono B13.out.size))
  have Kx_14 := Lib.hid (Kx_13.out.keep HB14.out)
  have Ky_14 := Lib.hid (Ky_13.out.keep HB14.out)
  have Kz_14 := Lib.hid (Kz_13.out.keep HB14.out)
  clear B13 SS13 D13 HB14 hHeld Kx_13 Ky_13 Kz_13 A1_0 A1_1 A1_2 A1_3 A1_4
  obtain ⟨cx0, cx1, cx2, cx3⟩ := cells4 Kx_14.out
  have zx := Kx_14.out.lt
  obtain ⟨cy0, cy1, cy2, cy3⟩ := cells4 Ky_14.out
  have zy := Ky_14.out.lt
  obtain ⟨cz0, cz1, cz2, cz3⟩ := cells4 Kz_14.out
  have zz := Kz_14.out.lt
  go_wp2_with fail
  go_ret
  exact ⟨rfl, B14.out⟩
set_option maxRecDepth 100000 in
set_option maxHeartbeats 8000000 in
theorem forms_big0 (w : World) (hG : GMr w) (hS : GSq w) (hH : GSh w) (A0 : Option Addr) (L0 c0 : Nat) (bs0 : List Int) (A1 : Option Addr) (L1 c1 : Nat) (bs1 : List Int) (hr0 : Reads w w.heap.size A0 L0 (bs0.map (Value.int .u8))) (ho0 : Oct bs0) (hr1 : Reads w w.heap.size A1 L1 (bs1.map (Value.int .u8))) (ho1 : Oct bs1) (h0 : 400 < L0) :
    Calls Tryd.prog 9 #[.slice A0 L0 c0, .slice A1 L1 c1] w fun e w' => e = .returned (.bool true) ∧ Below w.heap.size w w' := by
  have HG := Lib.hid hG
  have HS := Lib.hid hS
  have HH := Lib.hid hH
  have HR0 := Lib.hid hr0
  have HO0 := Lib.hid ho0
  have HL0 := Lib.hid (show bs0.length = L0 by simpa using hr0.1)
  obtain ⟨X0, hX0⟩ : ∃ X, X = num bs0 := ⟨_, rfl⟩
  have HR1 := Lib.hid hr1
  have HO1 := Lib.hid ho1
  have HL1 := Lib.hid (show bs1.length = L1 by simpa using hr1.1)
  obtain ⟨X1, hX1⟩ : ∃ X, X = num bs1 := ⟨_, rfl⟩
  clear HR0 HR1 HO0 HO1 HL0 HL1 hX0 hX1 hr0 hr1 ho0 ho1 HH hH
  clear hG hS
  have B0 : Hid (Below w.heap.size w w) := Lib.hid (Below.refl _ _)
  go_enter Tryd.func9, Tryd.ntmps9
  go_wp2_with fail
  refine (fr_head _ (HG.out.keep B0.out) (HS.out.keep B0.out)).mono ?_
  rintro e w1 ⟨rfl, hb⟩
  have B1 := Lib.hid (B0.out.trans (hb.mono B0.out.size))
  clear hb B0 
  go_wp2_with fail
  go_ret
  exact ⟨rfl, B1.out⟩
set_option maxRecDepth 100000 in
set_option maxHeartbeats 8000000 in
theorem forms_big1 (w : World) (hG : GMr w) (hS : GSq w) (hH : GSh w) (A0 : Option Addr) (L0 c0 : Nat) (bs0 : List Int) (A1 : Option Addr) (L1 c1 : Nat) (bs1 : List Int) (hr0 : Reads w w.heap.size A0 L0 (bs0.map (Value.int .u8))) (ho0 : Oct bs0) (hr1 : Reads w w.heap.size A1 L1 (bs1.map (Value.int .u8))) (ho1 : Oct bs1) (h0 : L0 ≤ 400) (h1 : 400 < L1) :
    Calls Tryd.prog 9 #[.slice A0 L0 c0, .slice A1 L1 c1] w fun e w' => e = .returned (.bool true) ∧ Below w.heap.size w w' := by
  have HG := Lib.hid hG
  have HS := Lib.hid hS
  have HH := Lib.hid hH
  have HR0 := Lib.hid hr0
  have HO0 := Lib.hid ho0
  have HL0 := Lib.hid (show bs0.length = L0 by simpa using hr0.1)
  obtain ⟨X0, hX0⟩ : ∃ X, X = num bs0 := ⟨_, rfl⟩
  have HR1 := Lib.hid hr1
  have HO1 := Lib.hid ho1
  have HL1 := Lib.hid (show bs1.length = L1 by simpa using hr1.1)
  obtain ⟨X1, hX1⟩ : ∃ X, X = num bs1 := ⟨_, rfl⟩
  clear HR0 HR1 HO0 HO1 HL0 HL1 hX0 hX1 hr0 hr1 ho0 ho1 HH hH
  clear hG hS
  have B0 : Hid (Below w.heap.size w w) := Lib.hid (Below.refl _ _)
  go_enter Tryd.func9, Tryd.ntmps9
  go_wp2_with fail
  refine (fr_head _ (HG.out.keep B0.out) (HS.out.keep B0.out)).mono ?_
  rintro e w1 ⟨rfl, hb⟩
  have B1 := Lib.hid (B0.out.trans (hb.mono B0.out.size))
  clear hb B0 
  go_wp2_with fail
  go_ret
  exact ⟨rfl, B1.out⟩
theorem forms_any (w : World) (hG : GMr w) (hS : GSq w) (hH : GSh w) (A0 : Option Addr) (L0 c0 : Nat) (bs0 : List Int) (A1 : Option Addr) (L1 c1 : Nat) (bs1 : List Int) (hr0 : Reads w w.heap.size A0 L0 (bs0.map (Value.int .u8))) (ho0 : Oct bs0) (hr1 : Reads w w.heap.size A1 L1 (bs1.map (Value.int .u8))) (ho1 : Oct bs1) :
    Calls Tryd.prog 9 #[.slice A0 L0 c0, .slice A1 L1 c1] w fun e w' => e = .returned (.bool true) ∧ Below w.heap.size w w' := by
  rcases Nat.lt_or_ge 400 L0 with h0 | h0
  · exact forms_big0 w hG hS hH A0 L0 c0 bs0 A1 L1 c1 bs1 hr0 ho0 hr1 ho1 h0
  rcases Nat.lt_or_ge 400 L1 with h1 | h1
  · exact forms_big1 w hG hS hH A0 L0 c0 bs0 A1 L1 c1 bs1 hr0 ho0 hr1 ho1 h0 h1
  by_cases hq : num bs0 % Mr = num bs1 % Mr
  · exact forms_eq w hG hS hH A0 L0 c0 bs0 A1 L1 c1 bs1 hr0 ho0 hr1 ho1 h0 h1 hq
  · exact forms_ne w hG hS hH A0 L0 c0 bs0 A1 L1 c1 bs1 hr0 ho0 hr1 ho1 h0 h1 hq
end Go.Proofs.YtcokhnfoadpmoaaDoor
