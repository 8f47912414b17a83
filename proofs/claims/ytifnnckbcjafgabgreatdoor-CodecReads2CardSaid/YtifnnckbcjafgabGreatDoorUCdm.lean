import Derived.Test.YtifnnckbcjafgabGreatDoorUCdh
import Derived.Test.YtifnnckbcjafgabGreatDoorUSk
namespace Go.Proofs.YtifnnckbcjafgabGreatDoor
set_option linter.unusedSimpArgs false
set_option linter.unusedVariables false
open Go.RowKit
theorem blkB_iff {bs : List Int} : blkB bs = true ↔ gt bs 0 % 32 = 0 ∧ ∀ i, 0 < i → i < bs.length → gt bs i = 0 := by
 unfold blkB
 rw [Bool.and_eq_true, beq_iff_eq, List.all_eq_true]
 refine and_congr Iff.rfl ⟨fun h i h0 hi => ?_, fun h x hx => ?_⟩
 ·have hm : gt bs i ∈ bs.drop 1 := by
   rw [List.mem_iff_getElem?]
   refine ⟨i - 1, ?_⟩
   rw [List.getElem?_drop, show 1 + (i - 1) = i by omega]
   simp [gt, List.getD_eq_getElem?_getD, List.getElem?_eq_getElem hi]
  simpa using h _ hm
 ·obtain ⟨j, hj⟩ := List.mem_iff_getElem?.1 hx
  rw [List.getElem?_drop] at hj
  have hl := (List.getElem?_eq_some_iff.1 hj).1
  have := h (1 + j) (by omega) hl
  simp [gt, List.getD_eq_getElem?_getD, hj] at this
  simpa using this
theorem frm_t {bs : List Int} : frm bs true = true ↔ 32 * (gt bs 0 / 32) = 128 ∨ 32 * (gt bs 0 / 32) = 160 ∨ (32 * (gt bs 0 / 32) = 192 ∧ blkB bs = true) := by
 unfold frm
 repeat' split
 all_goals simp_all
theorem frm_f {bs : List Int} : frm bs false = true ↔ 32 * (gt bs 0 / 32) = 0 ∨ (32 * (gt bs 0 / 32) = 64 ∧ blkB bs = true) := by
 unfold frm
 repeat' split
 all_goals simp_all
section
variable {P : Program} {fn : Func} {E : Ending → World → Prop} {n : Nat} {sl : List (Nat × Value)} {w : World}
theorem ret_tmp_tmp {s s' : Nat} {u u' : Value} (hres : fn.results = #[.tmp s, .tmp s']) (hl : inFr n sl = true) (hs : look sl s = u) (hs' : look sl s' = u') (hE : E (.returned (.tuple #[u, u'])) w) : bodyPost P fn E .ret (fr n sl) w := by
 refine bodyPost_ret (v := .tuple #[u, u']) ?_ (fr_defers n sl) hE
 simp [results, hres, fr_at n sl hl, hs, hs']
end
theorem marks_ways (bs : List Int) (k L : Nat) : (k < L ∧ k = 0 ∧ gt bs 0 % 32 ≠ 0) ∨ (k < L ∧ k = 0 ∧ gt bs 0 % 32 = 0) ∨ (k < L ∧ 0 < k ∧ gt bs k ≠ 0) ∨ (k < L ∧ 0 < k ∧ gt bs k = 0) ∨ ¬ k < L := by omega
attribute [local irreducible] wpL wpF fr Code.wp bodyPost
set_option maxRecDepth 100000 in
set_option maxHeartbeats 4000000 in
theorem cd_marks_96_len (A0 : Option Addr) (L0 C0 : Nat) (v : World) (h1 : L0 ≠ 96) (h2 : L0 ≠ 192) : Rets 18 #[.slice A0 L0 C0, .int .i64 96] v (.tuple #[.int .i64 10, .bool false]) := by
 refine calls_fr2 Tryz.func18 rfl (by rfl : _ = 82) (by rfl) ?_
 have hw := Hbl.nil v
 refine seq_plain hw [0, 1] (by rfl) ?_
 refine lv (.int .i64 0) (h := ?_)
 refine lv (.bool false) (h := ?_)
 refine L_end ?_
 intro w1 hw1
 refine wp_seq ?_
 refine seq_plain hw1 [0, 1, 2, 3, 4, 5, 6, 7, 8, 9, 10] (by rfl) ?_
 refine lv (.slice A0 L0 C0) (h := ?_)
 refine L_val (.int .i64 (L0 : Int)) (by rfl) (by rfl) (gives_len _ L0 C0 und_u8s (by rfl)) ?_
 refine lv (.int .i64 96) (h := ?_)
 refine L_val (.bool true) (by rfl) (by rfl) (gives_ine (k := .i64) ((L0 : Int)) (96) true (by rfl) (by rfl) (decide_eq_true (by omega))) ?_
 refine lv (.bool true) (h := ?_)
 refine L_val_g (dj := 14) (.slice A0 L0 C0) (by rfl) (by rfl) (by rfl) (by rfl) (by rfl) gv ?_
 refine L_val_g (dj := 14) (.int .i64 (L0 : Int)) (by rfl) (by rfl) (by rfl) (by rfl) (by rfl) (gives_len _ L0 C0 und_u8s (by rfl)) ?_
 refine L_val_g (dj := 14) (.int .i64 96) (by rfl) (by rfl) (by rfl) (by rfl) (by rfl) gv ?_
 refine L_val_g (dj := 14) (.int .i64 192) (by rfl) (by rfl) (by rfl) (by rfl) (by rfl) (gives_mul (k := .i64) 2 96 192 (by rfl) (by rfl) (by rfl)) ?_
 refine L_val_g (dj := 14) (.bool true) (by rfl) (by rfl) (by rfl) (by rfl) (by rfl) (gives_ine (k := .i64) ((L0 : Int)) (192) true (by rfl) (by rfl) (decide_eq_true (by omega))) ?_
 refine lv (.bool true) (h := ?_)
 refine L_end ?_
 intro w2 hw2
 refine wp_cond_true (fr_at _ _ (by rfl) _) ?_
 refine seq_plain hw2 [0, 1] (by rfl) ?_
 refine lv (.int .i64 10) (h := ?_)
 refine lv (.bool false) (h := ?_)
 refine L_end ?_
 intro w3 hw3
 refine wp_ret ?_
 change bodyPost _ _ _ Exit.ret _ _
 refine (ret_tmp_tmp (by rfl) (by rfl) (by rfl) (by rfl) ⟨rfl, hw3.below⟩)
set_option maxRecDepth 100000 in
set_option maxHeartbeats 4000000 in
theorem cd_marks_96_s (b0 o0 L0 C0 : Nat) (bs0 : List Int) (v : World) (hl0 : bs0.length = L0) (ho0 : Oct bs0) (hq0 : b0 < v.heap.size) (hc0 : ∀ j, j < L0 → v.cell? ⟨b0, o0 + j, none⟩ = some (.int .u8 (gt bs0 j))) (hL : L0 = 96) (hLC : L0 ≤ C0) : Calls Tryz.prog 18 #[.slice (some ⟨b0, o0, none⟩) L0 C0, .int .i64 96] v fun e w' => ∃ (u : Unit) (x : Bool), e = .returned (.tuple #[.int .i64 (if frm bs0 true = true then 0 else 11), .bool x]) ∧ (frm bs0 true = true → x = decide (¬ 64 * (gt bs0 0 / 64 % 2) = 0)) ∧ Below v.heap.size v w' := by
 refine calls_fr2 Tryz.func18 rfl (by rfl : _ = 82) (by rfl) ?_
 have hw := Hbl.nil v
 refine seq_plain hw [0, 1] (by rfl) ?_
 refine lv (.int .i64 0) (h := ?_)
 refine lv (.bool false) (h := ?_)
 refine L_end ?_
 intro w1 hw1
 refine wp_seq ?_
 refine seq_plain hw1 [0, 1, 2, 3, 4, 5, 6, 7, 8, 9, 10] (by rfl) ?_
 refine lv (.slice (some ⟨b0, o0, none⟩) L0 C0) (h := ?_)
 refine L_val (.int .i64 (L0 : Int)) (by rfl) (by rfl) (gives_len _ L0 C0 und_u8s (by rfl)) ?_
 refine lv (.int .i64 96) (h := ?_)
 refine L_val (.bool false) (by rfl) (by rfl) (gives_ine (k := .i64) ((L0 : Int)) (96) false (by rfl) (by rfl) (decide_eq_false (by omega))) ?_
 refine lv (.bool false) (h := ?_)
 refine lS (dj := 14) (h := ?_)
 refine lS (dj := 14) (h := ?_)
 refine lS (dj := 14) (h := ?_)
 refine lS (dj := 14) (h := ?_)
 refine lS (dj := 14) (h := ?_)
 refine lv (.bool false) (h := ?_)
 refine L_end ?_
 intro w2 hw2
 refine wp_cond_false (fr_at _ _ (by rfl) _) ?_
 refine wp_skip ?_
 change Code.wp _ _ _ _ _
 refine seq_plain hw2 [0, 1, 2, 3, 4] (by rfl) ?_
 refine lv (.slice (some ⟨b0, o0, none⟩) L0 C0) (h := ?_)
 refine L_val (.pointer (some ⟨b0, o0 + 0, none⟩)) (by rfl) (by rfl) (gives_index b0 (o0) L0 C0 (0) 0 (by rfl) (by rfl) und_u8s u8_sz rfl (by omega)) ?_
 refine L_val (.int .u8 (gt bs0 0)) (by rfl) (by rfl) (gives_load_old _ (.int .u8 (gt bs0 0)) (by rfl) (fun _ h => (h.below.cell (p := ⟨b0, _, none⟩) hq0).trans (hc0 0 (by omega))) und_u8') ?_
 by_cases hf0 : 128 ≤ (gt bs0 0)
 ·
  refine L_val (.bool true) (by rfl) (by rfl) (gives_geq (k := .u8) (gt bs0 0) (128) true (by rfl) (by rfl) (decide_eq_true (by omega))) ?_
  refine lv (.bool true) (h := ?_)
  refine L_end ?_
  intro w3 hw3
  refine seq_plain hw3 [0, 1, 2, 3, 4, 5] (by rfl) ?_
  refine lv (.slice (some ⟨b0, o0, none⟩) L0 C0) (h := ?_)
  refine L_val (.pointer (some ⟨b0, o0 + 0, none⟩)) (by rfl) (by rfl) (gives_index b0 (o0) L0 C0 (0) 0 (by rfl) (by rfl) und_u8s u8_sz rfl (by omega)) ?_
  refine L_val (.int .u8 (gt bs0 0)) (by rfl) (by rfl) (gives_load_old _ (.int .u8 (gt bs0 0)) (by rfl) (fun _ h => (h.below.cell (p := ⟨b0, _, none⟩) hq0).trans (hc0 0 (by omega))) und_u8') ?_
  refine L_val (.int .u8 (64 * (gt bs0 0 / 64 % 2))) (by rfl) (by rfl) (gives_and (k := .u8) (gt bs0 0) 64 (64 * (gt bs0 0 / 64 % 2)) (by rfl) (by rfl) (and_64 _ (gt_oct ho0 _).1 (gt_oct ho0 _).2)) ?_
  by_cases hf1 : 64 * (gt bs0 0 / 64 % 2) = 0
  ·
   refine L_val (.bool false) (by rfl) (by rfl) (gives_ine (k := .u8) (64 * (gt bs0 0 / 64 % 2)) (0) false (by rfl) (by rfl) (decide_eq_false (by omega))) ?_
   refine lv (.bool false) (h := ?_)
   refine L_end ?_
   intro w4 hw4
   refine seq_plain hw4 [0, 1, 2, 3, 4, 5] (by rfl) ?_
   refine lv (.slice (some ⟨b0, o0, none⟩) L0 C0) (h := ?_)
   refine L_val (.pointer (some ⟨b0, o0 + 0, none⟩)) (by rfl) (by rfl) (gives_index b0 (o0) L0 C0 (0) 0 (by rfl) (by rfl) und_u8s u8_sz rfl (by omega)) ?_
   refine L_val (.int .u8 (gt bs0 0)) (by rfl) (by rfl) (gives_load_old _ (.int .u8 (gt bs0 0)) (by rfl) (fun _ h => (h.below.cell (p := ⟨b0, _, none⟩) hq0).trans (hc0 0 (by omega))) und_u8') ?_
   refine L_val (.int .u8 (32 * (gt bs0 0 / 32 % 2))) (by rfl) (by rfl) (gives_and (k := .u8) (gt bs0 0) 32 (32 * (gt bs0 0 / 32 % 2)) (by rfl) (by rfl) (and_32 _ (gt_oct ho0 _).1 (gt_oct ho0 _).2)) ?_
   by_cases hf2 : 32 * (gt bs0 0 / 32 % 2) = 0
   ·
    refine L_val (.bool false) (by rfl) (by rfl) (gives_ine (k := .u8) (32 * (gt bs0 0 / 32 % 2)) (0) false (by rfl) (by rfl) (decide_eq_false (by omega))) ?_
    refine lv (.bool false) (h := ?_)
    refine L_end ?_
    intro w5 hw5
    refine wp_seq ?_
    refine seq_plain hw5 [0, 1, 2, 3, 4, 5, 6, 7, 8, 9, 10, 11, 12, 13, 14, 15, 16, 17, 18] (by rfl) ?_
    refine lv (.bool true) (h := ?_)
    refine lv (.slice (some ⟨b0, o0, none⟩) L0 C0) (h := ?_)
    refine L_val (.int .i64 (L0 : Int)) (by rfl) (by rfl) (gives_len _ L0 C0 und_u8s (by rfl)) ?_
    refine lv (.int .i64 96) (h := ?_)
    refine L_val (.bool true) (by rfl) (by rfl) (gives_ieq (k := .i64) ((L0 : Int)) (96) true (by rfl) (by rfl) (decide_eq_true (by omega))) ?_
    refine lv (.bool false) (h := ?_)
    refine lv (.bool false) (h := ?_)
    refine L_val_g (dj := 41) (.bool false) (by rfl) (by rfl) (by rfl) (by rfl) (by rfl) gv ?_
    refine L_val_g (dj := 41) (.bool false) (by rfl) (by rfl) (by rfl) (by rfl) (by rfl) gv ?_
    refine lS (dj := 43) (h := ?_)
    refine lS (dj := 43) (h := ?_)
    refine L_val_g (dj := 41) (.bool false) (by rfl) (by rfl) (by rfl) (by rfl) (by rfl) gv ?_
    refine lv (.bool false) (h := ?_)
    refine lv (.bool false) (h := ?_)
    refine L_val_g (dj := 48) (.bool false) (by rfl) (by rfl) (by rfl) (by rfl) (by rfl) gv ?_
    refine L_val_g (dj := 48) (.bool false) (by rfl) (by rfl) (by rfl) (by rfl) (by rfl) gv ?_
    refine lS (dj := 50) (h := ?_)
    refine L_val_g (dj := 48) (.bool false) (by rfl) (by rfl) (by rfl) (by rfl) (by rfl) gv ?_
    refine lv (.bool false) (h := ?_)
    refine L_end ?_
    intro w6 hw6
    refine wp_cond_false (fr_at _ _ (by rfl) _) ?_
    refine wp_skip ?_
    change Code.wp _ _ _ _ _
    refine wp_seq ?_
    refine seq_plain hw6 [0] (by rfl) ?_
    refine lv (.bool false) (h := ?_)
    refine L_end ?_
    intro w7 hw7
    refine wp_cond_false (fr_at _ _ (by rfl) _) ?_
    refine wp_skip ?_
    change Code.wp _ _ _ _ _
    refine seq_plain hw7 [0, 1, 2] (by rfl) ?_
    refine lv (.bool false) (h := ?_)
    refine lv (.int .i64 0) (h := ?_)
    refine lv (.bool false) (h := ?_)
    refine L_end ?_
    intro w8 hw8
    refine wp_ret ?_
    change bodyPost _ _ _ Exit.ret _ _
    refine (ret_tmp_tmp (by rfl) (by rfl) (by rfl) (by rfl) ⟨(), false, (congrArg (fun z => Ending.returned (.tuple #[Value.int .i64 z, Value.bool false])) (if_pos (frm_t.2 (by have := (gt_oct ho0 0).1; have := (gt_oct ho0 0).2; omega)) : (if frm bs0 true = true then (0 : Int) else 11) = 0).symm), fun _ => (decide_eq_false (by omega)).symm, hw8.below⟩)
   ·
    refine L_val (.bool true) (by rfl) (by rfl) (gives_ine (k := .u8) (32 * (gt bs0 0 / 32 % 2)) (0) true (by rfl) (by rfl) (decide_eq_true (by omega))) ?_
    refine lv (.bool true) (h := ?_)
    refine L_end ?_
    intro w5 hw5
    refine wp_seq ?_
    refine seq_plain hw5 [0, 1, 2, 3, 4, 5, 6, 7, 8, 9, 10, 11, 12, 13, 14, 15, 16, 17, 18] (by rfl) ?_
    refine lv (.bool true) (h := ?_)
    refine lv (.slice (some ⟨b0, o0, none⟩) L0 C0) (h := ?_)
    refine L_val (.int .i64 (L0 : Int)) (by rfl) (by rfl) (gives_len _ L0 C0 und_u8s (by rfl)) ?_
    refine lv (.int .i64 96) (h := ?_)
    refine L_val (.bool true) (by rfl) (by rfl) (gives_ieq (k := .i64) ((L0 : Int)) (96) true (by rfl) (by rfl) (decide_eq_true (by omega))) ?_
    refine lv (.bool false) (h := ?_)
    refine lv (.bool false) (h := ?_)
    refine L_val_g (dj := 41) (.bool true) (by rfl) (by rfl) (by rfl) (by rfl) (by rfl) gv ?_
    refine L_val_g (dj := 41) (.bool true) (by rfl) (by rfl) (by rfl) (by rfl) (by rfl) gv ?_
    refine L_val_g (dj := 43) (.bool true) (by rfl) (by rfl) (by rfl) (by rfl) (by rfl) gv ?_
    refine L_val_g (dj := 43) (.bool false) (by rfl) (by rfl) (by rfl) (by rfl) (by rfl) gv ?_
    refine L_val_g (dj := 41) (.bool false) (by rfl) (by rfl) (by rfl) (by rfl) (by rfl) gv ?_
    refine lv (.bool false) (h := ?_)
    refine lv (.bool false) (h := ?_)
    refine L_val_g (dj := 48) (.bool true) (by rfl) (by rfl) (by rfl) (by rfl) (by rfl) gv ?_
    refine L_val_g (dj := 48) (.bool true) (by rfl) (by rfl) (by rfl) (by rfl) (by rfl) gv ?_
    refine L_val_g (dj := 50) (.bool false) (by rfl) (by rfl) (by rfl) (by rfl) (by rfl) gv ?_
    refine L_val_g (dj := 48) (.bool false) (by rfl) (by rfl) (by rfl) (by rfl) (by rfl) gv ?_
    refine lv (.bool false) (h := ?_)
    refine L_end ?_
    intro w6 hw6
    refine wp_cond_false (fr_at _ _ (by rfl) _) ?_
    refine wp_skip ?_
    change Code.wp _ _ _ _ _
    refine wp_seq ?_
    refine seq_plain hw6 [0] (by rfl) ?_
    refine lv (.bool false) (h := ?_)
    refine L_end ?_
    intro w7 hw7
    refine wp_cond_false (fr_at _ _ (by rfl) _) ?_
    refine wp_skip ?_
    change Code.wp _ _ _ _ _
    refine seq_plain hw7 [0, 1, 2] (by rfl) ?_
    refine lv (.bool false) (h := ?_)
    refine lv (.int .i64 0) (h := ?_)
    refine lv (.bool false) (h := ?_)
    refine L_end ?_
    intro w8 hw8
    refine wp_ret ?_
    change bodyPost _ _ _ Exit.ret _ _
    refine (ret_tmp_tmp (by rfl) (by rfl) (by rfl) (by rfl) ⟨(), false, (congrArg (fun z => Ending.returned (.tuple #[Value.int .i64 z, Value.bool false])) (if_pos (frm_t.2 (by have := (gt_oct ho0 0).1; have := (gt_oct ho0 0).2; omega)) : (if frm bs0 true = true then (0 : Int) else 11) = 0).symm), fun _ => (decide_eq_false (by omega)).symm, hw8.below⟩)
  ·
   refine L_val (.bool true) (by rfl) (by rfl) (gives_ine (k := .u8) (64 * (gt bs0 0 / 64 % 2)) (0) true (by rfl) (by rfl) (decide_eq_true (by omega))) ?_
   refine lv (.bool true) (h := ?_)
   refine L_end ?_
   intro w4 hw4
   refine seq_plain hw4 [0, 1, 2, 3, 4, 5] (by rfl) ?_
   refine lv (.slice (some ⟨b0, o0, none⟩) L0 C0) (h := ?_)
   refine L_val (.pointer (some ⟨b0, o0 + 0, none⟩)) (by rfl) (by rfl) (gives_index b0 (o0) L0 C0 (0) 0 (by rfl) (by rfl) und_u8s u8_sz rfl (by omega)) ?_
   refine L_val (.int .u8 (gt bs0 0)) (by rfl) (by rfl) (gives_load_old _ (.int .u8 (gt bs0 0)) (by rfl) (fun _ h => (h.below.cell (p := ⟨b0, _, none⟩) hq0).trans (hc0 0 (by omega))) und_u8') ?_
   refine L_val (.int .u8 (32 * (gt bs0 0 / 32 % 2))) (by rfl) (by rfl) (gives_and (k := .u8) (gt bs0 0) 32 (32 * (gt bs0 0 / 32 % 2)) (by rfl) (by rfl) (and_32 _ (gt_oct ho0 _).1 (gt_oct ho0 _).2)) ?_
   by_cases hf2 : 32 * (gt bs0 0 / 32 % 2) = 0
   ·
    refine L_val (.bool false) (by rfl) (by rfl) (gives_ine (k := .u8) (32 * (gt bs0 0 / 32 % 2)) (0) false (by rfl) (by rfl) (decide_eq_false (by omega))) ?_
    refine lv (.bool false) (h := ?_)
    refine L_end ?_
    intro w5 hw5
    refine wp_seq ?_
    refine seq_plain hw5 [0, 1, 2, 3, 4, 5, 6, 7, 8, 9, 10, 11, 12, 13, 14, 15, 16, 17, 18] (by rfl) ?_
    refine lv (.bool true) (h := ?_)
    refine lv (.slice (some ⟨b0, o0, none⟩) L0 C0) (h := ?_)
    refine L_val (.int .i64 (L0 : Int)) (by rfl) (by rfl) (gives_len _ L0 C0 und_u8s (by rfl)) ?_
    refine lv (.int .i64 96) (h := ?_)
    refine L_val (.bool true) (by rfl) (by rfl) (gives_ieq (k := .i64) ((L0 : Int)) (96) true (by rfl) (by rfl) (decide_eq_true (by omega))) ?_
    refine lv (.bool false) (h := ?_)
    refine lv (.bool false) (h := ?_)
    refine L_val_g (dj := 41) (.bool false) (by rfl) (by rfl) (by rfl) (by rfl) (by rfl) gv ?_
    refine L_val_g (dj := 41) (.bool false) (by rfl) (by rfl) (by rfl) (by rfl) (by rfl) gv ?_
    refine lS (dj := 43) (h := ?_)
    refine lS (dj := 43) (h := ?_)
    refine L_val_g (dj := 41) (.bool false) (by rfl) (by rfl) (by rfl) (by rfl) (by rfl) gv ?_
    refine lv (.bool false) (h := ?_)
    refine lv (.bool false) (h := ?_)
    refine L_val_g (dj := 48) (.bool false) (by rfl) (by rfl) (by rfl) (by rfl) (by rfl) gv ?_
    refine L_val_g (dj := 48) (.bool false) (by rfl) (by rfl) (by rfl) (by rfl) (by rfl) gv ?_
    refine lS (dj := 50) (h := ?_)
    refine L_val_g (dj := 48) (.bool false) (by rfl) (by rfl) (by rfl) (by rfl) (by rfl) gv ?_
    refine lv (.bool false) (h := ?_)
    refine L_end ?_
    intro w6 hw6
    refine wp_cond_false (fr_at _ _ (by rfl) _) ?_
    refine wp_skip ?_
    change Code.wp _ _ _ _ _
    refine wp_seq ?_
    refine seq_plain hw6 [0] (by rfl) ?_
    refine lv (.bool true) (h := ?_)
    refine L_end ?_
    intro w7 hw7
    refine wp_cond_true (fr_at _ _ (by rfl) _) ?_
    refine seq_plain hw7 [0, 1, 2] (by rfl) ?_
    refine lv (.slice (some ⟨b0, o0, none⟩) L0 C0) (h := ?_)
    refine L_val (.int .i64 (L0 : Int)) (by rfl) (by rfl) (gives_len _ L0 C0 und_u8s (by rfl)) ?_
    refine lv (.int .i64 0) (h := ?_)
    refine L_end ?_
    intro w8 hw8
    refine wp_block ?_
    refine loop_down (fun (r_ : Nat) a w => ∃ (k : Nat) (l_1 : List (Nat × Value)), L0 - k = r_ ∧ inFr 82 l_1 = true ∧ a = fr 82 ((0, .slice (some ⟨b0, o0, none⟩) L0 C0) :: (7, .bool true) :: (56, .int .i64 (L0 : Int)) :: (57, .int .i64 (k : Int)) :: l_1) ∧ (k ≤ L0) ∧ (∀ i, i < k → (i = 0 → gt bs0 0 % 32 = 0) ∧ (0 < i → gt bs0 i = 0)) ∧ Hbl v [] w) ?_ _ _ _ ⟨0, [(57, .int .i64 0), (56, .int .i64 (L0 : Int)), (55, .slice (some ⟨b0, o0, none⟩) L0 C0), (54, .bool true), (53, .bool false), (52, .bool false), (51, undef), (50, .bool false), (49, .bool false), (48, .bool false), (47, .bool false), (46, .bool false), (45, undef), (44, undef), (43, .bool false), (42, .bool false), (41, .bool false), (40, .bool false), (39, .bool true), (38, .int .i64 96), (37, .int .i64 (L0 : Int)), (36, .slice (some ⟨b0, o0, none⟩) L0 C0), (35, .bool true), (8, .bool false), (34, .bool false), (33, .int .u8 (32 * (gt bs0 0 / 32 % 2))), (32, .int .u8 (gt bs0 0)), (31, .pointer (some ⟨b0, o0 + 0, none⟩)), (30, .slice (some ⟨b0, o0, none⟩) L0 C0), (7, .bool true), (29, .bool true), (28, .int .u8 (64 * (gt bs0 0 / 64 % 2))), (27, .int .u8 (gt bs0 0)), (26, .pointer (some ⟨b0, o0 + 0, none⟩)), (25, .slice (some ⟨b0, o0, none⟩) L0 C0), (6, .bool true), (24, .bool true), (23, .int .u8 (gt bs0 0)), (22, .pointer (some ⟨b0, o0 + 0, none⟩)), (21, .slice (some ⟨b0, o0, none⟩) L0 C0), (20, .bool false), (19, undef), (18, undef), (17, undef), (16, undef), (15, undef), (14, .bool false), (13, .bool false), (12, .int .i64 96), (11, .int .i64 (L0 : Int)), (10, .slice (some ⟨b0, o0, none⟩) L0 C0), (5, .bool false), (4, .int .i64 0), (1, .int .i64 96), (0, .slice (some ⟨b0, o0, none⟩) L0 C0)], rfl, (by rfl), (Eq.trans (Eq.trans (Eq.trans (fr_dup _ _ 57 _ (by rfl) (by rfl) (by exact (congrArg (Value.int .i64) (by omega)))).symm (fr_dup _ _ 56 _ (by rfl) (by rfl) (by rfl)).symm) (fr_dup _ _ 7 _ (by rfl) (by rfl) (by rfl)).symm) (fr_dup _ _ 0 _ (by rfl) (by rfl) (by rfl)).symm), Nat.zero_le _, (fun i hi => absurd hi (by omega)), hw8⟩
    rintro r_1 a0 w0_1 ⟨k, l_1, hr_1, hl_1, rfl, hk, hI, hw0_1⟩
    rcases marks_ways bs0 k L0 with ⟨hlt, hk0, hz⟩ | ⟨hlt, hk0, hz⟩ | ⟨hlt, hk0, hz⟩ | ⟨hlt, hk0, hz⟩ | hlt
    ·
     have hnb : ¬ blkB bs0 = true := fun hb => by have h1 := (blkB_iff.1 hb).1; have h2 := (blkB_iff.1 hb).2 k; omega
     refine seq_plain hw0_1 [0] (by rfl) ?_
     refine L_val (.bool true) (by rfl) (by exact hl_1) (gives_lss (k := .i64) ((k : Int)) ((L0 : Int)) true (by rfl) (by rfl) (decide_eq_true (by omega))) ?_
     refine L_end ?_
     intro w9 hw9
     refine wp_seq ?_
     refine wp_cond_true (fr_at _ _ (by exact hl_1) _) ?_
     refine wp_skip ?_
     change Code.wp _ _ _ _ _
     refine wp_seq ?_
     refine wp_block ?_
     refine seq_plain hw9 [0, 1] (by rfl) ?_
     refine L_val (.int .i64 (k : Int)) (by rfl) (by exact hl_1) gv ?_
     refine L_val (.int .i64 (k : Int)) (by rfl) (by exact hl_1) gv ?_
     refine L_end ?_
     intro w10 hw10
     refine seq_plain hw10 [0, 1, 2, 3, 4, 5, 6, 7, 8, 9, 10, 11, 12, 13, 14, 15, 16, 17, 18, 19] (by rfl) ?_
     refine L_val (.int .i64 (k : Int)) (by rfl) (by exact hl_1) gv ?_
     refine L_val (.bool false) (by rfl) (by exact hl_1) (gives_gtr (k := .i64) ((k : Int)) (0) false (by rfl) (by rfl) (decide_eq_false (by omega))) ?_
     refine L_val (.bool false) (by rfl) (by exact hl_1) gv ?_
     refine L_skip (dj := 62) (by rfl) (by exact hl_1) (by rfl) (by rfl) (by rfl) ?_
     refine L_skip (dj := 62) (by rfl) (by exact hl_1) (by rfl) (by rfl) (by rfl) ?_
     refine L_skip (dj := 62) (by rfl) (by exact hl_1) (by rfl) (by rfl) (by rfl) ?_
     refine L_skip (dj := 62) (by rfl) (by exact hl_1) (by rfl) (by rfl) (by rfl) ?_
     refine L_skip (dj := 62) (by rfl) (by exact hl_1) (by rfl) (by rfl) (by rfl) ?_
     refine L_val (.bool false) (by rfl) (by exact hl_1) gv ?_
     refine L_val (.bool false) (by rfl) (by exact hl_1) gv ?_
     refine L_val_g (dj := 69) (.int .i64 (k : Int)) (by rfl) (by exact hl_1) (by rfl) (by rfl) (by rfl) gv ?_
     refine L_val_g (dj := 69) (.bool true) (by rfl) (by exact hl_1) (by rfl) (by rfl) (by rfl) (gives_ieq (k := .i64) ((k : Int)) (0) true (by rfl) (by rfl) (decide_eq_true (by omega))) ?_
     refine L_val_g (dj := 69) (.bool true) (by rfl) (by exact hl_1) (by rfl) (by rfl) (by rfl) gv ?_
     refine L_val_g (dj := 72) (.slice (some ⟨b0, o0, none⟩) L0 C0) (by rfl) (by exact hl_1) (by rfl) (by rfl) (by rfl) gv ?_
     refine L_val_g (dj := 72) (.pointer (some ⟨b0, o0 + 0, none⟩)) (by rfl) (by exact hl_1) (by rfl) (by rfl) (by rfl) (gives_index b0 (o0) L0 C0 (0) 0 (by rfl) (by rfl) und_u8s u8_sz rfl (by omega)) ?_
     refine L_val_g (dj := 72) (.int .u8 (gt bs0 0)) (by rfl) (by exact hl_1) (by rfl) (by rfl) (by rfl) (gives_load_old _ (.int .u8 (gt bs0 0)) (by rfl) (fun _ h => (h.below.cell (p := ⟨b0, _, none⟩) hq0).trans (hc0 0 (by omega))) und_u8') ?_
     refine L_val_g (dj := 72) (.int .u8 (gt bs0 0 % 32)) (by rfl) (by exact hl_1) (by rfl) (by rfl) (by rfl) (gives_and (k := .u8) (gt bs0 0) 31 (gt bs0 0 % 32) (by rfl) (by rfl) (and_31b _ (gt_oct ho0 _).1 (gt_oct ho0 _).2)) ?_
     refine L_val_g (dj := 72) (.bool true) (by rfl) (by exact hl_1) (by rfl) (by rfl) (by rfl) (gives_ine (k := .u8) (gt bs0 0 % 32) (0) true (by rfl) (by rfl) (decide_eq_true (by omega))) ?_
     refine L_val_g (dj := 69) (.bool true) (by rfl) (by exact hl_1) (by rfl) (by rfl) (by rfl) gv ?_
     refine L_val (.bool true) (by rfl) (by exact hl_1) gv ?_
     refine L_end ?_
     intro w11 hw11
     refine wp_cond_true (fr_at _ _ (by exact hl_1) _) ?_
     refine seq_plain hw11 [0, 1] (by rfl) ?_
     refine L_val (.int .i64 11) (by rfl) (by exact hl_1) gv ?_
     refine L_val (.bool true) (by rfl) (by exact hl_1) gv ?_
     refine L_end ?_
     intro w12 hw12
     refine wp_ret ?_
     change bodyPost _ _ _ Exit.ret _ _
     refine (ret_tmp_tmp (by rfl) (by exact hl_1) (by rfl) (by rfl) ⟨(), true, (congrArg (fun z => Ending.returned (.tuple #[Value.int .i64 z, Value.bool true])) (if_neg (show ¬ frm bs0 true = true from fun h => by have := (gt_oct ho0 0).1; have := (gt_oct ho0 0).2; rcases frm_t.1 h with h | h | ⟨h, hb⟩ <;> first | omega | exact hnb hb) : (if frm bs0 true = true then (0 : Int) else 11) = 11).symm), fun h => absurd h (show ¬ frm bs0 true = true from fun h => by have := (gt_oct ho0 0).1; have := (gt_oct ho0 0).2; rcases frm_t.1 h with h | h | ⟨h, hb⟩ <;> first | omega | exact hnb hb), hw12.below⟩)
    ·
     refine seq_plain hw0_1 [0] (by rfl) ?_
     refine L_val (.bool true) (by rfl) (by exact hl_1) (gives_lss (k := .i64) ((k : Int)) ((L0 : Int)) true (by rfl) (by rfl) (decide_eq_true (by omega))) ?_
     refine L_end ?_
     intro w13 hw13
     refine wp_seq ?_
     refine wp_cond_true (fr_at _ _ (by exact hl_1) _) ?_
     refine wp_skip ?_
     change Code.wp _ _ _ _ _
     refine wp_seq ?_
     refine wp_block ?_
     refine seq_plain hw13 [0, 1] (by rfl) ?_
     refine L_val (.int .i64 (k : Int)) (by rfl) (by exact hl_1) gv ?_
     refine L_val (.int .i64 (k : Int)) (by rfl) (by exact hl_1) gv ?_
     refine L_end ?_
     intro w14 hw14
     refine seq_plain hw14 [0, 1, 2, 3, 4, 5, 6, 7, 8, 9, 10, 11, 12, 13, 14, 15, 16, 17, 18, 19] (by rfl) ?_
     refine L_val (.int .i64 (k : Int)) (by rfl) (by exact hl_1) gv ?_
     refine L_val (.bool false) (by rfl) (by exact hl_1) (gives_gtr (k := .i64) ((k : Int)) (0) false (by rfl) (by rfl) (decide_eq_false (by omega))) ?_
     refine L_val (.bool false) (by rfl) (by exact hl_1) gv ?_
     refine L_skip (dj := 62) (by rfl) (by exact hl_1) (by rfl) (by rfl) (by rfl) ?_
     refine L_skip (dj := 62) (by rfl) (by exact hl_1) (by rfl) (by rfl) (by rfl) ?_
     refine L_skip (dj := 62) (by rfl) (by exact hl_1) (by rfl) (by rfl) (by rfl) ?_
     refine L_skip (dj := 62) (by rfl) (by exact hl_1) (by rfl) (by rfl) (by rfl) ?_
     refine L_skip (dj := 62) (by rfl) (by exact hl_1) (by rfl) (by rfl) (by rfl) ?_
     refine L_val (.bool false) (by rfl) (by exact hl_1) gv ?_
     refine L_val (.bool false) (by rfl) (by exact hl_1) gv ?_
     refine L_val_g (dj := 69) (.int .i64 (k : Int)) (by rfl) (by exact hl_1) (by rfl) (by rfl) (by rfl) gv ?_
     refine L_val_g (dj := 69) (.bool true) (by rfl) (by exact hl_1) (by rfl) (by rfl) (by rfl) (gives_ieq (k := .i64) ((k : Int)) (0) true (by rfl) (by rfl) (decide_eq_true (by omega))) ?_
     refine L_val_g (dj := 69) (.bool true) (by rfl) (by exact hl_1) (by rfl) (by rfl) (by rfl) gv ?_
     refine L_val_g (dj := 72) (.slice (some ⟨b0, o0, none⟩) L0 C0) (by rfl) (by exact hl_1) (by rfl) (by rfl) (by rfl) gv ?_
     refine L_val_g (dj := 72) (.pointer (some ⟨b0, o0 + 0, none⟩)) (by rfl) (by exact hl_1) (by rfl) (by rfl) (by rfl) (gives_index b0 (o0) L0 C0 (0) 0 (by rfl) (by rfl) und_u8s u8_sz rfl (by omega)) ?_
     refine L_val_g (dj := 72) (.int .u8 (gt bs0 0)) (by rfl) (by exact hl_1) (by rfl) (by rfl) (by rfl) (gives_load_old _ (.int .u8 (gt bs0 0)) (by rfl) (fun _ h => (h.below.cell (p := ⟨b0, _, none⟩) hq0).trans (hc0 0 (by omega))) und_u8') ?_
     refine L_val_g (dj := 72) (.int .u8 (gt bs0 0 % 32)) (by rfl) (by exact hl_1) (by rfl) (by rfl) (by rfl) (gives_and (k := .u8) (gt bs0 0) 31 (gt bs0 0 % 32) (by rfl) (by rfl) (and_31b _ (gt_oct ho0 _).1 (gt_oct ho0 _).2)) ?_
     refine L_val_g (dj := 72) (.bool false) (by rfl) (by exact hl_1) (by rfl) (by rfl) (by rfl) (gives_ine (k := .u8) (gt bs0 0 % 32) (0) false (by rfl) (by rfl) (decide_eq_false (by omega))) ?_
     refine L_val_g (dj := 69) (.bool false) (by rfl) (by exact hl_1) (by rfl) (by rfl) (by rfl) gv ?_
     refine L_val (.bool false) (by rfl) (by exact hl_1) gv ?_
     refine L_end ?_
     intro w15 hw15
     refine wp_cond_false (fr_at _ _ (by exact hl_1) _) ?_
     refine wp_skip ?_
     change Code.wp _ _ _ _ _
     refine one_plain hw15 [0, 1] (by rfl) ?_
     refine L_val (.int .i64 ((k : Int) + 1)) (by rfl) (by exact hl_1) (gives_add (k := .i64) ((k : Int)) (1) ((k : Int) + 1) (by rfl) (by rfl) (IntWalk.i64_in _ (by omega))) ?_
     refine L_val (.int .i64 ((k : Int) + 1)) (by rfl) (by exact hl_1) gv ?_
     refine L_end ?_
     intro w16 hw16
     change ∃ r' : Nat, r' < r_1 ∧ _
     refine ⟨_, ?_, k + 1, ((57, .int .i64 ((k : Int) + 1)) :: (80, .int .i64 ((k : Int) + 1)) :: (79, .bool false) :: (78, .bool false) :: (77, .bool false) :: (76, .int .u8 (gt bs0 0 % 32)) :: (75, .int .u8 (gt bs0 0)) :: (74, .pointer (some ⟨b0, o0 + 0, none⟩)) :: (73, .slice (some ⟨b0, o0, none⟩) L0 C0) :: (72, .bool true) :: (71, .bool true) :: (70, .int .i64 (k : Int)) :: (69, .bool false) :: (68, .bool false) :: (67, undef) :: (66, undef) :: (65, undef) :: (64, undef) :: (63, undef) :: (62, .bool false) :: (61, .bool false) :: (60, .int .i64 (k : Int)) :: (9, .int .i64 (k : Int)) :: (59, .int .i64 (k : Int)) :: (58, .bool true) :: (0, .slice (some ⟨b0, o0, none⟩) L0 C0) :: (7, .bool true) :: (56, .int .i64 (L0 : Int)) :: (57, .int .i64 (k : Int)) :: l_1), rfl, (by exact hl_1), (Eq.trans (Eq.trans (Eq.trans (fr_dup _ _ 57 _ (by exact hl_1) (by rfl) (by exact (congrArg (Value.int .i64) (by omega)))).symm (fr_dup _ _ 56 _ (by exact hl_1) (by rfl) (by rfl)).symm) (fr_dup _ _ 7 _ (by exact hl_1) (by rfl) (by rfl)).symm) (fr_dup _ _ 0 _ (by exact hl_1) (by rfl) (by rfl)).symm), by omega, (fun i hi => by rcases Nat.lt_or_ge i k with h | h; exact hI i h; obtain rfl : i = k := (by omega); exact ⟨fun h => by omega, fun h => by omega⟩), hw16⟩
     omega
    ·
     have hnb : ¬ blkB bs0 = true := fun hb => by have h1 := (blkB_iff.1 hb).1; have h2 := (blkB_iff.1 hb).2 k; omega
     refine seq_plain hw0_1 [0] (by rfl) ?_
     refine L_val (.bool true) (by rfl) (by exact hl_1) (gives_lss (k := .i64) ((k : Int)) ((L0 : Int)) true (by rfl) (by rfl) (decide_eq_true (by omega))) ?_
     refine L_end ?_
     intro w17 hw17
     refine wp_seq ?_
     refine wp_cond_true (fr_at _ _ (by exact hl_1) _) ?_
     refine wp_skip ?_
     change Code.wp _ _ _ _ _
     refine wp_seq ?_
     refine wp_block ?_
     refine seq_plain hw17 [0, 1] (by rfl) ?_
     refine L_val (.int .i64 (k : Int)) (by rfl) (by exact hl_1) gv ?_
     refine L_val (.int .i64 (k : Int)) (by rfl) (by exact hl_1) gv ?_
     refine L_end ?_
     intro w18 hw18
     refine seq_plain hw18 [0, 1, 2, 3, 4, 5, 6, 7, 8, 9, 10, 11, 12, 13, 14, 15, 16, 17, 18, 19] (by rfl) ?_
     refine L_val (.int .i64 (k : Int)) (by rfl) (by exact hl_1) gv ?_
     refine L_val (.bool true) (by rfl) (by exact hl_1) (gives_gtr (k := .i64) ((k : Int)) (0) true (by rfl) (by rfl) (decide_eq_true (by omega))) ?_
     refine L_val (.bool true) (by rfl) (by exact hl_1) gv ?_
     refine L_val_g (dj := 62) (.slice (some ⟨b0, o0, none⟩) L0 C0) (by rfl) (by exact hl_1) (by rfl) (by rfl) (by rfl) gv ?_
     refine L_val_g (dj := 62) (.int .i64 (k : Int)) (by rfl) (by exact hl_1) (by rfl) (by rfl) (by rfl) gv ?_
     refine L_val_g (dj := 62) (.pointer (some ⟨b0, o0 + k, none⟩)) (by rfl) (by exact hl_1) (by rfl) (by rfl) (by rfl) (gives_index b0 (o0) L0 C0 ((k : Int)) k (by rfl) (by rfl) und_u8s u8_sz rfl (by omega)) ?_
     refine L_val_g (dj := 62) (.int .u8 (gt bs0 k)) (by rfl) (by exact hl_1) (by rfl) (by rfl) (by rfl) (gives_load_old _ (.int .u8 (gt bs0 k)) (by rfl) (fun _ h => (h.below.cell (p := ⟨b0, _, none⟩) hq0).trans (hc0 k (by omega))) und_u8') ?_
     refine L_val_g (dj := 62) (.bool true) (by rfl) (by exact hl_1) (by rfl) (by rfl) (by rfl) (gives_ine (k := .u8) (gt bs0 k) (0) true (by rfl) (by rfl) (decide_eq_true (by omega))) ?_
     refine L_val (.bool true) (by rfl) (by exact hl_1) gv ?_
     refine L_val (.bool true) (by rfl) (by exact hl_1) gv ?_
     refine L_skip (dj := 69) (by rfl) (by exact hl_1) (by rfl) (by rfl) (by rfl) ?_
     refine L_skip (dj := 69) (by rfl) (by exact hl_1) (by rfl) (by rfl) (by rfl) ?_
     refine L_skip (dj := 69) (by rfl) (by exact hl_1) (by rfl) (by rfl) (by rfl) ?_
     refine L_skip_u (dj := 72) (by rfl) (by exact hl_1) (by rfl) (by rfl) (by rfl) ?_
     refine L_skip_u (dj := 72) (by rfl) (by exact hl_1) (by rfl) (by rfl) (by rfl) ?_
     refine L_skip_u (dj := 72) (by rfl) (by exact hl_1) (by rfl) (by rfl) (by rfl) ?_
     refine L_skip_u (dj := 72) (by rfl) (by exact hl_1) (by rfl) (by rfl) (by rfl) ?_
     refine L_skip_u (dj := 72) (by rfl) (by exact hl_1) (by rfl) (by rfl) (by rfl) ?_
     refine L_skip (dj := 69) (by rfl) (by exact hl_1) (by rfl) (by rfl) (by rfl) ?_
     refine L_val (.bool true) (by rfl) (by exact hl_1) gv ?_
     refine L_end ?_
     intro w19 hw19
     refine wp_cond_true (fr_at _ _ (by exact hl_1) _) ?_
     refine seq_plain hw19 [0, 1] (by rfl) ?_
     refine L_val (.int .i64 11) (by rfl) (by exact hl_1) gv ?_
     refine L_val (.bool true) (by rfl) (by exact hl_1) gv ?_
     refine L_end ?_
     intro w20 hw20
     refine wp_ret ?_
     change bodyPost _ _ _ Exit.ret _ _
     refine (ret_tmp_tmp (by rfl) (by exact hl_1) (by rfl) (by rfl) ⟨(), true, (congrArg (fun z => Ending.returned (.tuple #[Value.int .i64 z, Value.bool true])) (if_neg (show ¬ frm bs0 true = true from fun h => by have := (gt_oct ho0 0).1; have := (gt_oct ho0 0).2; rcases frm_t.1 h with h | h | ⟨h, hb⟩ <;> first | omega | exact hnb hb) : (if frm bs0 true = true then (0 : Int) else 11) = 11).symm), fun h => absurd h (show ¬ frm bs0 true = true from fun h => by have := (gt_oct ho0 0).1; have := (gt_oct ho0 0).2; rcases frm_t.1 h with h | h | ⟨h, hb⟩ <;> first | omega | exact hnb hb), hw20.below⟩)
    ·
     refine seq_plain hw0_1 [0] (by rfl) ?_
     refine L_val (.bool true) (by rfl) (by exact hl_1) (gives_lss (k := .i64) ((k : Int)) ((L0 : Int)) true (by rfl) (by rfl) (decide_eq_true (by omega))) ?_
     refine L_end ?_
     intro w21 hw21
     refine wp_seq ?_
     refine wp_cond_true (fr_at _ _ (by exact hl_1) _) ?_
     refine wp_skip ?_
     change Code.wp _ _ _ _ _
     refine wp_seq ?_
     refine wp_block ?_
     refine seq_plain hw21 [0, 1] (by rfl) ?_
     refine L_val (.int .i64 (k : Int)) (by rfl) (by exact hl_1) gv ?_
     refine L_val (.int .i64 (k : Int)) (by rfl) (by exact hl_1) gv ?_
     refine L_end ?_
     intro w22 hw22
     refine seq_plain hw22 [0, 1, 2, 3, 4, 5, 6, 7, 8, 9, 10, 11, 12, 13, 14, 15, 16, 17, 18, 19] (by rfl) ?_
     refine L_val (.int .i64 (k : Int)) (by rfl) (by exact hl_1) gv ?_
     refine L_val (.bool true) (by rfl) (by exact hl_1) (gives_gtr (k := .i64) ((k : Int)) (0) true (by rfl) (by rfl) (decide_eq_true (by omega))) ?_
     refine L_val (.bool true) (by rfl) (by exact hl_1) gv ?_
     refine L_val_g (dj := 62) (.slice (some ⟨b0, o0, none⟩) L0 C0) (by rfl) (by exact hl_1) (by rfl) (by rfl) (by rfl) gv ?_
     refine L_val_g (dj := 62) (.int .i64 (k : Int)) (by rfl) (by exact hl_1) (by rfl) (by rfl) (by rfl) gv ?_
     refine L_val_g (dj := 62) (.pointer (some ⟨b0, o0 + k, none⟩)) (by rfl) (by exact hl_1) (by rfl) (by rfl) (by rfl) (gives_index b0 (o0) L0 C0 ((k : Int)) k (by rfl) (by rfl) und_u8s u8_sz rfl (by omega)) ?_
     refine L_val_g (dj := 62) (.int .u8 (gt bs0 k)) (by rfl) (by exact hl_1) (by rfl) (by rfl) (by rfl) (gives_load_old _ (.int .u8 (gt bs0 k)) (by rfl) (fun _ h => (h.below.cell (p := ⟨b0, _, none⟩) hq0).trans (hc0 k (by omega))) und_u8') ?_
     refine L_val_g (dj := 62) (.bool false) (by rfl) (by exact hl_1) (by rfl) (by rfl) (by rfl) (gives_ine (k := .u8) (gt bs0 k) (0) false (by rfl) (by rfl) (decide_eq_false (by omega))) ?_
     refine L_val (.bool false) (by rfl) (by exact hl_1) gv ?_
     refine L_val (.bool false) (by rfl) (by exact hl_1) gv ?_
     refine L_val_g (dj := 69) (.int .i64 (k : Int)) (by rfl) (by exact hl_1) (by rfl) (by rfl) (by rfl) gv ?_
     refine L_val_g (dj := 69) (.bool false) (by rfl) (by exact hl_1) (by rfl) (by rfl) (by rfl) (gives_ieq (k := .i64) ((k : Int)) (0) false (by rfl) (by rfl) (decide_eq_false (by omega))) ?_
     refine L_val_g (dj := 69) (.bool false) (by rfl) (by exact hl_1) (by rfl) (by rfl) (by rfl) gv ?_
     refine L_skip (dj := 72) (by rfl) (by exact hl_1) (by rfl) (by rfl) (by rfl) ?_
     refine L_skip (dj := 72) (by rfl) (by exact hl_1) (by rfl) (by rfl) (by rfl) ?_
     refine L_skip (dj := 72) (by rfl) (by exact hl_1) (by rfl) (by rfl) (by rfl) ?_
     refine L_skip (dj := 72) (by rfl) (by exact hl_1) (by rfl) (by rfl) (by rfl) ?_
     refine L_skip (dj := 72) (by rfl) (by exact hl_1) (by rfl) (by rfl) (by rfl) ?_
     refine L_val_g (dj := 69) (.bool false) (by rfl) (by exact hl_1) (by rfl) (by rfl) (by rfl) gv ?_
     refine L_val (.bool false) (by rfl) (by exact hl_1) gv ?_
     refine L_end ?_
     intro w23 hw23
     refine wp_cond_false (fr_at _ _ (by exact hl_1) _) ?_
     refine wp_skip ?_
     change Code.wp _ _ _ _ _
     refine one_plain hw23 [0, 1] (by rfl) ?_
     refine L_val (.int .i64 ((k : Int) + 1)) (by rfl) (by exact hl_1) (gives_add (k := .i64) ((k : Int)) (1) ((k : Int) + 1) (by rfl) (by rfl) (IntWalk.i64_in _ (by omega))) ?_
     refine L_val (.int .i64 ((k : Int) + 1)) (by rfl) (by exact hl_1) gv ?_
     refine L_end ?_
     intro w24 hw24
     change ∃ r' : Nat, r' < r_1 ∧ _
     refine ⟨_, ?_, k + 1, ((57, .int .i64 ((k : Int) + 1)) :: (80, .int .i64 ((k : Int) + 1)) :: (79, .bool false) :: (78, .bool false) :: (77, undef) :: (76, undef) :: (75, undef) :: (74, undef) :: (73, undef) :: (72, .bool false) :: (71, .bool false) :: (70, .int .i64 (k : Int)) :: (69, .bool false) :: (68, .bool false) :: (67, .bool false) :: (66, .int .u8 (gt bs0 k)) :: (65, .pointer (some ⟨b0, o0 + k, none⟩)) :: (64, .int .i64 (k : Int)) :: (63, .slice (some ⟨b0, o0, none⟩) L0 C0) :: (62, .bool true) :: (61, .bool true) :: (60, .int .i64 (k : Int)) :: (9, .int .i64 (k : Int)) :: (59, .int .i64 (k : Int)) :: (58, .bool true) :: (0, .slice (some ⟨b0, o0, none⟩) L0 C0) :: (7, .bool true) :: (56, .int .i64 (L0 : Int)) :: (57, .int .i64 (k : Int)) :: l_1), rfl, (by exact hl_1), (Eq.trans (Eq.trans (Eq.trans (fr_dup _ _ 57 _ (by exact hl_1) (by rfl) (by exact (congrArg (Value.int .i64) (by omega)))).symm (fr_dup _ _ 56 _ (by exact hl_1) (by rfl) (by rfl)).symm) (fr_dup _ _ 7 _ (by exact hl_1) (by rfl) (by rfl)).symm) (fr_dup _ _ 0 _ (by exact hl_1) (by rfl) (by rfl)).symm), by omega, (fun i hi => by rcases Nat.lt_or_ge i k with h | h; exact hI i h; obtain rfl : i = k := (by omega); exact ⟨fun h => by omega, fun h => by omega⟩), hw24⟩
     omega
    ·
     have hyb : blkB bs0 = true := blkB_iff.2 ⟨(hI 0 (by omega)).1 rfl, fun i h0 hi => (hI i (by omega)).2 h0⟩
     refine seq_plain hw0_1 [0] (by rfl) ?_
     refine L_val (.bool false) (by rfl) (by exact hl_1) (gives_lss (k := .i64) ((k : Int)) ((L0 : Int)) false (by rfl) (by rfl) (decide_eq_false (by omega))) ?_
     refine L_end ?_
     intro w25 hw25
     refine wp_seq ?_
     refine wp_cond_false (fr_at _ _ (by exact hl_1) _) ?_
     refine wp_exit ?_
     change Code.wp _ _ _ _ _
     change Code.wp _ _ _ _ _
     refine seq_plain hw25 [0, 1, 2] (by rfl) ?_
     refine L_val (.bool true) (by rfl) (by exact hl_1) gv ?_
     refine L_val (.int .i64 0) (by rfl) (by exact hl_1) gv ?_
     refine L_val (.bool true) (by rfl) (by exact hl_1) gv ?_
     refine L_end ?_
     intro w26 hw26
     refine wp_ret ?_
     change bodyPost _ _ _ Exit.ret _ _
     refine (ret_tmp_tmp (by rfl) (by exact hl_1) (by rfl) (by rfl) ⟨(), true, (congrArg (fun z => Ending.returned (.tuple #[Value.int .i64 z, Value.bool true])) (if_pos (frm_t.2 (by have := (gt_oct ho0 0).1; have := (gt_oct ho0 0).2; right; right; exact ⟨by omega, hyb⟩)) : (if frm bs0 true = true then (0 : Int) else 11) = 0).symm), fun _ => (decide_eq_true (by omega)).symm, hw26.below⟩)
   ·
    refine L_val (.bool true) (by rfl) (by rfl) (gives_ine (k := .u8) (32 * (gt bs0 0 / 32 % 2)) (0) true (by rfl) (by rfl) (decide_eq_true (by omega))) ?_
    refine lv (.bool true) (h := ?_)
    refine L_end ?_
    intro w5 hw5
    refine wp_seq ?_
    refine seq_plain hw5 [0, 1, 2, 3, 4, 5, 6, 7, 8, 9, 10, 11, 12, 13, 14, 15, 16, 17, 18] (by rfl) ?_
    refine lv (.bool true) (h := ?_)
    refine lv (.slice (some ⟨b0, o0, none⟩) L0 C0) (h := ?_)
    refine L_val (.int .i64 (L0 : Int)) (by rfl) (by rfl) (gives_len _ L0 C0 und_u8s (by rfl)) ?_
    refine lv (.int .i64 96) (h := ?_)
    refine L_val (.bool true) (by rfl) (by rfl) (gives_ieq (k := .i64) ((L0 : Int)) (96) true (by rfl) (by rfl) (decide_eq_true (by omega))) ?_
    refine lv (.bool false) (h := ?_)
    refine lv (.bool false) (h := ?_)
    refine L_val_g (dj := 41) (.bool true) (by rfl) (by rfl) (by rfl) (by rfl) (by rfl) gv ?_
    refine L_val_g (dj := 41) (.bool true) (by rfl) (by rfl) (by rfl) (by rfl) (by rfl) gv ?_
    refine L_val_g (dj := 43) (.bool true) (by rfl) (by rfl) (by rfl) (by rfl) (by rfl) gv ?_
    refine L_val_g (dj := 43) (.bool false) (by rfl) (by rfl) (by rfl) (by rfl) (by rfl) gv ?_
    refine L_val_g (dj := 41) (.bool false) (by rfl) (by rfl) (by rfl) (by rfl) (by rfl) gv ?_
    refine lv (.bool false) (h := ?_)
    refine lv (.bool false) (h := ?_)
    refine L_val_g (dj := 48) (.bool true) (by rfl) (by rfl) (by rfl) (by rfl) (by rfl) gv ?_
    refine L_val_g (dj := 48) (.bool true) (by rfl) (by rfl) (by rfl) (by rfl) (by rfl) gv ?_
    refine L_val_g (dj := 50) (.bool true) (by rfl) (by rfl) (by rfl) (by rfl) (by rfl) gv ?_
    refine L_val_g (dj := 48) (.bool true) (by rfl) (by rfl) (by rfl) (by rfl) (by rfl) gv ?_
    refine lv (.bool true) (h := ?_)
    refine L_end ?_
    intro w6 hw6
    refine wp_cond_true (fr_at _ _ (by rfl) _) ?_
    refine seq_plain hw6 [0, 1] (by rfl) ?_
    refine lv (.int .i64 11) (h := ?_)
    refine lv (.bool false) (h := ?_)
    refine L_end ?_
    intro w7 hw7
    refine wp_ret ?_
    change bodyPost _ _ _ Exit.ret _ _
    refine (ret_tmp_tmp (by rfl) (by rfl) (by rfl) (by rfl) ⟨(), false, (congrArg (fun z => Ending.returned (.tuple #[Value.int .i64 z, Value.bool false])) (if_neg (show ¬ frm bs0 true = true from fun h => by have := (gt_oct ho0 0).1; have := (gt_oct ho0 0).2; rcases frm_t.1 h with h | h | ⟨h, hb⟩ <;> omega) : (if frm bs0 true = true then (0 : Int) else 11) = 11).symm), fun h => absurd h (show ¬ frm bs0 true = true from fun h => by have := (gt_oct ho0 0).1; have := (gt_oct ho0 0).2; rcases frm_t.1 h with h | h | ⟨h, hb⟩ <;> omega), hw7.below⟩)
 ·
  refine L_val (.bool false) (by rfl) (by rfl) (gives_geq (k := .u8) (gt bs0 0) (128) false (by rfl) (by rfl) (decide_eq_false (by omega))) ?_
  refine lv (.bool false) (h := ?_)
  refine L_end ?_
  intro w3 hw3
  refine seq_plain hw3 [0, 1, 2, 3, 4, 5] (by rfl) ?_
  refine lv (.slice (some ⟨b0, o0, none⟩) L0 C0) (h := ?_)
  refine L_val (.pointer (some ⟨b0, o0 + 0, none⟩)) (by rfl) (by rfl) (gives_index b0 (o0) L0 C0 (0) 0 (by rfl) (by rfl) und_u8s u8_sz rfl (by omega)) ?_
  refine L_val (.int .u8 (gt bs0 0)) (by rfl) (by rfl) (gives_load_old _ (.int .u8 (gt bs0 0)) (by rfl) (fun _ h => (h.below.cell (p := ⟨b0, _, none⟩) hq0).trans (hc0 0 (by omega))) und_u8') ?_
  refine L_val (.int .u8 (64 * (gt bs0 0 / 64 % 2))) (by rfl) (by rfl) (gives_and (k := .u8) (gt bs0 0) 64 (64 * (gt bs0 0 / 64 % 2)) (by rfl) (by rfl) (and_64 _ (gt_oct ho0 _).1 (gt_oct ho0 _).2)) ?_
  by_cases hf1 : 64 * (gt bs0 0 / 64 % 2) = 0
  ·
   refine L_val (.bool false) (by rfl) (by rfl) (gives_ine (k := .u8) (64 * (gt bs0 0 / 64 % 2)) (0) false (by rfl) (by rfl) (decide_eq_false (by omega))) ?_
   refine lv (.bool false) (h := ?_)
   refine L_end ?_
   intro w4 hw4
   refine seq_plain hw4 [0, 1, 2, 3, 4, 5] (by rfl) ?_
   refine lv (.slice (some ⟨b0, o0, none⟩) L0 C0) (h := ?_)
   refine L_val (.pointer (some ⟨b0, o0 + 0, none⟩)) (by rfl) (by rfl) (gives_index b0 (o0) L0 C0 (0) 0 (by rfl) (by rfl) und_u8s u8_sz rfl (by omega)) ?_
   refine L_val (.int .u8 (gt bs0 0)) (by rfl) (by rfl) (gives_load_old _ (.int .u8 (gt bs0 0)) (by rfl) (fun _ h => (h.below.cell (p := ⟨b0, _, none⟩) hq0).trans (hc0 0 (by omega))) und_u8') ?_
   refine L_val (.int .u8 (32 * (gt bs0 0 / 32 % 2))) (by rfl) (by rfl) (gives_and (k := .u8) (gt bs0 0) 32 (32 * (gt bs0 0 / 32 % 2)) (by rfl) (by rfl) (and_32 _ (gt_oct ho0 _).1 (gt_oct ho0 _).2)) ?_
   by_cases hf2 : 32 * (gt bs0 0 / 32 % 2) = 0
   ·
    refine L_val (.bool false) (by rfl) (by rfl) (gives_ine (k := .u8) (32 * (gt bs0 0 / 32 % 2)) (0) false (by rfl) (by rfl) (decide_eq_false (by omega))) ?_
    refine lv (.bool false) (h := ?_)
    refine L_end ?_
    intro w5 hw5
    refine wp_seq ?_
    refine seq_plain hw5 [0, 1, 2, 3, 4, 5, 6, 7, 8, 9, 10, 11, 12, 13, 14, 15, 16, 17, 18] (by rfl) ?_
    refine lv (.bool false) (h := ?_)
    refine lv (.slice (some ⟨b0, o0, none⟩) L0 C0) (h := ?_)
    refine L_val (.int .i64 (L0 : Int)) (by rfl) (by rfl) (gives_len _ L0 C0 und_u8s (by rfl)) ?_
    refine lv (.int .i64 96) (h := ?_)
    refine L_val (.bool true) (by rfl) (by rfl) (gives_ieq (k := .i64) ((L0 : Int)) (96) true (by rfl) (by rfl) (decide_eq_true (by omega))) ?_
    refine lv (.bool true) (h := ?_)
    refine lv (.bool true) (h := ?_)
    refine lS (dj := 41) (h := ?_)
    refine lS (dj := 41) (h := ?_)
    refine lSu (dj := 43) (h := ?_)
    refine lSu (dj := 43) (h := ?_)
    refine lS (dj := 41) (h := ?_)
    refine lv (.bool true) (h := ?_)
    refine lv (.bool true) (h := ?_)
    refine lS (dj := 48) (h := ?_)
    refine lS (dj := 48) (h := ?_)
    refine lSu (dj := 50) (h := ?_)
    refine lS (dj := 48) (h := ?_)
    refine lv (.bool true) (h := ?_)
    refine L_end ?_
    intro w6 hw6
    refine wp_cond_true (fr_at _ _ (by rfl) _) ?_
    refine seq_plain hw6 [0, 1] (by rfl) ?_
    refine lv (.int .i64 11) (h := ?_)
    refine lv (.bool false) (h := ?_)
    refine L_end ?_
    intro w7 hw7
    refine wp_ret ?_
    change bodyPost _ _ _ Exit.ret _ _
    refine (ret_tmp_tmp (by rfl) (by rfl) (by rfl) (by rfl) ⟨(), false, (congrArg (fun z => Ending.returned (.tuple #[Value.int .i64 z, Value.bool false])) (if_neg (show ¬ frm bs0 true = true from fun h => by have := (gt_oct ho0 0).1; have := (gt_oct ho0 0).2; rcases frm_t.1 h with h | h | ⟨h, hb⟩ <;> omega) : (if frm bs0 true = true then (0 : Int) else 11) = 11).symm), fun h => absurd h (show ¬ frm bs0 true = true from fun h => by have := (gt_oct ho0 0).1; have := (gt_oct ho0 0).2; rcases frm_t.1 h with h | h | ⟨h, hb⟩ <;> omega), hw7.below⟩)
   ·
    refine L_val (.bool true) (by rfl) (by rfl) (gives_ine (k := .u8) (32 * (gt bs0 0 / 32 % 2)) (0) true (by rfl) (by rfl) (decide_eq_true (by omega))) ?_
    refine lv (.bool true) (h := ?_)
    refine L_end ?_
    intro w5 hw5
    refine wp_seq ?_
    refine seq_plain hw5 [0, 1, 2, 3, 4, 5, 6, 7, 8, 9, 10, 11, 12, 13, 14, 15, 16, 17, 18] (by rfl) ?_
    refine lv (.bool false) (h := ?_)
    refine lv (.slice (some ⟨b0, o0, none⟩) L0 C0) (h := ?_)
    refine L_val (.int .i64 (L0 : Int)) (by rfl) (by rfl) (gives_len _ L0 C0 und_u8s (by rfl)) ?_
    refine lv (.int .i64 96) (h := ?_)
    refine L_val (.bool true) (by rfl) (by rfl) (gives_ieq (k := .i64) ((L0 : Int)) (96) true (by rfl) (by rfl) (decide_eq_true (by omega))) ?_
    refine lv (.bool true) (h := ?_)
    refine lv (.bool true) (h := ?_)
    refine lS (dj := 41) (h := ?_)
    refine lS (dj := 41) (h := ?_)
    refine lSu (dj := 43) (h := ?_)
    refine lSu (dj := 43) (h := ?_)
    refine lS (dj := 41) (h := ?_)
    refine lv (.bool true) (h := ?_)
    refine lv (.bool true) (h := ?_)
    refine lS (dj := 48) (h := ?_)
    refine lS (dj := 48) (h := ?_)
    refine lSu (dj := 50) (h := ?_)
    refine lS (dj := 48) (h := ?_)
    refine lv (.bool true) (h := ?_)
    refine L_end ?_
    intro w6 hw6
    refine wp_cond_true (fr_at _ _ (by rfl) _) ?_
    refine seq_plain hw6 [0, 1] (by rfl) ?_
    refine lv (.int .i64 11) (h := ?_)
    refine lv (.bool false) (h := ?_)
    refine L_end ?_
    intro w7 hw7
    refine wp_ret ?_
    change bodyPost _ _ _ Exit.ret _ _
    refine (ret_tmp_tmp (by rfl) (by rfl) (by rfl) (by rfl) ⟨(), false, (congrArg (fun z => Ending.returned (.tuple #[Value.int .i64 z, Value.bool false])) (if_neg (show ¬ frm bs0 true = true from fun h => by have := (gt_oct ho0 0).1; have := (gt_oct ho0 0).2; rcases frm_t.1 h with h | h | ⟨h, hb⟩ <;> omega) : (if frm bs0 true = true then (0 : Int) else 11) = 11).symm), fun h => absurd h (show ¬ frm bs0 true = true from fun h => by have := (gt_oct ho0 0).1; have := (gt_oct ho0 0).2; rcases frm_t.1 h with h | h | ⟨h, hb⟩ <;> omega), hw7.below⟩)
  ·
   refine L_val (.bool true) (by rfl) (by rfl) (gives_ine (k := .u8) (64 * (gt bs0 0 / 64 % 2)) (0) true (by rfl) (by rfl) (decide_eq_true (by omega))) ?_
   refine lv (.bool true) (h := ?_)
   refine L_end ?_
   intro w4 hw4
   refine seq_plain hw4 [0, 1, 2, 3, 4, 5] (by rfl) ?_
   refine lv (.slice (some ⟨b0, o0, none⟩) L0 C0) (h := ?_)
   refine L_val (.pointer (some ⟨b0, o0 + 0, none⟩)) (by rfl) (by rfl) (gives_index b0 (o0) L0 C0 (0) 0 (by rfl) (by rfl) und_u8s u8_sz rfl (by omega)) ?_
   refine L_val (.int .u8 (gt bs0 0)) (by rfl) (by rfl) (gives_load_old _ (.int .u8 (gt bs0 0)) (by rfl) (fun _ h => (h.below.cell (p := ⟨b0, _, none⟩) hq0).trans (hc0 0 (by omega))) und_u8') ?_
   refine L_val (.int .u8 (32 * (gt bs0 0 / 32 % 2))) (by rfl) (by rfl) (gives_and (k := .u8) (gt bs0 0) 32 (32 * (gt bs0 0 / 32 % 2)) (by rfl) (by rfl) (and_32 _ (gt_oct ho0 _).1 (gt_oct ho0 _).2)) ?_
   by_cases hf2 : 32 * (gt bs0 0 / 32 % 2) = 0
   ·
    refine L_val (.bool false) (by rfl) (by rfl) (gives_ine (k := .u8) (32 * (gt bs0 0 / 32 % 2)) (0) false (by rfl) (by rfl) (decide_eq_false (by omega))) ?_
    refine lv (.bool false) (h := ?_)
    refine L_end ?_
    intro w5 hw5
    refine wp_seq ?_
    refine seq_plain hw5 [0, 1, 2, 3, 4, 5, 6, 7, 8, 9, 10, 11, 12, 13, 14, 15, 16, 17, 18] (by rfl) ?_
    refine lv (.bool false) (h := ?_)
    refine lv (.slice (some ⟨b0, o0, none⟩) L0 C0) (h := ?_)
    refine L_val (.int .i64 (L0 : Int)) (by rfl) (by rfl) (gives_len _ L0 C0 und_u8s (by rfl)) ?_
    refine lv (.int .i64 96) (h := ?_)
    refine L_val (.bool true) (by rfl) (by rfl) (gives_ieq (k := .i64) ((L0 : Int)) (96) true (by rfl) (by rfl) (decide_eq_true (by omega))) ?_
    refine lv (.bool true) (h := ?_)
    refine lv (.bool true) (h := ?_)
    refine lS (dj := 41) (h := ?_)
    refine lS (dj := 41) (h := ?_)
    refine lSu (dj := 43) (h := ?_)
    refine lSu (dj := 43) (h := ?_)
    refine lS (dj := 41) (h := ?_)
    refine lv (.bool true) (h := ?_)
    refine lv (.bool true) (h := ?_)
    refine lS (dj := 48) (h := ?_)
    refine lS (dj := 48) (h := ?_)
    refine lSu (dj := 50) (h := ?_)
    refine lS (dj := 48) (h := ?_)
    refine lv (.bool true) (h := ?_)
    refine L_end ?_
    intro w6 hw6
    refine wp_cond_true (fr_at _ _ (by rfl) _) ?_
    refine seq_plain hw6 [0, 1] (by rfl) ?_
    refine lv (.int .i64 11) (h := ?_)
    refine lv (.bool false) (h := ?_)
    refine L_end ?_
    intro w7 hw7
    refine wp_ret ?_
    change bodyPost _ _ _ Exit.ret _ _
    refine (ret_tmp_tmp (by rfl) (by rfl) (by rfl) (by rfl) ⟨(), false, (congrArg (fun z => Ending.returned (.tuple #[Value.int .i64 z, Value.bool false])) (if_neg (show ¬ frm bs0 true = true from fun h => by have := (gt_oct ho0 0).1; have := (gt_oct ho0 0).2; rcases frm_t.1 h with h | h | ⟨h, hb⟩ <;> omega) : (if frm bs0 true = true then (0 : Int) else 11) = 11).symm), fun h => absurd h (show ¬ frm bs0 true = true from fun h => by have := (gt_oct ho0 0).1; have := (gt_oct ho0 0).2; rcases frm_t.1 h with h | h | ⟨h, hb⟩ <;> omega), hw7.below⟩)
   ·
    refine L_val (.bool true) (by rfl) (by rfl) (gives_ine (k := .u8) (32 * (gt bs0 0 / 32 % 2)) (0) true (by rfl) (by rfl) (decide_eq_true (by omega))) ?_
    refine lv (.bool true) (h := ?_)
    refine L_end ?_
    intro w5 hw5
    refine wp_seq ?_
    refine seq_plain hw5 [0, 1, 2, 3, 4, 5, 6, 7, 8, 9, 10, 11, 12, 13, 14, 15, 16, 17, 18] (by rfl) ?_
    refine lv (.bool false) (h := ?_)
    refine lv (.slice (some ⟨b0, o0, none⟩) L0 C0) (h := ?_)
    refine L_val (.int .i64 (L0 : Int)) (by rfl) (by rfl) (gives_len _ L0 C0 und_u8s (by rfl)) ?_
    refine lv (.int .i64 96) (h := ?_)
    refine L_val (.bool true) (by rfl) (by rfl) (gives_ieq (k := .i64) ((L0 : Int)) (96) true (by rfl) (by rfl) (decide_eq_true (by omega))) ?_
    refine lv (.bool true) (h := ?_)
    refine lv (.bool true) (h := ?_)
    refine lS (dj := 41) (h := ?_)
    refine lS (dj := 41) (h := ?_)
    refine lSu (dj := 43) (h := ?_)
    refine lSu (dj := 43) (h := ?_)
    refine lS (dj := 41) (h := ?_)
    refine lv (.bool true) (h := ?_)
    refine lv (.bool true) (h := ?_)
    refine lS (dj := 48) (h := ?_)
    refine lS (dj := 48) (h := ?_)
    refine lSu (dj := 50) (h := ?_)
    refine lS (dj := 48) (h := ?_)
    refine lv (.bool true) (h := ?_)
    refine L_end ?_
    intro w6 hw6
    refine wp_cond_true (fr_at _ _ (by rfl) _) ?_
    refine seq_plain hw6 [0, 1] (by rfl) ?_
    refine lv (.int .i64 11) (h := ?_)
    refine lv (.bool false) (h := ?_)
    refine L_end ?_
    intro w7 hw7
    refine wp_ret ?_
    change bodyPost _ _ _ Exit.ret _ _
    refine (ret_tmp_tmp (by rfl) (by rfl) (by rfl) (by rfl) ⟨(), false, (congrArg (fun z => Ending.returned (.tuple #[Value.int .i64 z, Value.bool false])) (if_neg (show ¬ frm bs0 true = true from fun h => by have := (gt_oct ho0 0).1; have := (gt_oct ho0 0).2; rcases frm_t.1 h with h | h | ⟨h, hb⟩ <;> omega) : (if frm bs0 true = true then (0 : Int) else 11) = 11).symm), fun h => absurd h (show ¬ frm bs0 true = true from fun h => by have := (gt_oct ho0 0).1; have := (gt_oct ho0 0).2; rcases frm_t.1 h with h | h | ⟨h, hb⟩ <;> omega), hw7.below⟩)
set_option maxRecDepth 100000 in
set_option maxHeartbeats 4000000 in
theorem cd_marks_96_l (b0 o0 L0 C0 : Nat) (bs0 : List Int) (v : World) (hl0 : bs0.length = L0) (ho0 : Oct bs0) (hq0 : b0 < v.heap.size) (hc0 : ∀ j, j < L0 → v.cell? ⟨b0, o0 + j, none⟩ = some (.int .u8 (gt bs0 j))) (hL : L0 = 192) (hLC : L0 ≤ C0) : Calls Tryz.prog 18 #[.slice (some ⟨b0, o0, none⟩) L0 C0, .int .i64 96] v fun e w' => ∃ (u : Unit) (x : Bool), e = .returned (.tuple #[.int .i64 (if frm bs0 false = true then 0 else 11), .bool x]) ∧ (frm bs0 false = true → x = decide (¬ 64 * (gt bs0 0 / 64 % 2) = 0)) ∧ Below v.heap.size v w' := by
 refine calls_fr2 Tryz.func18 rfl (by rfl : _ = 82) (by rfl) ?_
 have hw := Hbl.nil v
 refine seq_plain hw [0, 1] (by rfl) ?_
 refine lv (.int .i64 0) (h := ?_)
 refine lv (.bool false) (h := ?_)
 refine L_end ?_
 intro w1 hw1
 refine wp_seq ?_
 refine seq_plain hw1 [0, 1, 2, 3, 4, 5, 6, 7, 8, 9, 10] (by rfl) ?_
 refine lv (.slice (some ⟨b0, o0, none⟩) L0 C0) (h := ?_)
 refine L_val (.int .i64 (L0 : Int)) (by rfl) (by rfl) (gives_len _ L0 C0 und_u8s (by rfl)) ?_
 refine lv (.int .i64 96) (h := ?_)
 refine L_val (.bool true) (by rfl) (by rfl) (gives_ine (k := .i64) ((L0 : Int)) (96) true (by rfl) (by rfl) (decide_eq_true (by omega))) ?_
 refine lv (.bool true) (h := ?_)
 refine L_val_g (dj := 14) (.slice (some ⟨b0, o0, none⟩) L0 C0) (by rfl) (by rfl) (by rfl) (by rfl) (by rfl) gv ?_
 refine L_val_g (dj := 14) (.int .i64 (L0 : Int)) (by rfl) (by rfl) (by rfl) (by rfl) (by rfl) (gives_len _ L0 C0 und_u8s (by rfl)) ?_
 refine L_val_g (dj := 14) (.int .i64 96) (by rfl) (by rfl) (by rfl) (by rfl) (by rfl) gv ?_
 refine L_val_g (dj := 14) (.int .i64 192) (by rfl) (by rfl) (by rfl) (by rfl) (by rfl) (gives_mul (k := .i64) 2 96 192 (by rfl) (by rfl) (by rfl)) ?_
 refine L_val_g (dj := 14) (.bool false) (by rfl) (by rfl) (by rfl) (by rfl) (by rfl) (gives_ine (k := .i64) ((L0 : Int)) (192) false (by rfl) (by rfl) (decide_eq_false (by omega))) ?_
 refine lv (.bool false) (h := ?_)
 refine L_end ?_
 intro w2 hw2
 refine wp_cond_false (fr_at _ _ (by rfl) _) ?_
 refine wp_skip ?_
 change Code.wp _ _ _ _ _
 refine seq_plain hw2 [0, 1, 2, 3, 4] (by rfl) ?_
 refine lv (.slice (some ⟨b0, o0, none⟩) L0 C0) (h := ?_)
 refine L_val (.pointer (some ⟨b0, o0 + 0, none⟩)) (by rfl) (by rfl) (gives_index b0 (o0) L0 C0 (0) 0 (by rfl) (by rfl) und_u8s u8_sz rfl (by omega)) ?_
 refine L_val (.int .u8 (gt bs0 0)) (by rfl) (by rfl) (gives_load_old _ (.int .u8 (gt bs0 0)) (by rfl) (fun _ h => (h.below.cell (p := ⟨b0, _, none⟩) hq0).trans (hc0 0 (by omega))) und_u8') ?_
 by_cases hf0 : 128 ≤ (gt bs0 0)
 ·
  refine L_val (.bool true) (by rfl) (by rfl) (gives_geq (k := .u8) (gt bs0 0) (128) true (by rfl) (by rfl) (decide_eq_true (by omega))) ?_
  refine lv (.bool true) (h := ?_)
  refine L_end ?_
  intro w3 hw3
  refine seq_plain hw3 [0, 1, 2, 3, 4, 5] (by rfl) ?_
  refine lv (.slice (some ⟨b0, o0, none⟩) L0 C0) (h := ?_)
  refine L_val (.pointer (some ⟨b0, o0 + 0, none⟩)) (by rfl) (by rfl) (gives_index b0 (o0) L0 C0 (0) 0 (by rfl) (by rfl) und_u8s u8_sz rfl (by omega)) ?_
  refine L_val (.int .u8 (gt bs0 0)) (by rfl) (by rfl) (gives_load_old _ (.int .u8 (gt bs0 0)) (by rfl) (fun _ h => (h.below.cell (p := ⟨b0, _, none⟩) hq0).trans (hc0 0 (by omega))) und_u8') ?_
  refine L_val (.int .u8 (64 * (gt bs0 0 / 64 % 2))) (by rfl) (by rfl) (gives_and (k := .u8) (gt bs0 0) 64 (64 * (gt bs0 0 / 64 % 2)) (by rfl) (by rfl) (and_64 _ (gt_oct ho0 _).1 (gt_oct ho0 _).2)) ?_
  by_cases hf1 : 64 * (gt bs0 0 / 64 % 2) = 0
  ·
   refine L_val (.bool false) (by rfl) (by rfl) (gives_ine (k := .u8) (64 * (gt bs0 0 / 64 % 2)) (0) false (by rfl) (by rfl) (decide_eq_false (by omega))) ?_
   refine lv (.bool false) (h := ?_)
   refine L_end ?_
   intro w4 hw4
   refine seq_plain hw4 [0, 1, 2, 3, 4, 5] (by rfl) ?_
   refine lv (.slice (some ⟨b0, o0, none⟩) L0 C0) (h := ?_)
   refine L_val (.pointer (some ⟨b0, o0 + 0, none⟩)) (by rfl) (by rfl) (gives_index b0 (o0) L0 C0 (0) 0 (by rfl) (by rfl) und_u8s u8_sz rfl (by omega)) ?_
   refine L_val (.int .u8 (gt bs0 0)) (by rfl) (by rfl) (gives_load_old _ (.int .u8 (gt bs0 0)) (by rfl) (fun _ h => (h.below.cell (p := ⟨b0, _, none⟩) hq0).trans (hc0 0 (by omega))) und_u8') ?_
   refine L_val (.int .u8 (32 * (gt bs0 0 / 32 % 2))) (by rfl) (by rfl) (gives_and (k := .u8) (gt bs0 0) 32 (32 * (gt bs0 0 / 32 % 2)) (by rfl) (by rfl) (and_32 _ (gt_oct ho0 _).1 (gt_oct ho0 _).2)) ?_
   by_cases hf2 : 32 * (gt bs0 0 / 32 % 2) = 0
   ·
    refine L_val (.bool false) (by rfl) (by rfl) (gives_ine (k := .u8) (32 * (gt bs0 0 / 32 % 2)) (0) false (by rfl) (by rfl) (decide_eq_false (by omega))) ?_
    refine lv (.bool false) (h := ?_)
    refine L_end ?_
    intro w5 hw5
    refine wp_seq ?_
    refine seq_plain hw5 [0, 1, 2, 3, 4, 5, 6, 7, 8, 9, 10, 11, 12, 13, 14, 15, 16, 17, 18] (by rfl) ?_
    refine lv (.bool true) (h := ?_)
    refine lv (.slice (some ⟨b0, o0, none⟩) L0 C0) (h := ?_)
    refine L_val (.int .i64 (L0 : Int)) (by rfl) (by rfl) (gives_len _ L0 C0 und_u8s (by rfl)) ?_
    refine lv (.int .i64 96) (h := ?_)
    refine L_val (.bool false) (by rfl) (by rfl) (gives_ieq (k := .i64) ((L0 : Int)) (96) false (by rfl) (by rfl) (decide_eq_false (by omega))) ?_
    refine lv (.bool true) (h := ?_)
    refine lv (.bool true) (h := ?_)
    refine lS (dj := 41) (h := ?_)
    refine lS (dj := 41) (h := ?_)
    refine lSu (dj := 43) (h := ?_)
    refine lSu (dj := 43) (h := ?_)
    refine lS (dj := 41) (h := ?_)
    refine lv (.bool true) (h := ?_)
    refine lv (.bool true) (h := ?_)
    refine lS (dj := 48) (h := ?_)
    refine lS (dj := 48) (h := ?_)
    refine lSu (dj := 50) (h := ?_)
    refine lS (dj := 48) (h := ?_)
    refine lv (.bool true) (h := ?_)
    refine L_end ?_
    intro w6 hw6
    refine wp_cond_true (fr_at _ _ (by rfl) _) ?_
    refine seq_plain hw6 [0, 1] (by rfl) ?_
    refine lv (.int .i64 11) (h := ?_)
    refine lv (.bool false) (h := ?_)
    refine L_end ?_
    intro w7 hw7
    refine wp_ret ?_
    change bodyPost _ _ _ Exit.ret _ _
    refine (ret_tmp_tmp (by rfl) (by rfl) (by rfl) (by rfl) ⟨(), false, (congrArg (fun z => Ending.returned (.tuple #[Value.int .i64 z, Value.bool false])) (if_neg (show ¬ frm bs0 false = true from fun h => by have := (gt_oct ho0 0).1; have := (gt_oct ho0 0).2; rcases frm_f.1 h with h | ⟨h, hb⟩ <;> omega) : (if frm bs0 false = true then (0 : Int) else 11) = 11).symm), fun h => absurd h (show ¬ frm bs0 false = true from fun h => by have := (gt_oct ho0 0).1; have := (gt_oct ho0 0).2; rcases frm_f.1 h with h | ⟨h, hb⟩ <;> omega), hw7.below⟩)
   ·
    refine L_val (.bool true) (by rfl) (by rfl) (gives_ine (k := .u8) (32 * (gt bs0 0 / 32 % 2)) (0) true (by rfl) (by rfl) (decide_eq_true (by omega))) ?_
    refine lv (.bool true) (h := ?_)
    refine L_end ?_
    intro w5 hw5
    refine wp_seq ?_
    refine seq_plain hw5 [0, 1, 2, 3, 4, 5, 6, 7, 8, 9, 10, 11, 12, 13, 14, 15, 16, 17, 18] (by rfl) ?_
    refine lv (.bool true) (h := ?_)
    refine lv (.slice (some ⟨b0, o0, none⟩) L0 C0) (h := ?_)
    refine L_val (.int .i64 (L0 : Int)) (by rfl) (by rfl) (gives_len _ L0 C0 und_u8s (by rfl)) ?_
    refine lv (.int .i64 96) (h := ?_)
    refine L_val (.bool false) (by rfl) (by rfl) (gives_ieq (k := .i64) ((L0 : Int)) (96) false (by rfl) (by rfl) (decide_eq_false (by omega))) ?_
    refine lv (.bool true) (h := ?_)
    refine lv (.bool true) (h := ?_)
    refine lS (dj := 41) (h := ?_)
    refine lS (dj := 41) (h := ?_)
    refine lSu (dj := 43) (h := ?_)
    refine lSu (dj := 43) (h := ?_)
    refine lS (dj := 41) (h := ?_)
    refine lv (.bool true) (h := ?_)
    refine lv (.bool true) (h := ?_)
    refine lS (dj := 48) (h := ?_)
    refine lS (dj := 48) (h := ?_)
    refine lSu (dj := 50) (h := ?_)
    refine lS (dj := 48) (h := ?_)
    refine lv (.bool true) (h := ?_)
    refine L_end ?_
    intro w6 hw6
    refine wp_cond_true (fr_at _ _ (by rfl) _) ?_
    refine seq_plain hw6 [0, 1] (by rfl) ?_
    refine lv (.int .i64 11) (h := ?_)
    refine lv (.bool false) (h := ?_)
    refine L_end ?_
    intro w7 hw7
    refine wp_ret ?_
    change bodyPost _ _ _ Exit.ret _ _
    refine (ret_tmp_tmp (by rfl) (by rfl) (by rfl) (by rfl) ⟨(), false, (congrArg (fun z => Ending.returned (.tuple #[Value.int .i64 z, Value.bool false])) (if_neg (show ¬ frm bs0 false = true from fun h => by have := (gt_oct ho0 0).1; have := (gt_oct ho0 0).2; rcases frm_f.1 h with h | ⟨h, hb⟩ <;> omega) : (if frm bs0 false = true then (0 : Int) else 11) = 11).symm), fun h => absurd h (show ¬ frm bs0 false = true from fun h => by have := (gt_oct ho0 0).1; have := (gt_oct ho0 0).2; rcases frm_f.1 h with h | ⟨h, hb⟩ <;> omega), hw7.below⟩)
  ·
   refine L_val (.bool true) (by rfl) (by rfl) (gives_ine (k := .u8) (64 * (gt bs0 0 / 64 % 2)) (0) true (by rfl) (by rfl) (decide_eq_true (by omega))) ?_
   refine lv (.bool true) (h := ?_)
   refine L_end ?_
   intro w4 hw4
   refine seq_plain hw4 [0, 1, 2, 3, 4, 5] (by rfl) ?_
   refine lv (.slice (some ⟨b0, o0, none⟩) L0 C0) (h := ?_)
   refine L_val (.pointer (some ⟨b0, o0 + 0, none⟩)) (by rfl) (by rfl) (gives_index b0 (o0) L0 C0 (0) 0 (by rfl) (by rfl) und_u8s u8_sz rfl (by omega)) ?_
   refine L_val (.int .u8 (gt bs0 0)) (by rfl) (by rfl) (gives_load_old _ (.int .u8 (gt bs0 0)) (by rfl) (fun _ h => (h.below.cell (p := ⟨b0, _, none⟩) hq0).trans (hc0 0 (by omega))) und_u8') ?_
   refine L_val (.int .u8 (32 * (gt bs0 0 / 32 % 2))) (by rfl) (by rfl) (gives_and (k := .u8) (gt bs0 0) 32 (32 * (gt bs0 0 / 32 % 2)) (by rfl) (by rfl) (and_32 _ (gt_oct ho0 _).1 (gt_oct ho0 _).2)) ?_
   by_cases hf2 : 32 * (gt bs0 0 / 32 % 2) = 0
   ·
    refine L_val (.bool false) (by rfl) (by rfl) (gives_ine (k := .u8) (32 * (gt bs0 0 / 32 % 2)) (0) false (by rfl) (by rfl) (decide_eq_false (by omega))) ?_
    refine lv (.bool false) (h := ?_)
    refine L_end ?_
    intro w5 hw5
    refine wp_seq ?_
    refine seq_plain hw5 [0, 1, 2, 3, 4, 5, 6, 7, 8, 9, 10, 11, 12, 13, 14, 15, 16, 17, 18] (by rfl) ?_
    refine lv (.bool true) (h := ?_)
    refine lv (.slice (some ⟨b0, o0, none⟩) L0 C0) (h := ?_)
    refine L_val (.int .i64 (L0 : Int)) (by rfl) (by rfl) (gives_len _ L0 C0 und_u8s (by rfl)) ?_
    refine lv (.int .i64 96) (h := ?_)
    refine L_val (.bool false) (by rfl) (by rfl) (gives_ieq (k := .i64) ((L0 : Int)) (96) false (by rfl) (by rfl) (decide_eq_false (by omega))) ?_
    refine lv (.bool true) (h := ?_)
    refine lv (.bool true) (h := ?_)
    refine lS (dj := 41) (h := ?_)
    refine lS (dj := 41) (h := ?_)
    refine lSu (dj := 43) (h := ?_)
    refine lSu (dj := 43) (h := ?_)
    refine lS (dj := 41) (h := ?_)
    refine lv (.bool true) (h := ?_)
    refine lv (.bool true) (h := ?_)
    refine lS (dj := 48) (h := ?_)
    refine lS (dj := 48) (h := ?_)
    refine lSu (dj := 50) (h := ?_)
    refine lS (dj := 48) (h := ?_)
    refine lv (.bool true) (h := ?_)
    refine L_end ?_
    intro w6 hw6
    refine wp_cond_true (fr_at _ _ (by rfl) _) ?_
    refine seq_plain hw6 [0, 1] (by rfl) ?_
    refine lv (.int .i64 11) (h := ?_)
    refine lv (.bool false) (h := ?_)
    refine L_end ?_
    intro w7 hw7
    refine wp_ret ?_
    change bodyPost _ _ _ Exit.ret _ _
    refine (ret_tmp_tmp (by rfl) (by rfl) (by rfl) (by rfl) ⟨(), false, (congrArg (fun z => Ending.returned (.tuple #[Value.int .i64 z, Value.bool false])) (if_neg (show ¬ frm bs0 false = true from fun h => by have := (gt_oct ho0 0).1; have := (gt_oct ho0 0).2; rcases frm_f.1 h with h | ⟨h, hb⟩ <;> omega) : (if frm bs0 false = true then (0 : Int) else 11) = 11).symm), fun h => absurd h (show ¬ frm bs0 false = true from fun h => by have := (gt_oct ho0 0).1; have := (gt_oct ho0 0).2; rcases frm_f.1 h with h | ⟨h, hb⟩ <;> omega), hw7.below⟩)
   ·
    refine L_val (.bool true) (by rfl) (by rfl) (gives_ine (k := .u8) (32 * (gt bs0 0 / 32 % 2)) (0) true (by rfl) (by rfl) (decide_eq_true (by omega))) ?_
    refine lv (.bool true) (h := ?_)
    refine L_end ?_
    intro w5 hw5
    refine wp_seq ?_
    refine seq_plain hw5 [0, 1, 2, 3, 4, 5, 6, 7, 8, 9, 10, 11, 12, 13, 14, 15, 16, 17, 18] (by rfl) ?_
    refine lv (.bool true) (h := ?_)
    refine lv (.slice (some ⟨b0, o0, none⟩) L0 C0) (h := ?_)
    refine L_val (.int .i64 (L0 : Int)) (by rfl) (by rfl) (gives_len _ L0 C0 und_u8s (by rfl)) ?_
    refine lv (.int .i64 96) (h := ?_)
    refine L_val (.bool false) (by rfl) (by rfl) (gives_ieq (k := .i64) ((L0 : Int)) (96) false (by rfl) (by rfl) (decide_eq_false (by omega))) ?_
    refine lv (.bool true) (h := ?_)
    refine lv (.bool true) (h := ?_)
    refine lS (dj := 41) (h := ?_)
    refine lS (dj := 41) (h := ?_)
    refine lSu (dj := 43) (h := ?_)
    refine lSu (dj := 43) (h := ?_)
    refine lS (dj := 41) (h := ?_)
    refine lv (.bool true) (h := ?_)
    refine lv (.bool true) (h := ?_)
    refine lS (dj := 48) (h := ?_)
    refine lS (dj := 48) (h := ?_)
    refine lSu (dj := 50) (h := ?_)
    refine lS (dj := 48) (h := ?_)
    refine lv (.bool true) (h := ?_)
    refine L_end ?_
    intro w6 hw6
    refine wp_cond_true (fr_at _ _ (by rfl) _) ?_
    refine seq_plain hw6 [0, 1] (by rfl) ?_
    refine lv (.int .i64 11) (h := ?_)
    refine lv (.bool false) (h := ?_)
    refine L_end ?_
    intro w7 hw7
    refine wp_ret ?_
    change bodyPost _ _ _ Exit.ret _ _
    refine (ret_tmp_tmp (by rfl) (by rfl) (by rfl) (by rfl) ⟨(), false, (congrArg (fun z => Ending.returned (.tuple #[Value.int .i64 z, Value.bool false])) (if_neg (show ¬ frm bs0 false = true from fun h => by have := (gt_oct ho0 0).1; have := (gt_oct ho0 0).2; rcases frm_f.1 h with h | ⟨h, hb⟩ <;> omega) : (if frm bs0 false = true then (0 : Int) else 11) = 11).symm), fun h => absurd h (show ¬ frm bs0 false = true from fun h => by have := (gt_oct ho0 0).1; have := (gt_oct ho0 0).2; rcases frm_f.1 h with h | ⟨h, hb⟩ <;> omega), hw7.below⟩)
 ·
  refine L_val (.bool false) (by rfl) (by rfl) (gives_geq (k := .u8) (gt bs0 0) (128) false (by rfl) (by rfl) (decide_eq_false (by omega))) ?_
  refine lv (.bool false) (h := ?_)
  refine L_end ?_
  intro w3 hw3
  refine seq_plain hw3 [0, 1, 2, 3, 4, 5] (by rfl) ?_
  refine lv (.slice (some ⟨b0, o0, none⟩) L0 C0) (h := ?_)
  refine L_val (.pointer (some ⟨b0, o0 + 0, none⟩)) (by rfl) (by rfl) (gives_index b0 (o0) L0 C0 (0) 0 (by rfl) (by rfl) und_u8s u8_sz rfl (by omega)) ?_
  refine L_val (.int .u8 (gt bs0 0)) (by rfl) (by rfl) (gives_load_old _ (.int .u8 (gt bs0 0)) (by rfl) (fun _ h => (h.below.cell (p := ⟨b0, _, none⟩) hq0).trans (hc0 0 (by omega))) und_u8') ?_
  refine L_val (.int .u8 (64 * (gt bs0 0 / 64 % 2))) (by rfl) (by rfl) (gives_and (k := .u8) (gt bs0 0) 64 (64 * (gt bs0 0 / 64 % 2)) (by rfl) (by rfl) (and_64 _ (gt_oct ho0 _).1 (gt_oct ho0 _).2)) ?_
  by_cases hf1 : 64 * (gt bs0 0 / 64 % 2) = 0
  ·
   refine L_val (.bool false) (by rfl) (by rfl) (gives_ine (k := .u8) (64 * (gt bs0 0 / 64 % 2)) (0) false (by rfl) (by rfl) (decide_eq_false (by omega))) ?_
   refine lv (.bool false) (h := ?_)
   refine L_end ?_
   intro w4 hw4
   refine seq_plain hw4 [0, 1, 2, 3, 4, 5] (by rfl) ?_
   refine lv (.slice (some ⟨b0, o0, none⟩) L0 C0) (h := ?_)
   refine L_val (.pointer (some ⟨b0, o0 + 0, none⟩)) (by rfl) (by rfl) (gives_index b0 (o0) L0 C0 (0) 0 (by rfl) (by rfl) und_u8s u8_sz rfl (by omega)) ?_
   refine L_val (.int .u8 (gt bs0 0)) (by rfl) (by rfl) (gives_load_old _ (.int .u8 (gt bs0 0)) (by rfl) (fun _ h => (h.below.cell (p := ⟨b0, _, none⟩) hq0).trans (hc0 0 (by omega))) und_u8') ?_
   refine L_val (.int .u8 (32 * (gt bs0 0 / 32 % 2))) (by rfl) (by rfl) (gives_and (k := .u8) (gt bs0 0) 32 (32 * (gt bs0 0 / 32 % 2)) (by rfl) (by rfl) (and_32 _ (gt_oct ho0 _).1 (gt_oct ho0 _).2)) ?_
   by_cases hf2 : 32 * (gt bs0 0 / 32 % 2) = 0
   ·
    refine L_val (.bool false) (by rfl) (by rfl) (gives_ine (k := .u8) (32 * (gt bs0 0 / 32 % 2)) (0) false (by rfl) (by rfl) (decide_eq_false (by omega))) ?_
    refine lv (.bool false) (h := ?_)
    refine L_end ?_
    intro w5 hw5
    refine wp_seq ?_
    refine seq_plain hw5 [0, 1, 2, 3, 4, 5, 6, 7, 8, 9, 10, 11, 12, 13, 14, 15, 16, 17, 18] (by rfl) ?_
    refine lv (.bool false) (h := ?_)
    refine lv (.slice (some ⟨b0, o0, none⟩) L0 C0) (h := ?_)
    refine L_val (.int .i64 (L0 : Int)) (by rfl) (by rfl) (gives_len _ L0 C0 und_u8s (by rfl)) ?_
    refine lv (.int .i64 96) (h := ?_)
    refine L_val (.bool false) (by rfl) (by rfl) (gives_ieq (k := .i64) ((L0 : Int)) (96) false (by rfl) (by rfl) (decide_eq_false (by omega))) ?_
    refine lv (.bool false) (h := ?_)
    refine lv (.bool false) (h := ?_)
    refine L_val_g (dj := 41) (.bool false) (by rfl) (by rfl) (by rfl) (by rfl) (by rfl) gv ?_
    refine L_val_g (dj := 41) (.bool false) (by rfl) (by rfl) (by rfl) (by rfl) (by rfl) gv ?_
    refine lS (dj := 43) (h := ?_)
    refine lS (dj := 43) (h := ?_)
    refine L_val_g (dj := 41) (.bool false) (by rfl) (by rfl) (by rfl) (by rfl) (by rfl) gv ?_
    refine lv (.bool false) (h := ?_)
    refine lv (.bool false) (h := ?_)
    refine L_val_g (dj := 48) (.bool false) (by rfl) (by rfl) (by rfl) (by rfl) (by rfl) gv ?_
    refine L_val_g (dj := 48) (.bool false) (by rfl) (by rfl) (by rfl) (by rfl) (by rfl) gv ?_
    refine lS (dj := 50) (h := ?_)
    refine L_val_g (dj := 48) (.bool false) (by rfl) (by rfl) (by rfl) (by rfl) (by rfl) gv ?_
    refine lv (.bool false) (h := ?_)
    refine L_end ?_
    intro w6 hw6
    refine wp_cond_false (fr_at _ _ (by rfl) _) ?_
    refine wp_skip ?_
    change Code.wp _ _ _ _ _
    refine wp_seq ?_
    refine seq_plain hw6 [0] (by rfl) ?_
    refine lv (.bool false) (h := ?_)
    refine L_end ?_
    intro w7 hw7
    refine wp_cond_false (fr_at _ _ (by rfl) _) ?_
    refine wp_skip ?_
    change Code.wp _ _ _ _ _
    refine seq_plain hw7 [0, 1, 2] (by rfl) ?_
    refine lv (.bool false) (h := ?_)
    refine lv (.int .i64 0) (h := ?_)
    refine lv (.bool false) (h := ?_)
    refine L_end ?_
    intro w8 hw8
    refine wp_ret ?_
    change bodyPost _ _ _ Exit.ret _ _
    refine (ret_tmp_tmp (by rfl) (by rfl) (by rfl) (by rfl) ⟨(), false, (congrArg (fun z => Ending.returned (.tuple #[Value.int .i64 z, Value.bool false])) (if_pos (frm_f.2 (by have := (gt_oct ho0 0).1; have := (gt_oct ho0 0).2; omega)) : (if frm bs0 false = true then (0 : Int) else 11) = 0).symm), fun _ => (decide_eq_false (by omega)).symm, hw8.below⟩)
   ·
    refine L_val (.bool true) (by rfl) (by rfl) (gives_ine (k := .u8) (32 * (gt bs0 0 / 32 % 2)) (0) true (by rfl) (by rfl) (decide_eq_true (by omega))) ?_
    refine lv (.bool true) (h := ?_)
    refine L_end ?_
    intro w5 hw5
    refine wp_seq ?_
    refine seq_plain hw5 [0, 1, 2, 3, 4, 5, 6, 7, 8, 9, 10, 11, 12, 13, 14, 15, 16, 17, 18] (by rfl) ?_
    refine lv (.bool false) (h := ?_)
    refine lv (.slice (some ⟨b0, o0, none⟩) L0 C0) (h := ?_)
    refine L_val (.int .i64 (L0 : Int)) (by rfl) (by rfl) (gives_len _ L0 C0 und_u8s (by rfl)) ?_
    refine lv (.int .i64 96) (h := ?_)
    refine L_val (.bool false) (by rfl) (by rfl) (gives_ieq (k := .i64) ((L0 : Int)) (96) false (by rfl) (by rfl) (decide_eq_false (by omega))) ?_
    refine lv (.bool false) (h := ?_)
    refine lv (.bool false) (h := ?_)
    refine L_val_g (dj := 41) (.bool true) (by rfl) (by rfl) (by rfl) (by rfl) (by rfl) gv ?_
    refine L_val_g (dj := 41) (.bool true) (by rfl) (by rfl) (by rfl) (by rfl) (by rfl) gv ?_
    refine L_val_g (dj := 43) (.bool false) (by rfl) (by rfl) (by rfl) (by rfl) (by rfl) gv ?_
    refine L_val_g (dj := 43) (.bool true) (by rfl) (by rfl) (by rfl) (by rfl) (by rfl) gv ?_
    refine L_val_g (dj := 41) (.bool true) (by rfl) (by rfl) (by rfl) (by rfl) (by rfl) gv ?_
    refine lv (.bool true) (h := ?_)
    refine lv (.bool true) (h := ?_)
    refine lS (dj := 48) (h := ?_)
    refine lS (dj := 48) (h := ?_)
    refine lSu (dj := 50) (h := ?_)
    refine lS (dj := 48) (h := ?_)
    refine lv (.bool true) (h := ?_)
    refine L_end ?_
    intro w6 hw6
    refine wp_cond_true (fr_at _ _ (by rfl) _) ?_
    refine seq_plain hw6 [0, 1] (by rfl) ?_
    refine lv (.int .i64 11) (h := ?_)
    refine lv (.bool false) (h := ?_)
    refine L_end ?_
    intro w7 hw7
    refine wp_ret ?_
    change bodyPost _ _ _ Exit.ret _ _
    refine (ret_tmp_tmp (by rfl) (by rfl) (by rfl) (by rfl) ⟨(), false, (congrArg (fun z => Ending.returned (.tuple #[Value.int .i64 z, Value.bool false])) (if_neg (show ¬ frm bs0 false = true from fun h => by have := (gt_oct ho0 0).1; have := (gt_oct ho0 0).2; rcases frm_f.1 h with h | ⟨h, hb⟩ <;> omega) : (if frm bs0 false = true then (0 : Int) else 11) = 11).symm), fun h => absurd h (show ¬ frm bs0 false = true from fun h => by have := (gt_oct ho0 0).1; have := (gt_oct ho0 0).2; rcases frm_f.1 h with h | ⟨h, hb⟩ <;> omega), hw7.below⟩)
  ·
   refine L_val (.bool true) (by rfl) (by rfl) (gives_ine (k := .u8) (64 * (gt bs0 0 / 64 % 2)) (0) true (by rfl) (by rfl) (decide_eq_true (by omega))) ?_
   refine lv (.bool true) (h := ?_)
   refine L_end ?_
   intro w4 hw4
   refine seq_plain hw4 [0, 1, 2, 3, 4, 5] (by rfl) ?_
   refine lv (.slice (some ⟨b0, o0, none⟩) L0 C0) (h := ?_)
   refine L_val (.pointer (some ⟨b0, o0 + 0, none⟩)) (by rfl) (by rfl) (gives_index b0 (o0) L0 C0 (0) 0 (by rfl) (by rfl) und_u8s u8_sz rfl (by omega)) ?_
   refine L_val (.int .u8 (gt bs0 0)) (by rfl) (by rfl) (gives_load_old _ (.int .u8 (gt bs0 0)) (by rfl) (fun _ h => (h.below.cell (p := ⟨b0, _, none⟩) hq0).trans (hc0 0 (by omega))) und_u8') ?_
   refine L_val (.int .u8 (32 * (gt bs0 0 / 32 % 2))) (by rfl) (by rfl) (gives_and (k := .u8) (gt bs0 0) 32 (32 * (gt bs0 0 / 32 % 2)) (by rfl) (by rfl) (and_32 _ (gt_oct ho0 _).1 (gt_oct ho0 _).2)) ?_
   by_cases hf2 : 32 * (gt bs0 0 / 32 % 2) = 0
   ·
    refine L_val (.bool false) (by rfl) (by rfl) (gives_ine (k := .u8) (32 * (gt bs0 0 / 32 % 2)) (0) false (by rfl) (by rfl) (decide_eq_false (by omega))) ?_
    refine lv (.bool false) (h := ?_)
    refine L_end ?_
    intro w5 hw5
    refine wp_seq ?_
    refine seq_plain hw5 [0, 1, 2, 3, 4, 5, 6, 7, 8, 9, 10, 11, 12, 13, 14, 15, 16, 17, 18] (by rfl) ?_
    refine lv (.bool false) (h := ?_)
    refine lv (.slice (some ⟨b0, o0, none⟩) L0 C0) (h := ?_)
    refine L_val (.int .i64 (L0 : Int)) (by rfl) (by rfl) (gives_len _ L0 C0 und_u8s (by rfl)) ?_
    refine lv (.int .i64 96) (h := ?_)
    refine L_val (.bool false) (by rfl) (by rfl) (gives_ieq (k := .i64) ((L0 : Int)) (96) false (by rfl) (by rfl) (decide_eq_false (by omega))) ?_
    refine lv (.bool false) (h := ?_)
    refine lv (.bool false) (h := ?_)
    refine L_val_g (dj := 41) (.bool false) (by rfl) (by rfl) (by rfl) (by rfl) (by rfl) gv ?_
    refine L_val_g (dj := 41) (.bool false) (by rfl) (by rfl) (by rfl) (by rfl) (by rfl) gv ?_
    refine lS (dj := 43) (h := ?_)
    refine lS (dj := 43) (h := ?_)
    refine L_val_g (dj := 41) (.bool false) (by rfl) (by rfl) (by rfl) (by rfl) (by rfl) gv ?_
    refine lv (.bool false) (h := ?_)
    refine lv (.bool false) (h := ?_)
    refine L_val_g (dj := 48) (.bool false) (by rfl) (by rfl) (by rfl) (by rfl) (by rfl) gv ?_
    refine L_val_g (dj := 48) (.bool false) (by rfl) (by rfl) (by rfl) (by rfl) (by rfl) gv ?_
    refine lS (dj := 50) (h := ?_)
    refine L_val_g (dj := 48) (.bool false) (by rfl) (by rfl) (by rfl) (by rfl) (by rfl) gv ?_
    refine lv (.bool false) (h := ?_)
    refine L_end ?_
    intro w6 hw6
    refine wp_cond_false (fr_at _ _ (by rfl) _) ?_
    refine wp_skip ?_
    change Code.wp _ _ _ _ _
    refine wp_seq ?_
    refine seq_plain hw6 [0] (by rfl) ?_
    refine lv (.bool true) (h := ?_)
    refine L_end ?_
    intro w7 hw7
    refine wp_cond_true (fr_at _ _ (by rfl) _) ?_
    refine seq_plain hw7 [0, 1, 2] (by rfl) ?_
    refine lv (.slice (some ⟨b0, o0, none⟩) L0 C0) (h := ?_)
    refine L_val (.int .i64 (L0 : Int)) (by rfl) (by rfl) (gives_len _ L0 C0 und_u8s (by rfl)) ?_
    refine lv (.int .i64 0) (h := ?_)
    refine L_end ?_
    intro w8 hw8
    refine wp_block ?_
    refine loop_down (fun (r_ : Nat) a w => ∃ (k : Nat) (l_1 : List (Nat × Value)), L0 - k = r_ ∧ inFr 82 l_1 = true ∧ a = fr 82 ((0, .slice (some ⟨b0, o0, none⟩) L0 C0) :: (7, .bool true) :: (56, .int .i64 (L0 : Int)) :: (57, .int .i64 (k : Int)) :: l_1) ∧ (k ≤ L0) ∧ (∀ i, i < k → (i = 0 → gt bs0 0 % 32 = 0) ∧ (0 < i → gt bs0 i = 0)) ∧ Hbl v [] w) ?_ _ _ _ ⟨0, [(57, .int .i64 0), (56, .int .i64 (L0 : Int)), (55, .slice (some ⟨b0, o0, none⟩) L0 C0), (54, .bool true), (53, .bool false), (52, .bool false), (51, undef), (50, .bool false), (49, .bool false), (48, .bool false), (47, .bool false), (46, .bool false), (45, undef), (44, undef), (43, .bool false), (42, .bool false), (41, .bool false), (40, .bool false), (39, .bool false), (38, .int .i64 96), (37, .int .i64 (L0 : Int)), (36, .slice (some ⟨b0, o0, none⟩) L0 C0), (35, .bool false), (8, .bool false), (34, .bool false), (33, .int .u8 (32 * (gt bs0 0 / 32 % 2))), (32, .int .u8 (gt bs0 0)), (31, .pointer (some ⟨b0, o0 + 0, none⟩)), (30, .slice (some ⟨b0, o0, none⟩) L0 C0), (7, .bool true), (29, .bool true), (28, .int .u8 (64 * (gt bs0 0 / 64 % 2))), (27, .int .u8 (gt bs0 0)), (26, .pointer (some ⟨b0, o0 + 0, none⟩)), (25, .slice (some ⟨b0, o0, none⟩) L0 C0), (6, .bool false), (24, .bool false), (23, .int .u8 (gt bs0 0)), (22, .pointer (some ⟨b0, o0 + 0, none⟩)), (21, .slice (some ⟨b0, o0, none⟩) L0 C0), (20, .bool false), (19, .bool false), (18, .int .i64 192), (17, .int .i64 96), (16, .int .i64 (L0 : Int)), (15, .slice (some ⟨b0, o0, none⟩) L0 C0), (14, .bool true), (13, .bool true), (12, .int .i64 96), (11, .int .i64 (L0 : Int)), (10, .slice (some ⟨b0, o0, none⟩) L0 C0), (5, .bool false), (4, .int .i64 0), (1, .int .i64 96), (0, .slice (some ⟨b0, o0, none⟩) L0 C0)], rfl, (by rfl), (Eq.trans (Eq.trans (Eq.trans (fr_dup _ _ 57 _ (by rfl) (by rfl) (by exact (congrArg (Value.int .i64) (by omega)))).symm (fr_dup _ _ 56 _ (by rfl) (by rfl) (by rfl)).symm) (fr_dup _ _ 7 _ (by rfl) (by rfl) (by rfl)).symm) (fr_dup _ _ 0 _ (by rfl) (by rfl) (by rfl)).symm), Nat.zero_le _, (fun i hi => absurd hi (by omega)), hw8⟩
    rintro r_1 a0 w0_1 ⟨k, l_1, hr_1, hl_1, rfl, hk, hI, hw0_1⟩
    rcases marks_ways bs0 k L0 with ⟨hlt, hk0, hz⟩ | ⟨hlt, hk0, hz⟩ | ⟨hlt, hk0, hz⟩ | ⟨hlt, hk0, hz⟩ | hlt
    ·
     have hnb : ¬ blkB bs0 = true := fun hb => by have h1 := (blkB_iff.1 hb).1; have h2 := (blkB_iff.1 hb).2 k; omega
     refine seq_plain hw0_1 [0] (by rfl) ?_
     refine L_val (.bool true) (by rfl) (by exact hl_1) (gives_lss (k := .i64) ((k : Int)) ((L0 : Int)) true (by rfl) (by rfl) (decide_eq_true (by omega))) ?_
     refine L_end ?_
     intro w9 hw9
     refine wp_seq ?_
     refine wp_cond_true (fr_at _ _ (by exact hl_1) _) ?_
     refine wp_skip ?_
     change Code.wp _ _ _ _ _
     refine wp_seq ?_
     refine wp_block ?_
     refine seq_plain hw9 [0, 1] (by rfl) ?_
     refine L_val (.int .i64 (k : Int)) (by rfl) (by exact hl_1) gv ?_
     refine L_val (.int .i64 (k : Int)) (by rfl) (by exact hl_1) gv ?_
     refine L_end ?_
     intro w10 hw10
     refine seq_plain hw10 [0, 1, 2, 3, 4, 5, 6, 7, 8, 9, 10, 11, 12, 13, 14, 15, 16, 17, 18, 19] (by rfl) ?_
     refine L_val (.int .i64 (k : Int)) (by rfl) (by exact hl_1) gv ?_
     refine L_val (.bool false) (by rfl) (by exact hl_1) (gives_gtr (k := .i64) ((k : Int)) (0) false (by rfl) (by rfl) (decide_eq_false (by omega))) ?_
     refine L_val (.bool false) (by rfl) (by exact hl_1) gv ?_
     refine L_skip (dj := 62) (by rfl) (by exact hl_1) (by rfl) (by rfl) (by rfl) ?_
     refine L_skip (dj := 62) (by rfl) (by exact hl_1) (by rfl) (by rfl) (by rfl) ?_
     refine L_skip (dj := 62) (by rfl) (by exact hl_1) (by rfl) (by rfl) (by rfl) ?_
     refine L_skip (dj := 62) (by rfl) (by exact hl_1) (by rfl) (by rfl) (by rfl) ?_
     refine L_skip (dj := 62) (by rfl) (by exact hl_1) (by rfl) (by rfl) (by rfl) ?_
     refine L_val (.bool false) (by rfl) (by exact hl_1) gv ?_
     refine L_val (.bool false) (by rfl) (by exact hl_1) gv ?_
     refine L_val_g (dj := 69) (.int .i64 (k : Int)) (by rfl) (by exact hl_1) (by rfl) (by rfl) (by rfl) gv ?_
     refine L_val_g (dj := 69) (.bool true) (by rfl) (by exact hl_1) (by rfl) (by rfl) (by rfl) (gives_ieq (k := .i64) ((k : Int)) (0) true (by rfl) (by rfl) (decide_eq_true (by omega))) ?_
     refine L_val_g (dj := 69) (.bool true) (by rfl) (by exact hl_1) (by rfl) (by rfl) (by rfl) gv ?_
     refine L_val_g (dj := 72) (.slice (some ⟨b0, o0, none⟩) L0 C0) (by rfl) (by exact hl_1) (by rfl) (by rfl) (by rfl) gv ?_
     refine L_val_g (dj := 72) (.pointer (some ⟨b0, o0 + 0, none⟩)) (by rfl) (by exact hl_1) (by rfl) (by rfl) (by rfl) (gives_index b0 (o0) L0 C0 (0) 0 (by rfl) (by rfl) und_u8s u8_sz rfl (by omega)) ?_
     refine L_val_g (dj := 72) (.int .u8 (gt bs0 0)) (by rfl) (by exact hl_1) (by rfl) (by rfl) (by rfl) (gives_load_old _ (.int .u8 (gt bs0 0)) (by rfl) (fun _ h => (h.below.cell (p := ⟨b0, _, none⟩) hq0).trans (hc0 0 (by omega))) und_u8') ?_
     refine L_val_g (dj := 72) (.int .u8 (gt bs0 0 % 32)) (by rfl) (by exact hl_1) (by rfl) (by rfl) (by rfl) (gives_and (k := .u8) (gt bs0 0) 31 (gt bs0 0 % 32) (by rfl) (by rfl) (and_31b _ (gt_oct ho0 _).1 (gt_oct ho0 _).2)) ?_
     refine L_val_g (dj := 72) (.bool true) (by rfl) (by exact hl_1) (by rfl) (by rfl) (by rfl) (gives_ine (k := .u8) (gt bs0 0 % 32) (0) true (by rfl) (by rfl) (decide_eq_true (by omega))) ?_
     refine L_val_g (dj := 69) (.bool true) (by rfl) (by exact hl_1) (by rfl) (by rfl) (by rfl) gv ?_
     refine L_val (.bool true) (by rfl) (by exact hl_1) gv ?_
     refine L_end ?_
     intro w11 hw11
     refine wp_cond_true (fr_at _ _ (by exact hl_1) _) ?_
     refine seq_plain hw11 [0, 1] (by rfl) ?_
     refine L_val (.int .i64 11) (by rfl) (by exact hl_1) gv ?_
     refine L_val (.bool true) (by rfl) (by exact hl_1) gv ?_
     refine L_end ?_
     intro w12 hw12
     refine wp_ret ?_
     change bodyPost _ _ _ Exit.ret _ _
     refine (ret_tmp_tmp (by rfl) (by exact hl_1) (by rfl) (by rfl) ⟨(), true, (congrArg (fun z => Ending.returned (.tuple #[Value.int .i64 z, Value.bool true])) (if_neg (show ¬ frm bs0 false = true from fun h => by have := (gt_oct ho0 0).1; have := (gt_oct ho0 0).2; rcases frm_f.1 h with h | ⟨h, hb⟩ <;> first | omega | exact hnb hb) : (if frm bs0 false = true then (0 : Int) else 11) = 11).symm), fun h => absurd h (show ¬ frm bs0 false = true from fun h => by have := (gt_oct ho0 0).1; have := (gt_oct ho0 0).2; rcases frm_f.1 h with h | ⟨h, hb⟩ <;> first | omega | exact hnb hb), hw12.below⟩)
    ·
     refine seq_plain hw0_1 [0] (by rfl) ?_
     refine L_val (.bool true) (by rfl) (by exact hl_1) (gives_lss (k := .i64) ((k : Int)) ((L0 : Int)) true (by rfl) (by rfl) (decide_eq_true (by omega))) ?_
     refine L_end ?_
     intro w13 hw13
     refine wp_seq ?_
     refine wp_cond_true (fr_at _ _ (by exact hl_1) _) ?_
     refine wp_skip ?_
     change Code.wp _ _ _ _ _
     refine wp_seq ?_
     refine wp_block ?_
     refine seq_plain hw13 [0, 1] (by rfl) ?_
     refine L_val (.int .i64 (k : Int)) (by rfl) (by exact hl_1) gv ?_
     refine L_val (.int .i64 (k : Int)) (by rfl) (by exact hl_1) gv ?_
     refine L_end ?_
     intro w14 hw14
     refine seq_plain hw14 [0, 1, 2, 3, 4, 5, 6, 7, 8, 9, 10, 11, 12, 13, 14, 15, 16, 17, 18, 19] (by rfl) ?_
     refine L_val (.int .i64 (k : Int)) (by rfl) (by exact hl_1) gv ?_
     refine L_val (.bool false) (by rfl) (by exact hl_1) (gives_gtr (k := .i64) ((k : Int)) (0) false (by rfl) (by rfl) (decide_eq_false (by omega))) ?_
     refine L_val (.bool false) (by rfl) (by exact hl_1) gv ?_
     refine L_skip (dj := 62) (by rfl) (by exact hl_1) (by rfl) (by rfl) (by rfl) ?_
     refine L_skip (dj := 62) (by rfl) (by exact hl_1) (by rfl) (by rfl) (by rfl) ?_
     refine L_skip (dj := 62) (by rfl) (by exact hl_1) (by rfl) (by rfl) (by rfl) ?_
     refine L_skip (dj := 62) (by rfl) (by exact hl_1) (by rfl) (by rfl) (by rfl) ?_
     refine L_skip (dj := 62) (by rfl) (by exact hl_1) (by rfl) (by rfl) (by rfl) ?_
     refine L_val (.bool false) (by rfl) (by exact hl_1) gv ?_
     refine L_val (.bool false) (by rfl) (by exact hl_1) gv ?_
     refine L_val_g (dj := 69) (.int .i64 (k : Int)) (by rfl) (by exact hl_1) (by rfl) (by rfl) (by rfl) gv ?_
     refine L_val_g (dj := 69) (.bool true) (by rfl) (by exact hl_1) (by rfl) (by rfl) (by rfl) (gives_ieq (k := .i64) ((k : Int)) (0) true (by rfl) (by rfl) (decide_eq_true (by omega))) ?_
     refine L_val_g (dj := 69) (.bool true) (by rfl) (by exact hl_1) (by rfl) (by rfl) (by rfl) gv ?_
     refine L_val_g (dj := 72) (.slice (some ⟨b0, o0, none⟩) L0 C0) (by rfl) (by exact hl_1) (by rfl) (by rfl) (by rfl) gv ?_
     refine L_val_g (dj := 72) (.pointer (some ⟨b0, o0 + 0, none⟩)) (by rfl) (by exact hl_1) (by rfl) (by rfl) (by rfl) (gives_index b0 (o0) L0 C0 (0) 0 (by rfl) (by rfl) und_u8s u8_sz rfl (by omega)) ?_
     refine L_val_g (dj := 72) (.int .u8 (gt bs0 0)) (by rfl) (by exact hl_1) (by rfl) (by rfl) (by rfl) (gives_load_old _ (.int .u8 (gt bs0 0)) (by rfl) (fun _ h => (h.below.cell (p := ⟨b0, _, none⟩) hq0).trans (hc0 0 (by omega))) und_u8') ?_
     refine L_val_g (dj := 72) (.int .u8 (gt bs0 0 % 32)) (by rfl) (by exact hl_1) (by rfl) (by rfl) (by rfl) (gives_and (k := .u8) (gt bs0 0) 31 (gt bs0 0 % 32) (by rfl) (by rfl) (and_31b _ (gt_oct ho0 _).1 (gt_oct ho0 _).2)) ?_
     refine L_val_g (dj := 72) (.bool false) (by rfl) (by exact hl_1) (by rfl) (by rfl) (by rfl) (gives_ine (k := .u8) (gt bs0 0 % 32) (0) false (by rfl) (by rfl) (decide_eq_false (by omega))) ?_
     refine L_val_g (dj := 69) (.bool false) (by rfl) (by exact hl_1) (by rfl) (by rfl) (by rfl) gv ?_
     refine L_val (.bool false) (by rfl) (by exact hl_1) gv ?_
     refine L_end ?_
     intro w15 hw15
     refine wp_cond_false (fr_at _ _ (by exact hl_1) _) ?_
     refine wp_skip ?_
     change Code.wp _ _ _ _ _
     refine one_plain hw15 [0, 1] (by rfl) ?_
     refine L_val (.int .i64 ((k : Int) + 1)) (by rfl) (by exact hl_1) (gives_add (k := .i64) ((k : Int)) (1) ((k : Int) + 1) (by rfl) (by rfl) (IntWalk.i64_in _ (by omega))) ?_
     refine L_val (.int .i64 ((k : Int) + 1)) (by rfl) (by exact hl_1) gv ?_
     refine L_end ?_
     intro w16 hw16
     change ∃ r' : Nat, r' < r_1 ∧ _
     refine ⟨_, ?_, k + 1, ((57, .int .i64 ((k : Int) + 1)) :: (80, .int .i64 ((k : Int) + 1)) :: (79, .bool false) :: (78, .bool false) :: (77, .bool false) :: (76, .int .u8 (gt bs0 0 % 32)) :: (75, .int .u8 (gt bs0 0)) :: (74, .pointer (some ⟨b0, o0 + 0, none⟩)) :: (73, .slice (some ⟨b0, o0, none⟩) L0 C0) :: (72, .bool true) :: (71, .bool true) :: (70, .int .i64 (k : Int)) :: (69, .bool false) :: (68, .bool false) :: (67, undef) :: (66, undef) :: (65, undef) :: (64, undef) :: (63, undef) :: (62, .bool false) :: (61, .bool false) :: (60, .int .i64 (k : Int)) :: (9, .int .i64 (k : Int)) :: (59, .int .i64 (k : Int)) :: (58, .bool true) :: (0, .slice (some ⟨b0, o0, none⟩) L0 C0) :: (7, .bool true) :: (56, .int .i64 (L0 : Int)) :: (57, .int .i64 (k : Int)) :: l_1), rfl, (by exact hl_1), (Eq.trans (Eq.trans (Eq.trans (fr_dup _ _ 57 _ (by exact hl_1) (by rfl) (by exact (congrArg (Value.int .i64) (by omega)))).symm (fr_dup _ _ 56 _ (by exact hl_1) (by rfl) (by rfl)).symm) (fr_dup _ _ 7 _ (by exact hl_1) (by rfl) (by rfl)).symm) (fr_dup _ _ 0 _ (by exact hl_1) (by rfl) (by rfl)).symm), by omega, (fun i hi => by rcases Nat.lt_or_ge i k with h | h; exact hI i h; obtain rfl : i = k := (by omega); exact ⟨fun h => by omega, fun h => by omega⟩), hw16⟩
     omega
    ·
     have hnb : ¬ blkB bs0 = true := fun hb => by have h1 := (blkB_iff.1 hb).1; have h2 := (blkB_iff.1 hb).2 k; omega
     refine seq_plain hw0_1 [0] (by rfl) ?_
     refine L_val (.bool true) (by rfl) (by exact hl_1) (gives_lss (k := .i64) ((k : Int)) ((L0 : Int)) true (by rfl) (by rfl) (decide_eq_true (by omega))) ?_
     refine L_end ?_
     intro w17 hw17
     refine wp_seq ?_
     refine wp_cond_true (fr_at _ _ (by exact hl_1) _) ?_
     refine wp_skip ?_
     change Code.wp _ _ _ _ _
     refine wp_seq ?_
     refine wp_block ?_
     refine seq_plain hw17 [0, 1] (by rfl) ?_
     refine L_val (.int .i64 (k : Int)) (by rfl) (by exact hl_1) gv ?_
     refine L_val (.int .i64 (k : Int)) (by rfl) (by exact hl_1) gv ?_
     refine L_end ?_
     intro w18 hw18
     refine seq_plain hw18 [0, 1, 2, 3, 4, 5, 6, 7, 8, 9, 10, 11, 12, 13, 14, 15, 16, 17, 18, 19] (by rfl) ?_
     refine L_val (.int .i64 (k : Int)) (by rfl) (by exact hl_1) gv ?_
     refine L_val (.bool true) (by rfl) (by exact hl_1) (gives_gtr (k := .i64) ((k : Int)) (0) true (by rfl) (by rfl) (decide_eq_true (by omega))) ?_
     refine L_val (.bool true) (by rfl) (by exact hl_1) gv ?_
     refine L_val_g (dj := 62) (.slice (some ⟨b0, o0, none⟩) L0 C0) (by rfl) (by exact hl_1) (by rfl) (by rfl) (by rfl) gv ?_
     refine L_val_g (dj := 62) (.int .i64 (k : Int)) (by rfl) (by exact hl_1) (by rfl) (by rfl) (by rfl) gv ?_
     refine L_val_g (dj := 62) (.pointer (some ⟨b0, o0 + k, none⟩)) (by rfl) (by exact hl_1) (by rfl) (by rfl) (by rfl) (gives_index b0 (o0) L0 C0 ((k : Int)) k (by rfl) (by rfl) und_u8s u8_sz rfl (by omega)) ?_
     refine L_val_g (dj := 62) (.int .u8 (gt bs0 k)) (by rfl) (by exact hl_1) (by rfl) (by rfl) (by rfl) (gives_load_old _ (.int .u8 (gt bs0 k)) (by rfl) (fun _ h => (h.below.cell (p := ⟨b0, _, none⟩) hq0).trans (hc0 k (by omega))) und_u8') ?_
     refine L_val_g (dj := 62) (.bool true) (by rfl) (by exact hl_1) (by rfl) (by rfl) (by rfl) (gives_ine (k := .u8) (gt bs0 k) (0) true (by rfl) (by rfl) (decide_eq_true (by omega))) ?_
     refine L_val (.bool true) (by rfl) (by exact hl_1) gv ?_
     refine L_val (.bool true) (by rfl) (by exact hl_1) gv ?_
     refine L_skip (dj := 69) (by rfl) (by exact hl_1) (by rfl) (by rfl) (by rfl) ?_
     refine L_skip (dj := 69) (by rfl) (by exact hl_1) (by rfl) (by rfl) (by rfl) ?_
     refine L_skip (dj := 69) (by rfl) (by exact hl_1) (by rfl) (by rfl) (by rfl) ?_
     refine L_skip_u (dj := 72) (by rfl) (by exact hl_1) (by rfl) (by rfl) (by rfl) ?_
     refine L_skip_u (dj := 72) (by rfl) (by exact hl_1) (by rfl) (by rfl) (by rfl) ?_
     refine L_skip_u (dj := 72) (by rfl) (by exact hl_1) (by rfl) (by rfl) (by rfl) ?_
     refine L_skip_u (dj := 72) (by rfl) (by exact hl_1) (by rfl) (by rfl) (by rfl) ?_
     refine L_skip_u (dj := 72) (by rfl) (by exact hl_1) (by rfl) (by rfl) (by rfl) ?_
     refine L_skip (dj := 69) (by rfl) (by exact hl_1) (by rfl) (by rfl) (by rfl) ?_
     refine L_val (.bool true) (by rfl) (by exact hl_1) gv ?_
     refine L_end ?_
     intro w19 hw19
     refine wp_cond_true (fr_at _ _ (by exact hl_1) _) ?_
     refine seq_plain hw19 [0, 1] (by rfl) ?_
     refine L_val (.int .i64 11) (by rfl) (by exact hl_1) gv ?_
     refine L_val (.bool true) (by rfl) (by exact hl_1) gv ?_
     refine L_end ?_
     intro w20 hw20
     refine wp_ret ?_
     change bodyPost _ _ _ Exit.ret _ _
     refine (ret_tmp_tmp (by rfl) (by exact hl_1) (by rfl) (by rfl) ⟨(), true, (congrArg (fun z => Ending.returned (.tuple #[Value.int .i64 z, Value.bool true])) (if_neg (show ¬ frm bs0 false = true from fun h => by have := (gt_oct ho0 0).1; have := (gt_oct ho0 0).2; rcases frm_f.1 h with h | ⟨h, hb⟩ <;> first | omega | exact hnb hb) : (if frm bs0 false = true then (0 : Int) else 11) = 11).symm), fun h => absurd h (show ¬ frm bs0 false = true from fun h => by have := (gt_oct ho0 0).1; have := (gt_oct ho0 0).2; rcases frm_f.1 h with h | ⟨h, hb⟩ <;> first | omega | exact hnb hb), hw20.below⟩)
    ·
     refine seq_plain hw0_1 [0] (by rfl) ?_
     refine L_val (.bool true) (by rfl) (by exact hl_1) (gives_lss (k := .i64) ((k : Int)) ((L0 : Int)) true (by rfl) (by rfl) (decide_eq_true (by omega))) ?_
     refine L_end ?_
     intro w21 hw21
     refine wp_seq ?_
     refine wp_cond_true (fr_at _ _ (by exact hl_1) _) ?_
     refine wp_skip ?_
     change Code.wp _ _ _ _ _
     refine wp_seq ?_
     refine wp_block ?_
     refine seq_plain hw21 [0, 1] (by rfl) ?_
     refine L_val (.int .i64 (k : Int)) (by rfl) (by exact hl_1) gv ?_
     refine L_val (.int .i64 (k : Int)) (by rfl) (by exact hl_1) gv ?_
     refine L_end ?_
     intro w22 hw22
     refine seq_plain hw22 [0, 1, 2, 3, 4, 5, 6, 7, 8, 9, 10, 11, 12, 13, 14, 15, 16, 17, 18, 19] (by rfl) ?_
     refine L_val (.int .i64 (k : Int)) (by rfl) (by exact hl_1) gv ?_
     refine L_val (.bool true) (by rfl) (by exact hl_1) (gives_gtr (k := .i64) ((k : Int)) (0) true (by rfl) (by rfl) (decide_eq_true (by omega))) ?_
     refine L_val (.bool true) (by rfl) (by exact hl_1) gv ?_
     refine L_val_g (dj := 62) (.slice (some ⟨b0, o0, none⟩) L0 C0) (by rfl) (by exact hl_1) (by rfl) (by rfl) (by rfl) gv ?_
     refine L_val_g (dj := 62) (.int .i64 (k : Int)) (by rfl) (by exact hl_1) (by rfl) (by rfl) (by rfl) gv ?_
     refine L_val_g (dj := 62) (.pointer (some ⟨b0, o0 + k, none⟩)) (by rfl) (by exact hl_1) (by rfl) (by rfl) (by rfl) (gives_index b0 (o0) L0 C0 ((k : Int)) k (by rfl) (by rfl) und_u8s u8_sz rfl (by omega)) ?_
     refine L_val_g (dj := 62) (.int .u8 (gt bs0 k)) (by rfl) (by exact hl_1) (by rfl) (by rfl) (by rfl) (gives_load_old _ (.int .u8 (gt bs0 k)) (by rfl) (fun _ h => (h.below.cell (p := ⟨b0, _, none⟩) hq0).trans (hc0 k (by omega))) und_u8') ?_
     refine L_val_g (dj := 62) (.bool false) (by rfl) (by exact hl_1) (by rfl) (by rfl) (by rfl) (gives_ine (k := .u8) (gt bs0 k) (0) false (by rfl) (by rfl) (decide_eq_false (by omega))) ?_
     refine L_val (.bool false) (by rfl) (by exact hl_1) gv ?_
     refine L_val (.bool false) (by rfl) (by exact hl_1) gv ?_
     refine L_val_g (dj := 69) (.int .i64 (k : Int)) (by rfl) (by exact hl_1) (by rfl) (by rfl) (by rfl) gv ?_
     refine L_val_g (dj := 69) (.bool false) (by rfl) (by exact hl_1) (by rfl) (by rfl) (by rfl) (gives_ieq (k := .i64) ((k : Int)) (0) false (by rfl) (by rfl) (decide_eq_false (by omega))) ?_
     refine L_val_g (dj := 69) (.bool false) (by rfl) (by exact hl_1) (by rfl) (by rfl) (by rfl) gv ?_
     refine L_skip (dj := 72) (by rfl) (by exact hl_1) (by rfl) (by rfl) (by rfl) ?_
     refine L_skip (dj := 72) (by rfl) (by exact hl_1) (by rfl) (by rfl) (by rfl) ?_
     refine L_skip (dj := 72) (by rfl) (by exact hl_1) (by rfl) (by rfl) (by rfl) ?_
     refine L_skip (dj := 72) (by rfl) (by exact hl_1) (by rfl) (by rfl) (by rfl) ?_
     refine L_skip (dj := 72) (by rfl) (by exact hl_1) (by rfl) (by rfl) (by rfl) ?_
     refine L_val_g (dj := 69) (.bool false) (by rfl) (by exact hl_1) (by rfl) (by rfl) (by rfl) gv ?_
     refine L_val (.bool false) (by rfl) (by exact hl_1) gv ?_
     refine L_end ?_
     intro w23 hw23
     refine wp_cond_false (fr_at _ _ (by exact hl_1) _) ?_
     refine wp_skip ?_
     change Code.wp _ _ _ _ _
     refine one_plain hw23 [0, 1] (by rfl) ?_
     refine L_val (.int .i64 ((k : Int) + 1)) (by rfl) (by exact hl_1) (gives_add (k := .i64) ((k : Int)) (1) ((k : Int) + 1) (by rfl) (by rfl) (IntWalk.i64_in _ (by omega))) ?_
     refine L_val (.int .i64 ((k : Int) + 1)) (by rfl) (by exact hl_1) gv ?_
     refine L_end ?_
     intro w24 hw24
     change ∃ r' : Nat, r' < r_1 ∧ _
     refine ⟨_, ?_, k + 1, ((57, .int .i64 ((k : Int) + 1)) :: (80, .int .i64 ((k : Int) + 1)) :: (79, .bool false) :: (78, .bool false) :: (77, undef) :: (76, undef) :: (75, undef) :: (74, undef) :: (73, undef) :: (72, .bool false) :: (71, .bool false) :: (70, .int .i64 (k : Int)) :: (69, .bool false) :: (68, .bool false) :: (67, .bool false) :: (66, .int .u8 (gt bs0 k)) :: (65, .pointer (some ⟨b0, o0 + k, none⟩)) :: (64, .int .i64 (k : Int)) :: (63, .slice (some ⟨b0, o0, none⟩) L0 C0) :: (62, .bool true) :: (61, .bool true) :: (60, .int .i64 (k : Int)) :: (9, .int .i64 (k : Int)) :: (59, .int .i64 (k : Int)) :: (58, .bool true) :: (0, .slice (some ⟨b0, o0, none⟩) L0 C0) :: (7, .bool true) :: (56, .int .i64 (L0 : Int)) :: (57, .int .i64 (k : Int)) :: l_1), rfl, (by exact hl_1), (Eq.trans (Eq.trans (Eq.trans (fr_dup _ _ 57 _ (by exact hl_1) (by rfl) (by exact (congrArg (Value.int .i64) (by omega)))).symm (fr_dup _ _ 56 _ (by exact hl_1) (by rfl) (by rfl)).symm) (fr_dup _ _ 7 _ (by exact hl_1) (by rfl) (by rfl)).symm) (fr_dup _ _ 0 _ (by exact hl_1) (by rfl) (by rfl)).symm), by omega, (fun i hi => by rcases Nat.lt_or_ge i k with h | h; exact hI i h; obtain rfl : i = k := (by omega); exact ⟨fun h => by omega, fun h => by omega⟩), hw24⟩
     omega
    ·
     have hyb : blkB bs0 = true := blkB_iff.2 ⟨(hI 0 (by omega)).1 rfl, fun i h0 hi => (hI i (by omega)).2 h0⟩
     refine seq_plain hw0_1 [0] (by rfl) ?_
     refine L_val (.bool false) (by rfl) (by exact hl_1) (gives_lss (k := .i64) ((k : Int)) ((L0 : Int)) false (by rfl) (by rfl) (decide_eq_false (by omega))) ?_
     refine L_end ?_
     intro w25 hw25
     refine wp_seq ?_
     refine wp_cond_false (fr_at _ _ (by exact hl_1) _) ?_
     refine wp_exit ?_
     change Code.wp _ _ _ _ _
     change Code.wp _ _ _ _ _
     refine seq_plain hw25 [0, 1, 2] (by rfl) ?_
     refine L_val (.bool true) (by rfl) (by exact hl_1) gv ?_
     refine L_val (.int .i64 0) (by rfl) (by exact hl_1) gv ?_
     refine L_val (.bool true) (by rfl) (by exact hl_1) gv ?_
     refine L_end ?_
     intro w26 hw26
     refine wp_ret ?_
     change bodyPost _ _ _ Exit.ret _ _
     refine (ret_tmp_tmp (by rfl) (by exact hl_1) (by rfl) (by rfl) ⟨(), true, (congrArg (fun z => Ending.returned (.tuple #[Value.int .i64 z, Value.bool true])) (if_pos (frm_f.2 (by have := (gt_oct ho0 0).1; have := (gt_oct ho0 0).2; right; exact ⟨by omega, hyb⟩)) : (if frm bs0 false = true then (0 : Int) else 11) = 0).symm), fun _ => (decide_eq_true (by omega)).symm, hw26.below⟩)
   ·
    refine L_val (.bool true) (by rfl) (by rfl) (gives_ine (k := .u8) (32 * (gt bs0 0 / 32 % 2)) (0) true (by rfl) (by rfl) (decide_eq_true (by omega))) ?_
    refine lv (.bool true) (h := ?_)
    refine L_end ?_
    intro w5 hw5
    refine wp_seq ?_
    refine seq_plain hw5 [0, 1, 2, 3, 4, 5, 6, 7, 8, 9, 10, 11, 12, 13, 14, 15, 16, 17, 18] (by rfl) ?_
    refine lv (.bool false) (h := ?_)
    refine lv (.slice (some ⟨b0, o0, none⟩) L0 C0) (h := ?_)
    refine L_val (.int .i64 (L0 : Int)) (by rfl) (by rfl) (gives_len _ L0 C0 und_u8s (by rfl)) ?_
    refine lv (.int .i64 96) (h := ?_)
    refine L_val (.bool false) (by rfl) (by rfl) (gives_ieq (k := .i64) ((L0 : Int)) (96) false (by rfl) (by rfl) (decide_eq_false (by omega))) ?_
    refine lv (.bool false) (h := ?_)
    refine lv (.bool false) (h := ?_)
    refine L_val_g (dj := 41) (.bool true) (by rfl) (by rfl) (by rfl) (by rfl) (by rfl) gv ?_
    refine L_val_g (dj := 41) (.bool true) (by rfl) (by rfl) (by rfl) (by rfl) (by rfl) gv ?_
    refine L_val_g (dj := 43) (.bool false) (by rfl) (by rfl) (by rfl) (by rfl) (by rfl) gv ?_
    refine L_val_g (dj := 43) (.bool true) (by rfl) (by rfl) (by rfl) (by rfl) (by rfl) gv ?_
    refine L_val_g (dj := 41) (.bool true) (by rfl) (by rfl) (by rfl) (by rfl) (by rfl) gv ?_
    refine lv (.bool true) (h := ?_)
    refine lv (.bool true) (h := ?_)
    refine lS (dj := 48) (h := ?_)
    refine lS (dj := 48) (h := ?_)
    refine lSu (dj := 50) (h := ?_)
    refine lS (dj := 48) (h := ?_)
    refine lv (.bool true) (h := ?_)
    refine L_end ?_
    intro w6 hw6
    refine wp_cond_true (fr_at _ _ (by rfl) _) ?_
    refine seq_plain hw6 [0, 1] (by rfl) ?_
    refine lv (.int .i64 11) (h := ?_)
    refine lv (.bool false) (h := ?_)
    refine L_end ?_
    intro w7 hw7
    refine wp_ret ?_
    change bodyPost _ _ _ Exit.ret _ _
    refine (ret_tmp_tmp (by rfl) (by rfl) (by rfl) (by rfl) ⟨(), false, (congrArg (fun z => Ending.returned (.tuple #[Value.int .i64 z, Value.bool false])) (if_neg (show ¬ frm bs0 false = true from fun h => by have := (gt_oct ho0 0).1; have := (gt_oct ho0 0).2; rcases frm_f.1 h with h | ⟨h, hb⟩ <;> omega) : (if frm bs0 false = true then (0 : Int) else 11) = 11).symm), fun h => absurd h (show ¬ frm bs0 false = true from fun h => by have := (gt_oct ho0 0).1; have := (gt_oct ho0 0).2; rcases frm_f.1 h with h | ⟨h, hb⟩ <;> omega), hw7.below⟩)
end Go.Proofs.YtifnnckbcjafgabGreatDoor
