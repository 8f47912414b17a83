/-
  ShaStreams: the walk.
-/
import Derived.Test.YtialfoccalobpaaDoorStM
namespace Go.Proofs.YtialfoccalobpaaDoor
set_option linter.unusedSimpArgs false
set_option linter.unusedVariables false
open Go.RowKit
attribute [local irreducible] wpL wpF fr Code.wp bodyPost
set_option maxRecDepth 100000 in
set_option maxHeartbeats 4000000 in
theorem streams_any (A0 : Option Addr) (n0 c0 : Nat) (ps0 : List (List Int)) (a1 : Int) (v : World) (hp0 : Pieces v v.heap.size A0 n0 ps0) (hlb : ∀ b ∈ ps0, b.length ≤ 140737488351232) (hgl : Glob v) (h2 : 3 ≤ v.heap.size) : Rets 4 #[.slice A0 n0 c0, .int .i64 a1] v (.bool true) := by
  refine calls_fr2 Tryd.func4 rfl (by rfl : _ = 96) (by rfl) ?_
  have hw := Hbl.nil v
  refine seq_plain hw [0] (by rfl) ?_
  refine L_val (.bool false) (by rfl) (by rfl) (gives_value _ fun _ => by rfl) ?_
  refine L_end ?_
  intro w1 hw1
  refine wp_seq ?_
  refine seq_plain hw1 [0, 1] (by rfl) ?_
  refine L_val (.bool true) (by rfl) (by rfl) (gives_call (vl := []) (by kernel_rfl) (by rfl) (fun w h => head_any w (hgl.below h.below h2) (Nat.le_trans h2 h.below.size))) ?_
  refine L_val (.bool false) (by rfl) (by rfl) (gives_value _ fun _ => by rfl) ?_
  refine L_end ?_
  intro w2 hw2
  refine wp_cond_false (fr_at _ _ (by rfl) _) ?_
  refine wp_skip ?_
  change Code.wp _ _ _ _ _
  refine seq_plain hw2 [0, 1] (by rfl) ?_
  refine L_freshXs (vl := []) 106 (fun g cap => .pointer (some ⟨g, 0, none⟩)) (fun _ cs => HashC cs []) (by rfl) (by rfl) Want.none (by kernel_rfl) (by rfl)  (fun w h => st_new w) ?_; intro g1 cap_1 cs_1 hq_1
  refine L_val (.pointer (some ⟨g1, 0, none⟩)) (by rfl) (by rfl) (gives_value _ fun _ => by rfl) ?_
  refine L_end ?_
  intro w3 hw3
  refine wp_seq ?_
  refine seq_plain hw3 [0, 1] (by rfl) ?_
  refine L_val (.pointer (some ⟨g1, 0, none⟩)) (by rfl) (by rfl) (gives_value _ fun _ => by rfl) ?_
  refine L_val (.bool false) (by rfl) (by rfl) (gives_value _ fun _ => by rfl) ?_
  refine L_end ?_
  intro w4 hw4
  refine wp_cond_false (fr_at _ _ (by rfl) _) ?_
  refine wp_skip ?_
  change Code.wp _ _ _ _ _
  refine seq_plain hw4 [0, 1] (by rfl) ?_
  refine L_build0 1 (by rfl) (by rfl) und_u8s u8_sz ?_; intro g2; have hn_2 := Nms.nil .u8
  refine L_val (.slice (some ⟨g2, 0, none⟩) 0 0) (by rfl) (by rfl) (gives_value _ fun _ => by rfl) ?_
  refine L_end ?_
  intro w5 hw5
  refine wp_seq ?_
  refine seq_plain hw5 [0, 1, 2] (by rfl) ?_
  refine L_val (.slice A0 n0 c0) (by rfl) (by rfl) (gives_value _ fun _ => by rfl) ?_
  refine L_val (.int .i64 (n0 : Int)) (by rfl) (by rfl) (gives_len _ n0 c0 und_pss (by rfl)) ?_
  refine L_val (.int .i64 0) (by rfl) (by rfl) (gives_value _ fun _ => by rfl) ?_
  refine L_end ?_
  intro w6 hw6
  refine wp_block ?_
  refine loop_down (fun (r_ : Nat) a w => ∃ (i : Nat) (ga : Nat) (csa : Array Value) (va : Value) (csx : Array Value) (M : List Int) (l_1 : List (Nat × Value)), n0 - i = r_ ∧ inFr 96 l_1 = true ∧ a = fr 96 ((0, .slice A0 n0 c0) :: (1, .int .i64 a1) :: (5, .pointer (some ⟨g1, 0, none⟩)) :: (6, va) :: (19, .slice A0 n0 c0) :: (20, .int .i64 (n0 : Int)) :: (21, .int .i64 (i : Int)) :: l_1) ∧ (i ≤ n0) ∧ (HashC csx M) ∧ (AllIs va ga csa M) ∧ (M.length ≤ 16384) ∧ Hbl v [(ga, 5, csa), (g1, 106, csx)] w) ?_ _ _ _ ⟨0, g2, #[], (.slice (some ⟨g2, 0, none⟩) 0 0), cs_1, [], [(21, .int .i64 0), (20, .int .i64 (n0 : Int)), (19, .slice A0 n0 c0), (6, .slice (some ⟨g2, 0, none⟩) 0 0), (18, .slice (some ⟨g2, 0, none⟩) 0 0), (17, .bool false), (16, .pointer (some ⟨g1, 0, none⟩)), (5, .pointer (some ⟨g1, 0, none⟩)), (15, .pointer (some ⟨g1, 0, none⟩)), (14, .bool false), (13, .bool true), (4, .bool false), (1, .int .i64 a1), (0, .slice A0 n0 c0)], rfl, (by rfl), (Eq.trans (Eq.trans (Eq.trans (Eq.trans (Eq.trans (Eq.trans (fr_dup _ _ 21 _ (by rfl) (by rfl) (by rfl)).symm (fr_dup _ _ 20 _ (by rfl) (by rfl) (by rfl)).symm) (fr_dup _ _ 19 _ (by rfl) (by rfl) (by rfl)).symm) (fr_dup _ _ 6 _ (by rfl) (by rfl) (by rfl)).symm) (fr_dup _ _ 5 _ (by rfl) (by rfl) (by rfl)).symm) (fr_dup _ _ 1 _ (by rfl) (by rfl) (by rfl)).symm) (fr_dup _ _ 0 _ (by rfl) (by rfl) (by rfl)).symm), Nat.zero_le _, hq_1, (.inr ⟨_, _, rfl, Nms.nil .u8⟩), (by simp), hw6⟩
  rintro r_1 a0 w0_1 ⟨i, ga, csa, va, csx, M, l_1, hr_1, hl_1, rfl, hi, hhc, hal, hM, hw0_1⟩
  rcases hp0.ways hlb i M.length a1 with ⟨b0, o0, Ai, mi, ci, bi, hlt, hA0, hq0, hce0, hnci, hmb, hri, hbig⟩ | ⟨b0, o0, Ai, mi, ci, bi, hlt, hA0, hq0, hce0, hnci, hmb, hri, hsm, h40⟩ | ⟨b0, o0, Ai, mi, ci, bi, hlt, hA0, hq0, hce0, hnci, hmb, hri, hsm, h40, hre⟩ | ⟨b0, o0, Ai, mi, ci, bi, hlt, hA0, hq0, hce0, hnci, hmb, hri, hsm, h40, hre⟩ | hlt
  ·
    have hbli : bi.length = mi := by simpa using hri.1
    refine seq_plain hw0_1 [0] (by rfl) ?_
    refine L_val (.bool true) (by rfl) (by exact hl_1) (gives_lss (k := .i64) ((i : Int)) ((n0 : Int)) true (by rfl) (by rfl) (decide_eq_true (by omega))) ?_
    refine L_end ?_
    intro w7 hw7
    refine wp_seq ?_
    refine wp_cond_true (fr_at _ _ (by exact hl_1) _) ?_
    refine wp_skip ?_
    change Code.wp _ _ _ _ _
    refine wp_seq ?_
    refine wp_block ?_
    refine seq_plain hw7 [0, 1, 2, 3, 4] (by rfl) ?_
    refine L_val (.int .i64 (i : Int)) (by rfl) (by exact hl_1) (gives_value _ fun _ => by rfl) ?_
    refine L_val (.pointer (some ⟨b0, o0 + (i), none⟩)) (by rfl) (by exact hl_1) (gives_index_old A0 n0 c0 ((i : Int)) (i) _ _ hA0 (by rfl) (by rfl) und_pss slice_sz rfl (by omega)) ?_
    refine L_val (.slice Ai mi ci) (by rfl) (by exact hl_1) (gives_load_oldS _ (.slice Ai mi ci) (by rfl) (fun _ h => (h.below.cell (p := ⟨b0, _, none⟩) hq0).trans hce0) und_u8s) ?_
    refine L_val (.int .i64 (i : Int)) (by rfl) (by exact hl_1) (gives_value _ fun _ => by rfl) ?_
    refine L_val (.slice Ai mi ci) (by rfl) (by exact hl_1) (gives_value _ fun _ => by rfl) ?_
    refine L_end ?_
    intro w8 hw8
    refine wp_seq ?_
    refine seq_plain hw8 [0, 1, 2, 3, 4, 5, 6, 7, 8, 9] (by rfl) ?_
    refine L_val (va) (by rfl) (by exact hl_1) (gives_value _ fun _ => by rfl) ?_
    refine L_val (.int .i64 ((M.length : Nat) : Int)) (by rfl) (by exact hl_1) (gives_lenV M.length hal.len und_u8s (by rfl)) ?_
    refine L_val (.slice Ai mi ci) (by rfl) (by exact hl_1) (gives_value _ fun _ => by rfl) ?_
    refine L_val (.int .i64 (mi : Int)) (by rfl) (by exact hl_1) (gives_len _ mi ci und_u8s (by rfl)) ?_
    refine L_val (.int .i64 (((M.length : Nat) : Int) + (mi : Int))) (by rfl) (by exact hl_1) (gives_add (k := .i64) (((M.length : Nat) : Int)) ((mi : Int)) (((M.length : Nat) : Int) + (mi : Int)) (by rfl) (by rfl) (IntWalk.i64_in _ (by omega))) ?_
    refine L_val (.bool true) (by rfl) (by exact hl_1) (gives_gtr (k := .i64) (((M.length : Nat) : Int) + (mi : Int)) (16384) true (by rfl) (by rfl) (decide_eq_true (by omega))) ?_
    refine L_val (.bool true) (by rfl) (by exact hl_1) (gives_value _ fun _ => by rfl) ?_
    refine L_skip (dj := 32) (by rfl) (by exact hl_1) (by rfl) (by rfl) (by rfl) ?_
    refine L_skip (dj := 32) (by rfl) (by exact hl_1) (by rfl) (by rfl) (by rfl) ?_
    refine L_val (.bool true) (by rfl) (by exact hl_1) (gives_value _ fun _ => by rfl) ?_
    refine L_end ?_
    intro w9 hw9
    refine wp_cond_true (fr_at _ _ (by exact hl_1) _) ?_
    refine seq_plain hw9 [0] (by rfl) ?_
    refine L_val (.bool true) (by rfl) (by exact hl_1) (gives_value _ fun _ => by rfl) ?_
    refine L_end ?_
    intro w10 hw10
    refine wp_ret ?_
    change bodyPost _ _ _ Exit.ret _ _
    refine (ret_tmp (by rfl) (by exact hl_1) (by rfl) ⟨rfl, hw10.below⟩)
  ·
    have hbli : bi.length = mi := by simpa using hri.1
    refine seq_plain hw0_1 [0] (by rfl) ?_
    refine L_val (.bool true) (by rfl) (by exact hl_1) (gives_lss (k := .i64) ((i : Int)) ((n0 : Int)) true (by rfl) (by rfl) (decide_eq_true (by omega))) ?_
    refine L_end ?_
    intro w11 hw11
    refine wp_seq ?_
    refine wp_cond_true (fr_at _ _ (by exact hl_1) _) ?_
    refine wp_skip ?_
    change Code.wp _ _ _ _ _
    refine wp_seq ?_
    refine wp_block ?_
    refine seq_plain hw11 [0, 1, 2, 3, 4] (by rfl) ?_
    refine L_val (.int .i64 (i : Int)) (by rfl) (by exact hl_1) (gives_value _ fun _ => by rfl) ?_
    refine L_val (.pointer (some ⟨b0, o0 + (i), none⟩)) (by rfl) (by exact hl_1) (gives_index_old A0 n0 c0 ((i : Int)) (i) _ _ hA0 (by rfl) (by rfl) und_pss slice_sz rfl (by omega)) ?_
    refine L_val (.slice Ai mi ci) (by rfl) (by exact hl_1) (gives_load_oldS _ (.slice Ai mi ci) (by rfl) (fun _ h => (h.below.cell (p := ⟨b0, _, none⟩) hq0).trans hce0) und_u8s) ?_
    refine L_val (.int .i64 (i : Int)) (by rfl) (by exact hl_1) (gives_value _ fun _ => by rfl) ?_
    refine L_val (.slice Ai mi ci) (by rfl) (by exact hl_1) (gives_value _ fun _ => by rfl) ?_
    refine L_end ?_
    intro w12 hw12
    refine wp_seq ?_
    refine seq_plain hw12 [0, 1, 2, 3, 4, 5, 6, 7, 8, 9] (by rfl) ?_
    refine L_val (va) (by rfl) (by exact hl_1) (gives_value _ fun _ => by rfl) ?_
    refine L_val (.int .i64 ((M.length : Nat) : Int)) (by rfl) (by exact hl_1) (gives_lenV M.length hal.len und_u8s (by rfl)) ?_
    refine L_val (.slice Ai mi ci) (by rfl) (by exact hl_1) (gives_value _ fun _ => by rfl) ?_
    refine L_val (.int .i64 (mi : Int)) (by rfl) (by exact hl_1) (gives_len _ mi ci und_u8s (by rfl)) ?_
    refine L_val (.int .i64 (((M.length : Nat) : Int) + (mi : Int))) (by rfl) (by exact hl_1) (gives_add (k := .i64) (((M.length : Nat) : Int)) ((mi : Int)) (((M.length : Nat) : Int) + (mi : Int)) (by rfl) (by rfl) (IntWalk.i64_in _ (by omega))) ?_
    refine L_val (.bool false) (by rfl) (by exact hl_1) (gives_gtr (k := .i64) (((M.length : Nat) : Int) + (mi : Int)) (16384) false (by rfl) (by rfl) (decide_eq_false (by omega))) ?_
    refine L_val (.bool false) (by rfl) (by exact hl_1) (gives_value _ fun _ => by rfl) ?_
    refine L_val_g (dj := 32) (.int .i64 (i : Int)) (by rfl) (by exact hl_1) (by rfl) (by rfl) (by rfl) (gives_value _ fun _ => by rfl) ?_
    refine L_val_g (dj := 32) (.bool true) (by rfl) (by exact hl_1) (by rfl) (by rfl) (by rfl) (gives_gtr (k := .i64) ((i : Int)) (40) true (by rfl) (by rfl) (decide_eq_true (by omega))) ?_
    refine L_val (.bool true) (by rfl) (by exact hl_1) (gives_value _ fun _ => by rfl) ?_
    refine L_end ?_
    intro w13 hw13
    refine wp_cond_true (fr_at _ _ (by exact hl_1) _) ?_
    refine seq_plain hw13 [0] (by rfl) ?_
    refine L_val (.bool true) (by rfl) (by exact hl_1) (gives_value _ fun _ => by rfl) ?_
    refine L_end ?_
    intro w14 hw14
    refine wp_ret ?_
    change bodyPost _ _ _ Exit.ret _ _
    refine (ret_tmp (by rfl) (by exact hl_1) (by rfl) ⟨rfl, hw14.below⟩)
  ·
    have hbli : bi.length = mi := by simpa using hri.1
    refine seq_plain hw0_1 [0] (by rfl) ?_
    refine L_val (.bool true) (by rfl) (by exact hl_1) (gives_lss (k := .i64) ((i : Int)) ((n0 : Int)) true (by rfl) (by rfl) (decide_eq_true (by omega))) ?_
    refine L_end ?_
    intro w15 hw15
    refine wp_seq ?_
    refine wp_cond_true (fr_at _ _ (by exact hl_1) _) ?_
    refine wp_skip ?_
    change Code.wp _ _ _ _ _
    refine wp_seq ?_
    refine wp_block ?_
    refine seq_plain hw15 [0, 1, 2, 3, 4] (by rfl) ?_
    refine L_val (.int .i64 (i : Int)) (by rfl) (by exact hl_1) (gives_value _ fun _ => by rfl) ?_
    refine L_val (.pointer (some ⟨b0, o0 + (i), none⟩)) (by rfl) (by exact hl_1) (gives_index_old A0 n0 c0 ((i : Int)) (i) _ _ hA0 (by rfl) (by rfl) und_pss slice_sz rfl (by omega)) ?_
    refine L_val (.slice Ai mi ci) (by rfl) (by exact hl_1) (gives_load_oldS _ (.slice Ai mi ci) (by rfl) (fun _ h => (h.below.cell (p := ⟨b0, _, none⟩) hq0).trans hce0) und_u8s) ?_
    refine L_val (.int .i64 (i : Int)) (by rfl) (by exact hl_1) (gives_value _ fun _ => by rfl) ?_
    refine L_val (.slice Ai mi ci) (by rfl) (by exact hl_1) (gives_value _ fun _ => by rfl) ?_
    refine L_end ?_
    intro w16 hw16
    refine wp_seq ?_
    refine seq_plain hw16 [0, 1, 2, 3, 4, 5, 6, 7, 8, 9] (by rfl) ?_
    refine L_val (va) (by rfl) (by exact hl_1) (gives_value _ fun _ => by rfl) ?_
    refine L_val (.int .i64 ((M.length : Nat) : Int)) (by rfl) (by exact hl_1) (gives_lenV M.length hal.len und_u8s (by rfl)) ?_
    refine L_val (.slice Ai mi ci) (by rfl) (by exact hl_1) (gives_value _ fun _ => by rfl) ?_
    refine L_val (.int .i64 (mi : Int)) (by rfl) (by exact hl_1) (gives_len _ mi ci und_u8s (by rfl)) ?_
    refine L_val (.int .i64 (((M.length : Nat) : Int) + (mi : Int))) (by rfl) (by exact hl_1) (gives_add (k := .i64) (((M.length : Nat) : Int)) ((mi : Int)) (((M.length : Nat) : Int) + (mi : Int)) (by rfl) (by rfl) (IntWalk.i64_in _ (by omega))) ?_
    refine L_val (.bool false) (by rfl) (by exact hl_1) (gives_gtr (k := .i64) (((M.length : Nat) : Int) + (mi : Int)) (16384) false (by rfl) (by rfl) (decide_eq_false (by omega))) ?_
    refine L_val (.bool false) (by rfl) (by exact hl_1) (gives_value _ fun _ => by rfl) ?_
    refine L_val_g (dj := 32) (.int .i64 (i : Int)) (by rfl) (by exact hl_1) (by rfl) (by rfl) (by rfl) (gives_value _ fun _ => by rfl) ?_
    refine L_val_g (dj := 32) (.bool false) (by rfl) (by exact hl_1) (by rfl) (by rfl) (by rfl) (gives_gtr (k := .i64) ((i : Int)) (40) false (by rfl) (by rfl) (decide_eq_false (by omega))) ?_
    refine L_val (.bool false) (by rfl) (by exact hl_1) (gives_value _ fun _ => by rfl) ?_
    refine L_end ?_
    intro w17 hw17
    refine wp_cond_false (fr_at _ _ (by exact hl_1) _) ?_
    refine wp_skip ?_
    change Code.wp _ _ _ _ _
    refine wp_seq ?_
    refine seq_plain hw17 [0, 1, 2] (by rfl) ?_
    refine L_val (.int .i64 (i : Int)) (by rfl) (by exact hl_1) (gives_value _ fun _ => by rfl) ?_
    refine L_val (.int .i64 a1) (by rfl) (by exact hl_1) (gives_value _ fun _ => by rfl) ?_
    refine L_val (.bool true) (by rfl) (by exact hl_1) (gives_ieq (k := .i64) ((i : Int)) (a1) true (by rfl) (by rfl) (decide_eq_true (by omega))) ?_
    refine L_end ?_
    intro w18 hw18
    refine wp_cond_true (fr_at _ _ (by exact hl_1) _) ?_
    refine seq_plain hw18 [0, 1] (by rfl) ?_
    refine L_val (.pointer (some ⟨g1, 0, none⟩)) (by rfl) (by exact hl_1) (gives_value _ fun _ => by rfl) ?_
    refine L_mut (vl := [.pointer (some ⟨g1, 0, none⟩)]) 1 g1 106 csx (.tuple #[]) (fun cs => HashC cs ([] : List Int)) (by rfl) (by exact hl_1) Want.none (by kernel_rfl) (by rfl) (by rfl) (fun w h => st_reset w g1 csx M hhc (h.blk 1 (by rfl))) ?_; intro cs_3 hn_3; simp only [List.set_cons_zero, List.set_cons_succ]
    refine L_end ?_
    intro w19 hw19
    refine one_plain hw19 [0] (by rfl) ?_
    refine L_val (.slice none 0 0) (by rfl) (by exact hl_1) (gives_value _ fun _ => by rfl) ?_
    refine L_end ?_
    intro w20 hw20
    change Code.wp _ _ _ _ _
    refine seq_plain hw20 [0, 1, 2] (by rfl) ?_
    refine L_val (.slice Ai mi ci) (by rfl) (by exact hl_1) (gives_value _ fun _ => by rfl) ?_
    refine L_freshP (vl := [.slice Ai mi ci]) 5 .u8 mi bi (by rfl) (by exact hl_1) Want.none (by kernel_rfl) (by rfl) (fun w h => c_copy w _ _ _ bi ((hri.below h.below).more h.below.size) (by omega)) ?_; intro g3 cap_4 cs_4 hn_4
    refine L_val (.slice (some ⟨g3, 0, none⟩) mi cap_4) (by rfl) (by exact hl_1) (gives_value _ fun _ => by rfl) ?_
    refine L_end ?_
    intro w21 hw21
    refine seq_plain hw21 [0, 1, 2] (by rfl) ?_
    refine L_val (.pointer (some ⟨g1, 0, none⟩)) (by rfl) (by exact hl_1) (gives_value _ fun _ => by rfl) ?_
    refine L_val (.slice (some ⟨g3, 0, none⟩) mi cap_4) (by rfl) (by exact hl_1) (gives_value _ fun _ => by rfl) ?_
    refine L_mut (vl := [.pointer (some ⟨g1, 0, none⟩), .slice (some ⟨g3, 0, none⟩) mi cap_4]) 2 g1 106 cs_3 (.tuple #[]) (fun cs => HashC cs (([] : List Int) ++ bi)) (by rfl) (by exact hl_1) Want.none (by kernel_rfl) (by rfl) (by rfl) (fun w h => st_write w g1 cs_3 ([] : List Int) bi (some ⟨g3, 0, none⟩) mi cap_4 hn_3 (h.blk 2 (by rfl)) (hn_4.src (h.blk 0 (by rfl)) (hbl_ne h 0 2 (by rfl) (by rfl) (by rfl))) (hn_4.le) (hgl.below h.below h2) (Nat.le_trans h2 (h.ge 2 (by rfl))) (by simp only [List.length_nil]; omega)) ?_; intro cs_5 hn_5; simp only [List.set_cons_zero, List.set_cons_succ]
    refine L_end ?_
    intro w22 hw22
    refine wp_seq ?_
    refine seq_plain hw22 [0, 1, 2] (by rfl) ?_
    refine L_val (.slice (some ⟨g3, 0, none⟩) mi cap_4) (by rfl) (by exact hl_1) (gives_value _ fun _ => by rfl) ?_
    refine L_val (.int .i64 (mi : Int)) (by rfl) (by exact hl_1) (gives_len _ mi cap_4 und_u8s (by rfl)) ?_
    refine L_val (.int .i64 0) (by rfl) (by exact hl_1) (gives_value _ fun _ => by rfl) ?_
    refine L_end ?_
    intro w23 hw23
    refine wp_block ?_
    refine loop_down (fun (r_ : Nat) a w => ∃ (j : Nat) (csq : Array Value) (lq : List Int) (l_2 : List (Nat × Value)), mi - j = r_ ∧ inFr 96 l_2 = true ∧ a = fr 96 ((0, .slice A0 n0 c0) :: (1, .int .i64 a1) :: (5, .pointer (some ⟨g1, 0, none⟩)) :: (6, .slice none 0 0) :: (7, .int .i64 (i : Int)) :: (8, .slice Ai mi ci) :: (19, .slice A0 n0 c0) :: (20, .int .i64 (n0 : Int)) :: (21, .int .i64 (i : Int)) :: (9, .slice (some ⟨g3, 0, none⟩) mi cap_4) :: (47, .int .i64 (mi : Int)) :: (48, .int .i64 (j : Int)) :: l_2) ∧ (j ≤ mi) ∧ (Nms .u8 csq cap_4 mi lq) ∧ Hbl v [(g3, 5, csq), (ga, 5, csa), (g1, 106, cs_5)] w) ?_ _ _ _ ⟨0, cs_4, bi, ((48, .int .i64 0) :: (47, .int .i64 (mi : Int)) :: (46, .slice (some ⟨g3, 0, none⟩) mi cap_4) :: (45, .tuple #[]) :: (44, .slice (some ⟨g3, 0, none⟩) mi cap_4) :: (43, .pointer (some ⟨g1, 0, none⟩)) :: (9, .slice (some ⟨g3, 0, none⟩) mi cap_4) :: (42, .slice (some ⟨g3, 0, none⟩) mi cap_4) :: (41, .slice Ai mi ci) :: (6, .slice none 0 0) :: (40, .tuple #[]) :: (39, .pointer (some ⟨g1, 0, none⟩)) :: (38, .bool true) :: (37, .int .i64 a1) :: (36, .int .i64 (i : Int)) :: (35, .bool false) :: (34, .bool false) :: (33, .int .i64 (i : Int)) :: (32, .bool false) :: (31, .bool false) :: (30, .int .i64 (((M.length : Nat) : Int) + (mi : Int))) :: (29, .int .i64 (mi : Int)) :: (28, .slice Ai mi ci) :: (27, .int .i64 ((M.length : Nat) : Int)) :: (26, va) :: (8, .slice Ai mi ci) :: (7, .int .i64 (i : Int)) :: (25, .slice Ai mi ci) :: (24, .pointer (some ⟨b0, o0 + (i), none⟩)) :: (23, .int .i64 (i : Int)) :: (22, .bool true) :: (0, .slice A0 n0 c0) :: (1, .int .i64 a1) :: (5, .pointer (some ⟨g1, 0, none⟩)) :: (6, va) :: (19, .slice A0 n0 c0) :: (20, .int .i64 (n0 : Int)) :: (21, .int .i64 (i : Int)) :: l_1), rfl, (by exact hl_1), (Eq.trans (Eq.trans (Eq.trans (Eq.trans (Eq.trans (Eq.trans (Eq.trans (Eq.trans (Eq.trans (Eq.trans (Eq.trans (fr_dup _ _ 48 _ (by exact hl_1) (by rfl) (by rfl)).symm (fr_dup _ _ 47 _ (by exact hl_1) (by rfl) (by rfl)).symm) (fr_dup _ _ 9 _ (by exact hl_1) (by rfl) (by rfl)).symm) (fr_dup _ _ 21 _ (by exact hl_1) (by rfl) (by rfl)).symm) (fr_dup _ _ 20 _ (by exact hl_1) (by rfl) (by rfl)).symm) (fr_dup _ _ 19 _ (by exact hl_1) (by rfl) (by rfl)).symm) (fr_dup _ _ 8 _ (by exact hl_1) (by rfl) (by rfl)).symm) (fr_dup _ _ 7 _ (by exact hl_1) (by rfl) (by rfl)).symm) (fr_dup _ _ 6 _ (by exact hl_1) (by rfl) (by rfl)).symm) (fr_dup _ _ 5 _ (by exact hl_1) (by rfl) (by rfl)).symm) (fr_dup _ _ 1 _ (by exact hl_1) (by rfl) (by rfl)).symm) (fr_dup _ _ 0 _ (by exact hl_1) (by rfl) (by rfl)).symm), Nat.zero_le _, hn_4, hw23⟩
    rintro r_2 a0 w0_2 ⟨j, csq, lq, l_2, hr_2, hl_2, rfl, hj, hnq, hw0_2⟩
    by_cases hltj : j < mi
    ·
      refine seq_plain hw0_2 [0] (by rfl) ?_
      refine L_val (.bool true) (by rfl) (by exact hl_2) (gives_lss (k := .i64) ((j : Int)) ((mi : Int)) true (by rfl) (by rfl) (decide_eq_true (by omega))) ?_
      refine L_end ?_
      intro w24 hw24
      refine wp_seq ?_
      refine wp_cond_true (fr_at _ _ (by exact hl_2) _) ?_
      refine wp_skip ?_
      change Code.wp _ _ _ _ _
      refine wp_seq ?_
      refine wp_block ?_
      refine seq_plain hw24 [0, 1] (by rfl) ?_
      refine L_val (.int .i64 (j : Int)) (by rfl) (by exact hl_2) (gives_value _ fun _ => by rfl) ?_
      refine L_val (.int .i64 (j : Int)) (by rfl) (by exact hl_2) (gives_value _ fun _ => by rfl) ?_
      refine L_end ?_
      intro w25 hw25
      refine one_plain hw25 [0, 1, 2, 3, 4, 5, 6] (by rfl) ?_
      refine L_val (.slice (some ⟨g3, 0, none⟩) mi cap_4) (by rfl) (by exact hl_2) (gives_value _ fun _ => by rfl) ?_
      refine L_val (.int .i64 (j : Int)) (by rfl) (by exact hl_2) (gives_value _ fun _ => by rfl) ?_
      refine L_val (.pointer (some ⟨g3, 0 + (j), none⟩)) (by rfl) (by exact hl_2) (gives_index g3 0 (mi) (cap_4) ((j : Int)) (j) (by rfl) (by rfl) und_u8s u8_sz rfl (by omega)) ?_
      refine L_val (.int .u8 (gt lq j)) (by rfl) (by exact hl_2) (gives_load1 g3 (0 + (j)) _ csq (.int .u8 (gt lq j)) (by rfl) (fun _ h => h.blk 0 (by rfl)) (hnq.get (by omega)) und_u8') ?_
      refine L_val (.int .u8 (bits .xor .u8 (gt lq j) 255)) (by rfl) (by exact hl_2) (gives_xorB (k := .u8) (gt lq j) (255) (by rfl) (by rfl)) ?_
      refine L_val (.pointer (some ⟨g3, 0 + (j), none⟩)) (by rfl) (by exact hl_2) (gives_index g3 0 (mi) (cap_4) ((j : Int)) (j) (by rfl) (by rfl) und_u8s u8_sz rfl (by omega)) ?_
      refine L_store1 0 g3 (0 + (j)) _ csq (.int .u8 (bits .xor .u8 (gt lq j) 255)) (by rfl) (by exact hl_2) (by rfl) (by rfl) rfl (by rfl) u8_sz (by have := hnq.le; rw [hnq.size]; omega) ?_
      simp only [List.set_cons_zero, List.set_cons_succ]
      have hn_6 := hnq.set j (bits .xor .u8 (gt lq j) 255)
      refine L_end ?_
      intro w26 hw26
      change Code.wp _ _ _ _ _
      refine one_plain hw26 [0, 1] (by rfl) ?_
      refine L_val (.int .i64 ((j : Int) + 1)) (by rfl) (by exact hl_2) (gives_add (k := .i64) ((j : Int)) (1) ((j : Int) + 1) (by rfl) (by rfl) (IntWalk.i64_in _ (by omega))) ?_
      refine L_val (.int .i64 ((j : Int) + 1)) (by rfl) (by exact hl_2) (gives_value _ fun _ => by rfl) ?_
      refine L_end ?_
      intro w27 hw27
      change ∃ r' : Nat, r' < r_2 ∧ _
      refine ⟨_, ?_, j + 1, (csq.setIfInBounds (0 + (j)) (.int .u8 (bits .xor .u8 (gt lq j) 255))), lq.set j (bits .xor .u8 (gt lq j) 255), ((48, .int .i64 ((j : Int) + 1)) :: (57, .int .i64 ((j : Int) + 1)) :: (56, .pointer (some ⟨g3, 0 + (j), none⟩)) :: (55, .int .u8 (bits .xor .u8 (gt lq j) 255)) :: (54, .int .u8 (gt lq j)) :: (53, .pointer (some ⟨g3, 0 + (j), none⟩)) :: (52, .int .i64 (j : Int)) :: (51, .slice (some ⟨g3, 0, none⟩) mi cap_4) :: (10, .int .i64 (j : Int)) :: (50, .int .i64 (j : Int)) :: (49, .bool true) :: (0, .slice A0 n0 c0) :: (1, .int .i64 a1) :: (5, .pointer (some ⟨g1, 0, none⟩)) :: (6, .slice none 0 0) :: (7, .int .i64 (i : Int)) :: (8, .slice Ai mi ci) :: (19, .slice A0 n0 c0) :: (20, .int .i64 (n0 : Int)) :: (21, .int .i64 (i : Int)) :: (9, .slice (some ⟨g3, 0, none⟩) mi cap_4) :: (47, .int .i64 (mi : Int)) :: (48, .int .i64 (j : Int)) :: l_2), rfl, (by exact hl_2), (Eq.trans (Eq.trans (Eq.trans (Eq.trans (Eq.trans (Eq.trans (Eq.trans (Eq.trans (Eq.trans (Eq.trans (Eq.trans (fr_dup _ _ 48 _ (by exact hl_2) (by rfl) (by rfl)).symm (fr_dup _ _ 47 _ (by exact hl_2) (by rfl) (by rfl)).symm) (fr_dup _ _ 9 _ (by exact hl_2) (by rfl) (by rfl)).symm) (fr_dup _ _ 21 _ (by exact hl_2) (by rfl) (by rfl)).symm) (fr_dup _ _ 20 _ (by exact hl_2) (by rfl) (by rfl)).symm) (fr_dup _ _ 19 _ (by exact hl_2) (by rfl) (by rfl)).symm) (fr_dup _ _ 8 _ (by exact hl_2) (by rfl) (by rfl)).symm) (fr_dup _ _ 7 _ (by exact hl_2) (by rfl) (by rfl)).symm) (fr_dup _ _ 6 _ (by exact hl_2) (by rfl) (by rfl)).symm) (fr_dup _ _ 5 _ (by exact hl_2) (by rfl) (by rfl)).symm) (fr_dup _ _ 1 _ (by exact hl_2) (by rfl) (by rfl)).symm) (fr_dup _ _ 0 _ (by exact hl_2) (by rfl) (by rfl)).symm), by omega, hn_6, hw27⟩
      omega
    ·
      refine seq_plain hw0_2 [0] (by rfl) ?_
      refine L_val (.bool false) (by rfl) (by exact hl_2) (gives_lss (k := .i64) ((j : Int)) ((mi : Int)) false (by rfl) (by rfl) (decide_eq_false (by omega))) ?_
      refine L_end ?_
      intro w28 hw28
      refine wp_seq ?_
      refine wp_cond_false (fr_at _ _ (by exact hl_2) _) ?_
      refine wp_exit ?_
      change Code.wp _ _ _ _ _
      change Code.wp _ _ _ _ _
      refine seq_plain hw28 [0, 1, 2, 3] (by rfl) ?_
      refine L_val (.slice none 0 0) (by rfl) (by exact hl_2) (gives_value _ fun _ => by rfl) ?_
      refine L_val (.slice Ai mi ci) (by rfl) (by exact hl_2) (gives_value _ fun _ => by rfl) ?_
      refine L_pushA 1 ga mi ci Ai ([] : List Int) bi csa (by rfl) (by exact hl_2) und_u8s (by rfl) (by rfl) (by rfl) (AllIs.nil ga csa) (fun w h => ((hri.below h.below).more h.below.size)) (by simp only [List.length_nil]; omega) [(g3, 5, csq), (g1, 106, cs_5)] (by rfl) ?_; intro va_7 g4 cs_7 hn_7
      refine L_val (va_7) (by rfl) (by exact hl_2) (gives_value _ fun _ => by rfl) ?_
      refine L_end ?_
      intro w29 hw29
      refine seq_plain hw29 [0, 1, 2, 3] (by rfl) ?_
      refine L_val (.pointer (some ⟨g1, 0, none⟩)) (by rfl) (by exact hl_2) (gives_value _ fun _ => by rfl) ?_
      refine L_val (.agg (agg8 (digest (([] : List Int) ++ bi)))) (by rfl) (by exact hl_2) (gives_call (vl := [.pointer (some ⟨g1, 0, none⟩)]) (by kernel_rfl) (by rfl) (fun w h => st_sum w _ _ (([] : List Int) ++ bi) hn_5 (h.blk 2 (by rfl)) (hgl.below h.below h2) (Nat.le_trans h2 (h.ge 2 (by rfl))) (by rw [List.length_append, hbli]; simp only [List.length_nil]; omega))) ?_
      refine L_alloc _ (by rfl) (by exact hl_2) z_d32 (agg8 (List.replicate 32 (0 : Int))) rfl ?_; intro g5
      refine L_store (t := 50) 0 g5 (agg8 (List.replicate 32 (0 : Int))) (agg8 (digest (([] : List Int) ++ bi))) (by rfl) (by exact hl_2) (by rfl) (by rfl) (by rfl) (hi_d32 _ (digest_len _)) (by rw [agg8_size, agg8_size, show (digest (([] : List Int) ++ bi)).length = 32 from (digest_len _), show (List.replicate 32 (0 : Int)).length = 32 from (by simp)]) (agg8_one _) ?_
      simp only [List.set_cons_zero, List.set_cons_succ]
      refine L_end ?_
      intro w30 hw30
      refine seq_flow (by kernel_rfl) hw30 [] [(g5, 50, (agg8 (digest (([] : List Int) ++ bi)))), (g4, 5, cs_7), (g3, 5, csq), (g1, 106, cs_5)] 18 (by rfl) ?_
      refine flow_take (i := 0) (.pointer (some ⟨g1, 0, none⟩)) (by rfl) (by kernel_rfl) (by kernel_rfl) (by kernel_rfl) (by exact hl_2) (by kernel_rfl) (List.Sublist.refl _) (gives_value _ fun _ => by rfl) ?_
      refine flow_take (i := 1) (.int .i64 (((([] : List Int) ++ bi).length : Nat) : Int)) (by rfl) (by kernel_rfl) (by kernel_rfl) (by kernel_rfl) (by exact hl_2) (by kernel_rfl) (List.Sublist.refl _) (gives_call (vl := [.pointer (some ⟨g1, 0, none⟩)]) (by kernel_rfl) (by rfl) (fun w h => st_len w _ _ (([] : List Int) ++ bi) hn_5 (h.blk 3 (by rfl)))) ?_
      refine flow_take (i := 2) (va_7) (by rfl) (by kernel_rfl) (by kernel_rfl) (by kernel_rfl) (by exact hl_2) (by kernel_rfl) (List.Sublist.refl _) (gives_value _ fun _ => by rfl) ?_
      refine flow_take (i := 3) (.int .i64 (((([] : List Int) ++ bi).length : Nat) : Int)) (by rfl) (by kernel_rfl) (by kernel_rfl) (by kernel_rfl) (by exact hl_2) (by kernel_rfl) (List.Sublist.refl _) (gives_lenV (([] : List Int) ++ bi).length hn_7.len und_u8s (by rfl)) ?_
      refine flow_take (i := 4) (.bool false) (by rfl) (by kernel_rfl) (by kernel_rfl) (by kernel_rfl) (by exact hl_2) (by kernel_rfl) (List.Sublist.refl _) (gives_ine (k := .i64) ((((([] : List Int) ++ bi).length : Nat) : Int)) ((((([] : List Int) ++ bi).length : Nat) : Int)) false (by rfl) (by rfl) (decide_eq_false (by omega))) ?_
      refine flow_take (i := 5) (.bool false) (by rfl) (by kernel_rfl) (by kernel_rfl) (by kernel_rfl) (by exact hl_2) (by kernel_rfl) (List.Sublist.refl _) (gives_value _ fun _ => by rfl) ?_
      refine flow_take_g (i := 6) (dj := 68) (.pointer (some ⟨g1, 0, none⟩)) (by rfl) (by kernel_rfl) (by kernel_rfl) (by kernel_rfl) (by exact hl_2) (by kernel_rfl) (List.Sublist.refl _) (by rfl) (by rfl) (by rfl) (gives_value _ fun _ => by rfl) ?_
      refine flow_take_g (i := 7) (dj := 68) (.agg (agg8 (digest (([] : List Int) ++ bi)))) (by rfl) (by kernel_rfl) (by kernel_rfl) (by kernel_rfl) (by exact hl_2) (by kernel_rfl) (List.Sublist.refl _) (by rfl) (by rfl) (by rfl) (gives_call (vl := [.pointer (some ⟨g1, 0, none⟩)]) (by kernel_rfl) (by rfl) (fun w h => st_sum w _ _ (([] : List Int) ++ bi) hn_5 (h.blk 3 (by rfl)) (hgl.below h.below h2) (Nat.le_trans h2 (h.ge 3 (by rfl))) (by rw [List.length_append, hbli]; simp only [List.length_nil]; omega))) ?_
      refine flow_take_g (i := 8) (dj := 68) (.agg (agg8 (digest (([] : List Int) ++ bi)))) (by rfl) (by kernel_rfl) (by kernel_rfl) (by kernel_rfl) (by exact hl_2) (by kernel_rfl) (List.Sublist.refl _) (by rfl) (by rfl) (by rfl) (gives_load g5 0 50 (agg8 (digest (([] : List Int) ++ bi))) (agg8 (digest (([] : List Int) ++ bi))) _ (by rfl) (fun _ h => h.blk 0 (by rfl)) (Sl.refl _) Tryd.underlying50 (by rfl) (hi_d32 _ (digest_len _))) ?_
      refine flow_take_g (i := 9) (dj := 68) (.bool false) (by rfl) (by kernel_rfl) (by kernel_rfl) (by kernel_rfl) (by exact hl_2) (by kernel_rfl) (List.Sublist.refl _) (by rfl) (by rfl) (by rfl) (gives_neqs (agg8 (digest (([] : List Int) ++ bi))) (agg8 (digest (([] : List Int) ++ bi))) true (by rfl) (by rfl) (by kernel_rfl) (fun w => eq_d32_t (d := 9998) w (digest_len _) rfl)) ?_
      refine flow_take (i := 10) (.bool false) (by rfl) (by kernel_rfl) (by kernel_rfl) (by kernel_rfl) (by exact hl_2) (by kernel_rfl) (List.Sublist.refl _) (gives_value _ fun _ => by rfl) ?_
      refine flow_take (i := 11) (.bool false) (by rfl) (by kernel_rfl) (by kernel_rfl) (by kernel_rfl) (by exact hl_2) (by kernel_rfl) (List.Sublist.refl _) (gives_value _ fun _ => by rfl) ?_
      refine flow_take_g (i := 12) (dj := 74) (.agg (agg8 (digest (([] : List Int) ++ bi)))) (by rfl) (by kernel_rfl) (by kernel_rfl) (by kernel_rfl) (by exact hl_2) (by kernel_rfl) (List.Sublist.refl _) (by rfl) (by rfl) (by rfl) (gives_load g5 0 50 (agg8 (digest (([] : List Int) ++ bi))) (agg8 (digest (([] : List Int) ++ bi))) _ (by rfl) (fun _ h => h.blk 0 (by rfl)) (Sl.refl _) Tryd.underlying50 (by rfl) (hi_d32 _ (digest_len _))) ?_
      refine flow_take_g (i := 13) (dj := 74) (va_7) (by rfl) (by kernel_rfl) (by kernel_rfl) (by kernel_rfl) (by exact hl_2) (by kernel_rfl) (List.Sublist.refl _) (by rfl) (by rfl) (by rfl) (gives_value _ fun _ => by rfl) ?_
      refine flow_one 14 (by kernel_rfl) ?_
      refine F_freshP (vl := [va_7]) 5 .u8 32 (digest (([] : List Int) ++ bi)) (by rfl) (by exact hl_2) (Want.some (dj := 74) (by exact hl_2) (by rfl) (by rfl) (by rfl)) (by kernel_rfl) (by rfl) (List.Sublist.refl _) (fun w h => refsum_all w hn_7 (h.blk 1 (by rfl)) (by rw [List.length_append, hbli]; simp only [List.length_nil]; omega)) ?_; intro g6 cap_8 cs_8 hn_8
      refine flow_one 15 (by kernel_rfl) ?_
      refine F_val (vl := [.agg (agg8 (digest (([] : List Int) ++ bi))), .slice (some ⟨g6, 0, none⟩) 32 cap_8]) (.bool true) (by rfl) (by exact hl_2) (Want.some (dj := 74) (by exact hl_2) (by rfl) (by rfl) (by rfl)) (by kernel_rfl) (by rfl) (List.Sublist.cons _ (List.Sublist.refl _)) (fun w h => c_is w (digest (([] : List Int) ++ bi)) (digest_len _) _ _ _ (digest (([] : List Int) ++ bi)) (hn_8.reads (h.blk 0 (by rfl))) (by omega) rfl) ?_
      refine flow_take_g (i := 16) (dj := 74) (.bool false) (by rfl) (by kernel_rfl) (by kernel_rfl) (by kernel_rfl) (by exact hl_2) (by kernel_rfl) (List.Sublist.cons _ (List.Sublist.refl _)) (by rfl) (by rfl) (by rfl) (gives_value _ fun _ => by rfl) ?_
      refine flow_take (i := 17) (.bool false) (by rfl) (by kernel_rfl) (by kernel_rfl) (by kernel_rfl) (by exact hl_2) (by kernel_rfl) (List.Sublist.cons _ (List.Sublist.refl _)) (gives_value _ fun _ => by rfl) ?_
      refine flow_done (by kernel_rfl) ?_
      intro w31 hw31
      refine wp_cond_false (fr_at _ _ (by exact hl_2) _) ?_
      refine wp_skip ?_
      change Code.wp _ _ _ _ _
      refine one_plain hw31 [0, 1] (by rfl) ?_
      refine L_val (.int .i64 ((i : Int) + 1)) (by rfl) (by exact hl_2) (gives_add (k := .i64) ((i : Int)) (1) ((i : Int) + 1) (by rfl) (by rfl) (IntWalk.i64_in _ (by omega))) ?_
      refine L_val (.int .i64 ((i : Int) + 1)) (by rfl) (by exact hl_2) (gives_value _ fun _ => by rfl) ?_
      refine L_end ?_
      intro w32 hw32
      change ∃ r' : Nat, r' < r_1 ∧ _
      refine ⟨_, ?_, i + 1, g4, cs_7, va_7, cs_5, (([] : List Int) ++ bi), ((21, .int .i64 ((i : Int) + 1)) :: (81, .int .i64 ((i : Int) + 1)) :: (80, .bool false) :: (79, .bool false) :: (78, .bool true) :: (77, .slice (some ⟨g6, 0, none⟩) 32 cap_8) :: (76, va_7) :: (75, .agg (agg8 (digest (([] : List Int) ++ bi)))) :: (74, .bool false) :: (73, .bool false) :: (72, .bool false) :: (71, .agg (agg8 (digest (([] : List Int) ++ bi)))) :: (70, .agg (agg8 (digest (([] : List Int) ++ bi)))) :: (69, .pointer (some ⟨g1, 0, none⟩)) :: (68, .bool false) :: (67, .bool false) :: (66, .int .i64 (((([] : List Int) ++ bi).length : Nat) : Int)) :: (65, va_7) :: (64, .int .i64 (((([] : List Int) ++ bi).length : Nat) : Int)) :: (63, .pointer (some ⟨g1, 0, none⟩)) :: (11, .pointer (some ⟨g5, 0, none⟩)) :: (62, .agg (agg8 (digest (([] : List Int) ++ bi)))) :: (61, .pointer (some ⟨g1, 0, none⟩)) :: (6, va_7) :: (60, va_7) :: (59, .slice Ai mi ci) :: (58, .slice none 0 0) :: (49, .bool false) :: (0, .slice A0 n0 c0) :: (1, .int .i64 a1) :: (5, .pointer (some ⟨g1, 0, none⟩)) :: (6, .slice none 0 0) :: (7, .int .i64 (i : Int)) :: (8, .slice Ai mi ci) :: (19, .slice A0 n0 c0) :: (20, .int .i64 (n0 : Int)) :: (21, .int .i64 (i : Int)) :: (9, .slice (some ⟨g3, 0, none⟩) mi cap_4) :: (47, .int .i64 (mi : Int)) :: (48, .int .i64 (j : Int)) :: l_2), rfl, (by exact hl_2), (Eq.trans (Eq.trans (Eq.trans (Eq.trans (Eq.trans (Eq.trans (fr_dup _ _ 21 _ (by exact hl_2) (by rfl) (by rfl)).symm (fr_dup _ _ 20 _ (by exact hl_2) (by rfl) (by rfl)).symm) (fr_dup _ _ 19 _ (by exact hl_2) (by rfl) (by rfl)).symm) (fr_dup _ _ 6 _ (by exact hl_2) (by rfl) (by rfl)).symm) (fr_dup _ _ 5 _ (by exact hl_2) (by rfl) (by rfl)).symm) (fr_dup _ _ 1 _ (by exact hl_2) (by rfl) (by rfl)).symm) (fr_dup _ _ 0 _ (by exact hl_2) (by rfl) (by rfl)).symm), by omega, hn_5, hn_7, (by rw [List.nil_append, hbli]; omega), (hw32.sub (List.Sublist.cons _ (List.Sublist.cons _ (List.Sublist.cons_cons _ (List.Sublist.cons _ (List.Sublist.cons_cons _ (List.Sublist.refl _)))))))⟩
      omega
  ·
    have hbli : bi.length = mi := by simpa using hri.1
    refine seq_plain hw0_1 [0] (by rfl) ?_
    refine L_val (.bool true) (by rfl) (by exact hl_1) (gives_lss (k := .i64) ((i : Int)) ((n0 : Int)) true (by rfl) (by rfl) (decide_eq_true (by omega))) ?_
    refine L_end ?_
    intro w33 hw33
    refine wp_seq ?_
    refine wp_cond_true (fr_at _ _ (by exact hl_1) _) ?_
    refine wp_skip ?_
    change Code.wp _ _ _ _ _
    refine wp_seq ?_
    refine wp_block ?_
    refine seq_plain hw33 [0, 1, 2, 3, 4] (by rfl) ?_
    refine L_val (.int .i64 (i : Int)) (by rfl) (by exact hl_1) (gives_value _ fun _ => by rfl) ?_
    refine L_val (.pointer (some ⟨b0, o0 + (i), none⟩)) (by rfl) (by exact hl_1) (gives_index_old A0 n0 c0 ((i : Int)) (i) _ _ hA0 (by rfl) (by rfl) und_pss slice_sz rfl (by omega)) ?_
    refine L_val (.slice Ai mi ci) (by rfl) (by exact hl_1) (gives_load_oldS _ (.slice Ai mi ci) (by rfl) (fun _ h => (h.below.cell (p := ⟨b0, _, none⟩) hq0).trans hce0) und_u8s) ?_
    refine L_val (.int .i64 (i : Int)) (by rfl) (by exact hl_1) (gives_value _ fun _ => by rfl) ?_
    refine L_val (.slice Ai mi ci) (by rfl) (by exact hl_1) (gives_value _ fun _ => by rfl) ?_
    refine L_end ?_
    intro w34 hw34
    refine wp_seq ?_
    refine seq_plain hw34 [0, 1, 2, 3, 4, 5, 6, 7, 8, 9] (by rfl) ?_
    refine L_val (va) (by rfl) (by exact hl_1) (gives_value _ fun _ => by rfl) ?_
    refine L_val (.int .i64 ((M.length : Nat) : Int)) (by rfl) (by exact hl_1) (gives_lenV M.length hal.len und_u8s (by rfl)) ?_
    refine L_val (.slice Ai mi ci) (by rfl) (by exact hl_1) (gives_value _ fun _ => by rfl) ?_
    refine L_val (.int .i64 (mi : Int)) (by rfl) (by exact hl_1) (gives_len _ mi ci und_u8s (by rfl)) ?_
    refine L_val (.int .i64 (((M.length : Nat) : Int) + (mi : Int))) (by rfl) (by exact hl_1) (gives_add (k := .i64) (((M.length : Nat) : Int)) ((mi : Int)) (((M.length : Nat) : Int) + (mi : Int)) (by rfl) (by rfl) (IntWalk.i64_in _ (by omega))) ?_
    refine L_val (.bool false) (by rfl) (by exact hl_1) (gives_gtr (k := .i64) (((M.length : Nat) : Int) + (mi : Int)) (16384) false (by rfl) (by rfl) (decide_eq_false (by omega))) ?_
    refine L_val (.bool false) (by rfl) (by exact hl_1) (gives_value _ fun _ => by rfl) ?_
    refine L_val_g (dj := 32) (.int .i64 (i : Int)) (by rfl) (by exact hl_1) (by rfl) (by rfl) (by rfl) (gives_value _ fun _ => by rfl) ?_
    refine L_val_g (dj := 32) (.bool false) (by rfl) (by exact hl_1) (by rfl) (by rfl) (by rfl) (gives_gtr (k := .i64) ((i : Int)) (40) false (by rfl) (by rfl) (decide_eq_false (by omega))) ?_
    refine L_val (.bool false) (by rfl) (by exact hl_1) (gives_value _ fun _ => by rfl) ?_
    refine L_end ?_
    intro w35 hw35
    refine wp_cond_false (fr_at _ _ (by exact hl_1) _) ?_
    refine wp_skip ?_
    change Code.wp _ _ _ _ _
    refine wp_seq ?_
    refine seq_plain hw35 [0, 1, 2] (by rfl) ?_
    refine L_val (.int .i64 (i : Int)) (by rfl) (by exact hl_1) (gives_value _ fun _ => by rfl) ?_
    refine L_val (.int .i64 a1) (by rfl) (by exact hl_1) (gives_value _ fun _ => by rfl) ?_
    refine L_val (.bool false) (by rfl) (by exact hl_1) (gives_ieq (k := .i64) ((i : Int)) (a1) false (by rfl) (by rfl) (decide_eq_false (by omega))) ?_
    refine L_end ?_
    intro w36 hw36
    refine wp_cond_false (fr_at _ _ (by exact hl_1) _) ?_
    refine wp_skip ?_
    change Code.wp _ _ _ _ _
    refine seq_plain hw36 [0, 1, 2] (by rfl) ?_
    refine L_val (.slice Ai mi ci) (by rfl) (by exact hl_1) (gives_value _ fun _ => by rfl) ?_
    refine L_freshP (vl := [.slice Ai mi ci]) 5 .u8 mi bi (by rfl) (by exact hl_1) Want.none (by kernel_rfl) (by rfl) (fun w h => c_copy w _ _ _ bi ((hri.below h.below).more h.below.size) (by omega)) ?_; intro g7 cap_9 cs_9 hn_9
    refine L_val (.slice (some ⟨g7, 0, none⟩) mi cap_9) (by rfl) (by exact hl_1) (gives_value _ fun _ => by rfl) ?_
    refine L_end ?_
    intro w37 hw37
    refine seq_plain hw37 [0, 1, 2] (by rfl) ?_
    refine L_val (.pointer (some ⟨g1, 0, none⟩)) (by rfl) (by exact hl_1) (gives_value _ fun _ => by rfl) ?_
    refine L_val (.slice (some ⟨g7, 0, none⟩) mi cap_9) (by rfl) (by exact hl_1) (gives_value _ fun _ => by rfl) ?_
    refine L_mut (vl := [.pointer (some ⟨g1, 0, none⟩), .slice (some ⟨g7, 0, none⟩) mi cap_9]) 2 g1 106 csx (.tuple #[]) (fun cs => HashC cs (M ++ bi)) (by rfl) (by exact hl_1) Want.none (by kernel_rfl) (by rfl) (by rfl) (fun w h => st_write w g1 csx M bi (some ⟨g7, 0, none⟩) mi cap_9 hhc (h.blk 2 (by rfl)) (hn_9.src (h.blk 0 (by rfl)) (hbl_ne h 0 2 (by rfl) (by rfl) (by rfl))) (hn_9.le) (hgl.below h.below h2) (Nat.le_trans h2 (h.ge 2 (by rfl))) (by omega)) ?_; intro cs_10 hn_10; simp only [List.set_cons_zero, List.set_cons_succ]
    refine L_end ?_
    intro w38 hw38
    refine wp_seq ?_
    refine seq_plain hw38 [0, 1, 2] (by rfl) ?_
    refine L_val (.slice (some ⟨g7, 0, none⟩) mi cap_9) (by rfl) (by exact hl_1) (gives_value _ fun _ => by rfl) ?_
    refine L_val (.int .i64 (mi : Int)) (by rfl) (by exact hl_1) (gives_len _ mi cap_9 und_u8s (by rfl)) ?_
    refine L_val (.int .i64 0) (by rfl) (by exact hl_1) (gives_value _ fun _ => by rfl) ?_
    refine L_end ?_
    intro w39 hw39
    refine wp_block ?_
    refine loop_down (fun (r_ : Nat) a w => ∃ (j : Nat) (csq : Array Value) (lq : List Int) (l_3 : List (Nat × Value)), mi - j = r_ ∧ inFr 96 l_3 = true ∧ a = fr 96 ((0, .slice A0 n0 c0) :: (1, .int .i64 a1) :: (5, .pointer (some ⟨g1, 0, none⟩)) :: (6, va) :: (7, .int .i64 (i : Int)) :: (8, .slice Ai mi ci) :: (19, .slice A0 n0 c0) :: (20, .int .i64 (n0 : Int)) :: (21, .int .i64 (i : Int)) :: (9, .slice (some ⟨g7, 0, none⟩) mi cap_9) :: (47, .int .i64 (mi : Int)) :: (48, .int .i64 (j : Int)) :: l_3) ∧ (j ≤ mi) ∧ (Nms .u8 csq cap_9 mi lq) ∧ Hbl v [(g7, 5, csq), (ga, 5, csa), (g1, 106, cs_10)] w) ?_ _ _ _ ⟨0, cs_9, bi, ((48, .int .i64 0) :: (47, .int .i64 (mi : Int)) :: (46, .slice (some ⟨g7, 0, none⟩) mi cap_9) :: (45, .tuple #[]) :: (44, .slice (some ⟨g7, 0, none⟩) mi cap_9) :: (43, .pointer (some ⟨g1, 0, none⟩)) :: (9, .slice (some ⟨g7, 0, none⟩) mi cap_9) :: (42, .slice (some ⟨g7, 0, none⟩) mi cap_9) :: (41, .slice Ai mi ci) :: (38, .bool false) :: (37, .int .i64 a1) :: (36, .int .i64 (i : Int)) :: (35, .bool false) :: (34, .bool false) :: (33, .int .i64 (i : Int)) :: (32, .bool false) :: (31, .bool false) :: (30, .int .i64 (((M.length : Nat) : Int) + (mi : Int))) :: (29, .int .i64 (mi : Int)) :: (28, .slice Ai mi ci) :: (27, .int .i64 ((M.length : Nat) : Int)) :: (26, va) :: (8, .slice Ai mi ci) :: (7, .int .i64 (i : Int)) :: (25, .slice Ai mi ci) :: (24, .pointer (some ⟨b0, o0 + (i), none⟩)) :: (23, .int .i64 (i : Int)) :: (22, .bool true) :: (0, .slice A0 n0 c0) :: (1, .int .i64 a1) :: (5, .pointer (some ⟨g1, 0, none⟩)) :: (6, va) :: (19, .slice A0 n0 c0) :: (20, .int .i64 (n0 : Int)) :: (21, .int .i64 (i : Int)) :: l_1), rfl, (by exact hl_1), (Eq.trans (Eq.trans (Eq.trans (Eq.trans (Eq.trans (Eq.trans (Eq.trans (Eq.trans (Eq.trans (Eq.trans (Eq.trans (fr_dup _ _ 48 _ (by exact hl_1) (by rfl) (by rfl)).symm (fr_dup _ _ 47 _ (by exact hl_1) (by rfl) (by rfl)).symm) (fr_dup _ _ 9 _ (by exact hl_1) (by rfl) (by rfl)).symm) (fr_dup _ _ 21 _ (by exact hl_1) (by rfl) (by rfl)).symm) (fr_dup _ _ 20 _ (by exact hl_1) (by rfl) (by rfl)).symm) (fr_dup _ _ 19 _ (by exact hl_1) (by rfl) (by rfl)).symm) (fr_dup _ _ 8 _ (by exact hl_1) (by rfl) (by rfl)).symm) (fr_dup _ _ 7 _ (by exact hl_1) (by rfl) (by rfl)).symm) (fr_dup _ _ 6 _ (by exact hl_1) (by rfl) (by rfl)).symm) (fr_dup _ _ 5 _ (by exact hl_1) (by rfl) (by rfl)).symm) (fr_dup _ _ 1 _ (by exact hl_1) (by rfl) (by rfl)).symm) (fr_dup _ _ 0 _ (by exact hl_1) (by rfl) (by rfl)).symm), Nat.zero_le _, hn_9, hw39⟩
    rintro r_3 a0 w0_3 ⟨j, csq, lq, l_3, hr_3, hl_3, rfl, hj, hnq, hw0_3⟩
    by_cases hltj : j < mi
    ·
      refine seq_plain hw0_3 [0] (by rfl) ?_
      refine L_val (.bool true) (by rfl) (by exact hl_3) (gives_lss (k := .i64) ((j : Int)) ((mi : Int)) true (by rfl) (by rfl) (decide_eq_true (by omega))) ?_
      refine L_end ?_
      intro w40 hw40
      refine wp_seq ?_
      refine wp_cond_true (fr_at _ _ (by exact hl_3) _) ?_
      refine wp_skip ?_
      change Code.wp _ _ _ _ _
      refine wp_seq ?_
      refine wp_block ?_
      refine seq_plain hw40 [0, 1] (by rfl) ?_
      refine L_val (.int .i64 (j : Int)) (by rfl) (by exact hl_3) (gives_value _ fun _ => by rfl) ?_
      refine L_val (.int .i64 (j : Int)) (by rfl) (by exact hl_3) (gives_value _ fun _ => by rfl) ?_
      refine L_end ?_
      intro w41 hw41
      refine one_plain hw41 [0, 1, 2, 3, 4, 5, 6] (by rfl) ?_
      refine L_val (.slice (some ⟨g7, 0, none⟩) mi cap_9) (by rfl) (by exact hl_3) (gives_value _ fun _ => by rfl) ?_
      refine L_val (.int .i64 (j : Int)) (by rfl) (by exact hl_3) (gives_value _ fun _ => by rfl) ?_
      refine L_val (.pointer (some ⟨g7, 0 + (j), none⟩)) (by rfl) (by exact hl_3) (gives_index g7 0 (mi) (cap_9) ((j : Int)) (j) (by rfl) (by rfl) und_u8s u8_sz rfl (by omega)) ?_
      refine L_val (.int .u8 (gt lq j)) (by rfl) (by exact hl_3) (gives_load1 g7 (0 + (j)) _ csq (.int .u8 (gt lq j)) (by rfl) (fun _ h => h.blk 0 (by rfl)) (hnq.get (by omega)) und_u8') ?_
      refine L_val (.int .u8 (bits .xor .u8 (gt lq j) 255)) (by rfl) (by exact hl_3) (gives_xorB (k := .u8) (gt lq j) (255) (by rfl) (by rfl)) ?_
      refine L_val (.pointer (some ⟨g7, 0 + (j), none⟩)) (by rfl) (by exact hl_3) (gives_index g7 0 (mi) (cap_9) ((j : Int)) (j) (by rfl) (by rfl) und_u8s u8_sz rfl (by omega)) ?_
      refine L_store1 0 g7 (0 + (j)) _ csq (.int .u8 (bits .xor .u8 (gt lq j) 255)) (by rfl) (by exact hl_3) (by rfl) (by rfl) rfl (by rfl) u8_sz (by have := hnq.le; rw [hnq.size]; omega) ?_
      simp only [List.set_cons_zero, List.set_cons_succ]
      have hn_11 := hnq.set j (bits .xor .u8 (gt lq j) 255)
      refine L_end ?_
      intro w42 hw42
      change Code.wp _ _ _ _ _
      refine one_plain hw42 [0, 1] (by rfl) ?_
      refine L_val (.int .i64 ((j : Int) + 1)) (by rfl) (by exact hl_3) (gives_add (k := .i64) ((j : Int)) (1) ((j : Int) + 1) (by rfl) (by rfl) (IntWalk.i64_in _ (by omega))) ?_
      refine L_val (.int .i64 ((j : Int) + 1)) (by rfl) (by exact hl_3) (gives_value _ fun _ => by rfl) ?_
      refine L_end ?_
      intro w43 hw43
      change ∃ r' : Nat, r' < r_3 ∧ _
      refine ⟨_, ?_, j + 1, (csq.setIfInBounds (0 + (j)) (.int .u8 (bits .xor .u8 (gt lq j) 255))), lq.set j (bits .xor .u8 (gt lq j) 255), ((48, .int .i64 ((j : Int) + 1)) :: (57, .int .i64 ((j : Int) + 1)) :: (56, .pointer (some ⟨g7, 0 + (j), none⟩)) :: (55, .int .u8 (bits .xor .u8 (gt lq j) 255)) :: (54, .int .u8 (gt lq j)) :: (53, .pointer (some ⟨g7, 0 + (j), none⟩)) :: (52, .int .i64 (j : Int)) :: (51, .slice (some ⟨g7, 0, none⟩) mi cap_9) :: (10, .int .i64 (j : Int)) :: (50, .int .i64 (j : Int)) :: (49, .bool true) :: (0, .slice A0 n0 c0) :: (1, .int .i64 a1) :: (5, .pointer (some ⟨g1, 0, none⟩)) :: (6, va) :: (7, .int .i64 (i : Int)) :: (8, .slice Ai mi ci) :: (19, .slice A0 n0 c0) :: (20, .int .i64 (n0 : Int)) :: (21, .int .i64 (i : Int)) :: (9, .slice (some ⟨g7, 0, none⟩) mi cap_9) :: (47, .int .i64 (mi : Int)) :: (48, .int .i64 (j : Int)) :: l_3), rfl, (by exact hl_3), (Eq.trans (Eq.trans (Eq.trans (Eq.trans (Eq.trans (Eq.trans (Eq.trans (Eq.trans (Eq.trans (Eq.trans (Eq.trans (fr_dup _ _ 48 _ (by exact hl_3) (by rfl) (by rfl)).symm (fr_dup _ _ 47 _ (by exact hl_3) (by rfl) (by rfl)).symm) (fr_dup _ _ 9 _ (by exact hl_3) (by rfl) (by rfl)).symm) (fr_dup _ _ 21 _ (by exact hl_3) (by rfl) (by rfl)).symm) (fr_dup _ _ 20 _ (by exact hl_3) (by rfl) (by rfl)).symm) (fr_dup _ _ 19 _ (by exact hl_3) (by rfl) (by rfl)).symm) (fr_dup _ _ 8 _ (by exact hl_3) (by rfl) (by rfl)).symm) (fr_dup _ _ 7 _ (by exact hl_3) (by rfl) (by rfl)).symm) (fr_dup _ _ 6 _ (by exact hl_3) (by rfl) (by rfl)).symm) (fr_dup _ _ 5 _ (by exact hl_3) (by rfl) (by rfl)).symm) (fr_dup _ _ 1 _ (by exact hl_3) (by rfl) (by rfl)).symm) (fr_dup _ _ 0 _ (by exact hl_3) (by rfl) (by rfl)).symm), by omega, hn_11, hw43⟩
      omega
    ·
      refine seq_plain hw0_3 [0] (by rfl) ?_
      refine L_val (.bool false) (by rfl) (by exact hl_3) (gives_lss (k := .i64) ((j : Int)) ((mi : Int)) false (by rfl) (by rfl) (decide_eq_false (by omega))) ?_
      refine L_end ?_
      intro w44 hw44
      refine wp_seq ?_
      refine wp_cond_false (fr_at _ _ (by exact hl_3) _) ?_
      refine wp_exit ?_
      change Code.wp _ _ _ _ _
      change Code.wp _ _ _ _ _
      refine seq_plain hw44 [0, 1, 2, 3] (by rfl) ?_
      refine L_val (va) (by rfl) (by exact hl_3) (gives_value _ fun _ => by rfl) ?_
      refine L_val (.slice Ai mi ci) (by rfl) (by exact hl_3) (gives_value _ fun _ => by rfl) ?_
      refine L_pushA 1 ga mi ci Ai M bi csa (by rfl) (by exact hl_3) und_u8s (by rfl) (by rfl) (by rfl) hal (fun w h => ((hri.below h.below).more h.below.size)) (by omega) [(g7, 5, csq), (g1, 106, cs_10)] (by rfl) ?_; intro va_12 g8 cs_12 hn_12
      refine L_val (va_12) (by rfl) (by exact hl_3) (gives_value _ fun _ => by rfl) ?_
      refine L_end ?_
      intro w45 hw45
      refine seq_plain hw45 [0, 1, 2, 3] (by rfl) ?_
      refine L_val (.pointer (some ⟨g1, 0, none⟩)) (by rfl) (by exact hl_3) (gives_value _ fun _ => by rfl) ?_
      refine L_val (.agg (agg8 (digest (M ++ bi)))) (by rfl) (by exact hl_3) (gives_call (vl := [.pointer (some ⟨g1, 0, none⟩)]) (by kernel_rfl) (by rfl) (fun w h => st_sum w _ _ (M ++ bi) hn_10 (h.blk 2 (by rfl)) (hgl.below h.below h2) (Nat.le_trans h2 (h.ge 2 (by rfl))) (by rw [List.length_append, hbli]; omega))) ?_
      refine L_alloc _ (by rfl) (by exact hl_3) z_d32 (agg8 (List.replicate 32 (0 : Int))) rfl ?_; intro g9
      refine L_store (t := 50) 0 g9 (agg8 (List.replicate 32 (0 : Int))) (agg8 (digest (M ++ bi))) (by rfl) (by exact hl_3) (by rfl) (by rfl) (by rfl) (hi_d32 _ (digest_len _)) (by rw [agg8_size, agg8_size, show (digest (M ++ bi)).length = 32 from (digest_len _), show (List.replicate 32 (0 : Int)).length = 32 from (by simp)]) (agg8_one _) ?_
      simp only [List.set_cons_zero, List.set_cons_succ]
      refine L_end ?_
      intro w46 hw46
      refine seq_flow (by kernel_rfl) hw46 [] [(g9, 50, (agg8 (digest (M ++ bi)))), (g8, 5, cs_12), (g7, 5, csq), (g1, 106, cs_10)] 18 (by rfl) ?_
      refine flow_take (i := 0) (.pointer (some ⟨g1, 0, none⟩)) (by rfl) (by kernel_rfl) (by kernel_rfl) (by kernel_rfl) (by exact hl_3) (by kernel_rfl) (List.Sublist.refl _) (gives_value _ fun _ => by rfl) ?_
      refine flow_take (i := 1) (.int .i64 (((M ++ bi).length : Nat) : Int)) (by rfl) (by kernel_rfl) (by kernel_rfl) (by kernel_rfl) (by exact hl_3) (by kernel_rfl) (List.Sublist.refl _) (gives_call (vl := [.pointer (some ⟨g1, 0, none⟩)]) (by kernel_rfl) (by rfl) (fun w h => st_len w _ _ (M ++ bi) hn_10 (h.blk 3 (by rfl)))) ?_
      refine flow_take (i := 2) (va_12) (by rfl) (by kernel_rfl) (by kernel_rfl) (by kernel_rfl) (by exact hl_3) (by kernel_rfl) (List.Sublist.refl _) (gives_value _ fun _ => by rfl) ?_
      refine flow_take (i := 3) (.int .i64 (((M ++ bi).length : Nat) : Int)) (by rfl) (by kernel_rfl) (by kernel_rfl) (by kernel_rfl) (by exact hl_3) (by kernel_rfl) (List.Sublist.refl _) (gives_lenV (M ++ bi).length hn_12.len und_u8s (by rfl)) ?_
      refine flow_take (i := 4) (.bool false) (by rfl) (by kernel_rfl) (by kernel_rfl) (by kernel_rfl) (by exact hl_3) (by kernel_rfl) (List.Sublist.refl _) (gives_ine (k := .i64) ((((M ++ bi).length : Nat) : Int)) ((((M ++ bi).length : Nat) : Int)) false (by rfl) (by rfl) (decide_eq_false (by omega))) ?_
      refine flow_take (i := 5) (.bool false) (by rfl) (by kernel_rfl) (by kernel_rfl) (by kernel_rfl) (by exact hl_3) (by kernel_rfl) (List.Sublist.refl _) (gives_value _ fun _ => by rfl) ?_
      refine flow_take_g (i := 6) (dj := 68) (.pointer (some ⟨g1, 0, none⟩)) (by rfl) (by kernel_rfl) (by kernel_rfl) (by kernel_rfl) (by exact hl_3) (by kernel_rfl) (List.Sublist.refl _) (by rfl) (by rfl) (by rfl) (gives_value _ fun _ => by rfl) ?_
      refine flow_take_g (i := 7) (dj := 68) (.agg (agg8 (digest (M ++ bi)))) (by rfl) (by kernel_rfl) (by kernel_rfl) (by kernel_rfl) (by exact hl_3) (by kernel_rfl) (List.Sublist.refl _) (by rfl) (by rfl) (by rfl) (gives_call (vl := [.pointer (some ⟨g1, 0, none⟩)]) (by kernel_rfl) (by rfl) (fun w h => st_sum w _ _ (M ++ bi) hn_10 (h.blk 3 (by rfl)) (hgl.below h.below h2) (Nat.le_trans h2 (h.ge 3 (by rfl))) (by rw [List.length_append, hbli]; omega))) ?_
      refine flow_take_g (i := 8) (dj := 68) (.agg (agg8 (digest (M ++ bi)))) (by rfl) (by kernel_rfl) (by kernel_rfl) (by kernel_rfl) (by exact hl_3) (by kernel_rfl) (List.Sublist.refl _) (by rfl) (by rfl) (by rfl) (gives_load g9 0 50 (agg8 (digest (M ++ bi))) (agg8 (digest (M ++ bi))) _ (by rfl) (fun _ h => h.blk 0 (by rfl)) (Sl.refl _) Tryd.underlying50 (by rfl) (hi_d32 _ (digest_len _))) ?_
      refine flow_take_g (i := 9) (dj := 68) (.bool false) (by rfl) (by kernel_rfl) (by kernel_rfl) (by kernel_rfl) (by exact hl_3) (by kernel_rfl) (List.Sublist.refl _) (by rfl) (by rfl) (by rfl) (gives_neqs (agg8 (digest (M ++ bi))) (agg8 (digest (M ++ bi))) true (by rfl) (by rfl) (by kernel_rfl) (fun w => eq_d32_t (d := 9998) w (digest_len _) rfl)) ?_
      refine flow_take (i := 10) (.bool false) (by rfl) (by kernel_rfl) (by kernel_rfl) (by kernel_rfl) (by exact hl_3) (by kernel_rfl) (List.Sublist.refl _) (gives_value _ fun _ => by rfl) ?_
      refine flow_take (i := 11) (.bool false) (by rfl) (by kernel_rfl) (by kernel_rfl) (by kernel_rfl) (by exact hl_3) (by kernel_rfl) (List.Sublist.refl _) (gives_value _ fun _ => by rfl) ?_
      refine flow_take_g (i := 12) (dj := 74) (.agg (agg8 (digest (M ++ bi)))) (by rfl) (by kernel_rfl) (by kernel_rfl) (by kernel_rfl) (by exact hl_3) (by kernel_rfl) (List.Sublist.refl _) (by rfl) (by rfl) (by rfl) (gives_load g9 0 50 (agg8 (digest (M ++ bi))) (agg8 (digest (M ++ bi))) _ (by rfl) (fun _ h => h.blk 0 (by rfl)) (Sl.refl _) Tryd.underlying50 (by rfl) (hi_d32 _ (digest_len _))) ?_
      refine flow_take_g (i := 13) (dj := 74) (va_12) (by rfl) (by kernel_rfl) (by kernel_rfl) (by kernel_rfl) (by exact hl_3) (by kernel_rfl) (List.Sublist.refl _) (by rfl) (by rfl) (by rfl) (gives_value _ fun _ => by rfl) ?_
      refine flow_one 14 (by kernel_rfl) ?_
      refine F_freshP (vl := [va_12]) 5 .u8 32 (digest (M ++ bi)) (by rfl) (by exact hl_3) (Want.some (dj := 74) (by exact hl_3) (by rfl) (by rfl) (by rfl)) (by kernel_rfl) (by rfl) (List.Sublist.refl _) (fun w h => refsum_all w hn_12 (h.blk 1 (by rfl)) (by rw [List.length_append, hbli]; omega)) ?_; intro g10 cap_13 cs_13 hn_13
      refine flow_one 15 (by kernel_rfl) ?_
      refine F_val (vl := [.agg (agg8 (digest (M ++ bi))), .slice (some ⟨g10, 0, none⟩) 32 cap_13]) (.bool true) (by rfl) (by exact hl_3) (Want.some (dj := 74) (by exact hl_3) (by rfl) (by rfl) (by rfl)) (by kernel_rfl) (by rfl) (List.Sublist.cons _ (List.Sublist.refl _)) (fun w h => c_is w (digest (M ++ bi)) (digest_len _) _ _ _ (digest (M ++ bi)) (hn_13.reads (h.blk 0 (by rfl))) (by omega) rfl) ?_
      refine flow_take_g (i := 16) (dj := 74) (.bool false) (by rfl) (by kernel_rfl) (by kernel_rfl) (by kernel_rfl) (by exact hl_3) (by kernel_rfl) (List.Sublist.cons _ (List.Sublist.refl _)) (by rfl) (by rfl) (by rfl) (gives_value _ fun _ => by rfl) ?_
      refine flow_take (i := 17) (.bool false) (by rfl) (by kernel_rfl) (by kernel_rfl) (by kernel_rfl) (by exact hl_3) (by kernel_rfl) (List.Sublist.cons _ (List.Sublist.refl _)) (gives_value _ fun _ => by rfl) ?_
      refine flow_done (by kernel_rfl) ?_
      intro w47 hw47
      refine wp_cond_false (fr_at _ _ (by exact hl_3) _) ?_
      refine wp_skip ?_
      change Code.wp _ _ _ _ _
      refine one_plain hw47 [0, 1] (by rfl) ?_
      refine L_val (.int .i64 ((i : Int) + 1)) (by rfl) (by exact hl_3) (gives_add (k := .i64) ((i : Int)) (1) ((i : Int) + 1) (by rfl) (by rfl) (IntWalk.i64_in _ (by omega))) ?_
      refine L_val (.int .i64 ((i : Int) + 1)) (by rfl) (by exact hl_3) (gives_value _ fun _ => by rfl) ?_
      refine L_end ?_
      intro w48 hw48
      change ∃ r' : Nat, r' < r_1 ∧ _
      refine ⟨_, ?_, i + 1, g8, cs_12, va_12, cs_10, (M ++ bi), ((21, .int .i64 ((i : Int) + 1)) :: (81, .int .i64 ((i : Int) + 1)) :: (80, .bool false) :: (79, .bool false) :: (78, .bool true) :: (77, .slice (some ⟨g10, 0, none⟩) 32 cap_13) :: (76, va_12) :: (75, .agg (agg8 (digest (M ++ bi)))) :: (74, .bool false) :: (73, .bool false) :: (72, .bool false) :: (71, .agg (agg8 (digest (M ++ bi)))) :: (70, .agg (agg8 (digest (M ++ bi)))) :: (69, .pointer (some ⟨g1, 0, none⟩)) :: (68, .bool false) :: (67, .bool false) :: (66, .int .i64 (((M ++ bi).length : Nat) : Int)) :: (65, va_12) :: (64, .int .i64 (((M ++ bi).length : Nat) : Int)) :: (63, .pointer (some ⟨g1, 0, none⟩)) :: (11, .pointer (some ⟨g9, 0, none⟩)) :: (62, .agg (agg8 (digest (M ++ bi)))) :: (61, .pointer (some ⟨g1, 0, none⟩)) :: (6, va_12) :: (60, va_12) :: (59, .slice Ai mi ci) :: (58, va) :: (49, .bool false) :: (0, .slice A0 n0 c0) :: (1, .int .i64 a1) :: (5, .pointer (some ⟨g1, 0, none⟩)) :: (6, va) :: (7, .int .i64 (i : Int)) :: (8, .slice Ai mi ci) :: (19, .slice A0 n0 c0) :: (20, .int .i64 (n0 : Int)) :: (21, .int .i64 (i : Int)) :: (9, .slice (some ⟨g7, 0, none⟩) mi cap_9) :: (47, .int .i64 (mi : Int)) :: (48, .int .i64 (j : Int)) :: l_3), rfl, (by exact hl_3), (Eq.trans (Eq.trans (Eq.trans (Eq.trans (Eq.trans (Eq.trans (fr_dup _ _ 21 _ (by exact hl_3) (by rfl) (by rfl)).symm (fr_dup _ _ 20 _ (by exact hl_3) (by rfl) (by rfl)).symm) (fr_dup _ _ 19 _ (by exact hl_3) (by rfl) (by rfl)).symm) (fr_dup _ _ 6 _ (by exact hl_3) (by rfl) (by rfl)).symm) (fr_dup _ _ 5 _ (by exact hl_3) (by rfl) (by rfl)).symm) (fr_dup _ _ 1 _ (by exact hl_3) (by rfl) (by rfl)).symm) (fr_dup _ _ 0 _ (by exact hl_3) (by rfl) (by rfl)).symm), by omega, hn_10, hn_12, (by rw [List.length_append, hbli]; omega), (hw48.sub (List.Sublist.cons _ (List.Sublist.cons _ (List.Sublist.cons_cons _ (List.Sublist.cons _ (List.Sublist.cons_cons _ (List.Sublist.refl _)))))))⟩
      omega
  ·
    refine seq_plain hw0_1 [0] (by rfl) ?_
    refine L_val (.bool false) (by rfl) (by exact hl_1) (gives_lss (k := .i64) ((i : Int)) ((n0 : Int)) false (by rfl) (by rfl) (decide_eq_false (by omega))) ?_
    refine L_end ?_
    intro w49 hw49
    refine wp_seq ?_
    refine wp_cond_false (fr_at _ _ (by exact hl_1) _) ?_
    refine wp_exit ?_
    change Code.wp _ _ _ _ _
    change Code.wp _ _ _ _ _
    refine seq_plain hw49 [0] (by rfl) ?_
    refine L_val (.pointer none) (by rfl) (by exact hl_1) (gives_value _ fun _ => by rfl) ?_
    refine L_end ?_
    intro w50 hw50
    refine seq_plain hw50 [0, 1, 2] (by rfl) ?_
    refine L_val (.pointer none) (by rfl) (by exact hl_1) (gives_value _ fun _ => by rfl) ?_
    refine L_buildV 1 (.int .u8 0) [.int .u8 1] (by rfl) (by exact hl_1) Want.none und_u8s u8_zs (by rfl) (by rfl) (by rfl) (by intro u hu; simp only [List.mem_cons, List.not_mem_nil, or_false] at hu; rcases hu with rfl <;> rfl) (by rfl) (by rfl) ?_; intro g11
    have hn_14 : Nms .u8 ([.int .u8 1] : List Value).toArray 1 1 [1] := Nms.all (by rfl) (by rfl) (by omega)
    refine L_val (.tuple #[]) (by rfl) (by exact hl_1) (gives_call (vl := [.pointer none, .slice (some ⟨g11, 0, none⟩) 1 1]) (by kernel_rfl) (by rfl) (fun w h => write_nil w _ _ _)) ?_
    refine L_end ?_
    intro w51 hw51
    refine seq_plain hw51 [0, 1] (by rfl) ?_
    refine L_val (.pointer none) (by rfl) (by exact hl_1) (gives_value _ fun _ => by rfl) ?_
    refine L_val (.tuple #[]) (by rfl) (by exact hl_1) (gives_call (vl := [.pointer none]) (by kernel_rfl) (by rfl) (fun w h => st_reset_nil w)) ?_
    refine L_end ?_
    intro w52 hw52
    refine seq_plain hw52 [0, 1, 2, 3, 4, 5, 6, 7, 8, 9] (by rfl) ?_
    refine L_val (.pointer none) (by rfl) (by exact hl_1) (gives_value _ fun _ => by rfl) ?_
    refine L_val (.int .i64 0) (by rfl) (by exact hl_1) (gives_call (vl := [.pointer none]) (by kernel_rfl) (by rfl) (fun w h => st_len_nil w)) ?_
    refine L_val (.bool true) (by rfl) (by exact hl_1) (gives_ieq (k := .i64) 0 0 true (by rfl) (by rfl) (by rfl)) ?_
    refine L_val (.bool true) (by rfl) (by exact hl_1) (gives_value _ fun _ => by rfl) ?_
    refine L_val_g (dj := 90) (.pointer none) (by rfl) (by exact hl_1) (by rfl) (by rfl) (by rfl) (gives_value _ fun _ => by rfl) ?_
    refine L_val_g (dj := 90) (.agg (agg8 (List.replicate 32 0))) (by rfl) (by exact hl_1) (by rfl) (by rfl) (by rfl) (gives_call (vl := [.pointer none]) (by kernel_rfl) (by rfl) (fun w h => sum_nil w)) ?_
    refine L_val_g (dj := 90) (.agg (agg8 (List.replicate 32 0))) (by rfl) (by exact hl_1) (by rfl) (by rfl) (by rfl) gb0_d32 ?_
    refine L_val_g (dj := 90) (.bool true) (by rfl) (by exact hl_1) (by rfl) (by rfl) (by rfl) (gives_eqls (agg8 (List.replicate 32 0)) (agg8 (List.replicate 32 0)) true (by rfl) (by rfl) (by kernel_rfl) (fun w => eq_d32_t (d := 9998) w (by rfl) rfl)) ?_
    refine L_val (.bool true) (by rfl) (by exact hl_1) (gives_value _ fun _ => by rfl) ?_
    refine L_val (.bool true) (by rfl) (by exact hl_1) (gives_value _ fun _ => by rfl) ?_
    refine L_end ?_
    intro w53 hw53
    refine wp_ret ?_
    change bodyPost _ _ _ Exit.ret _ _
    refine (ret_tmp (by rfl) (by exact hl_1) (by rfl) ⟨rfl, hw53.below⟩)
end Go.Proofs.YtialfoccalobpaaDoor
