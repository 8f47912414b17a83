/-
  ShaSums: the walk.
-/
import Derived.Test.YtgkfkfodeooogaaDoorShJoinR
namespace Go.Proofs.YtgkfkfodeooogaaDoor
set_option linter.unusedSimpArgs false
set_option linter.unusedVariables false
open Go.RowKit
attribute [local irreducible] wpL wpF fr Code.wp bodyPost
set_option maxRecDepth 100000 in
set_option maxHeartbeats 4000000 in
theorem sums_long (A0 : Option Addr) (n0 c0 : Nat) (ps0 : List (List Int)) (v : World) (hp0 : Pieces v v.heap.size A0 n0 ps0) (hb0 : ps0.flatten.length ≤ 1048576) (hm0 : n0 ≤ 1048576) (hgl : Glob v) (h2 : 2 ≤ v.heap.size) (hc : 65536 < ps0.flatten.length) : Rets 3 #[.slice A0 n0 c0] v (.bool true) := by
  refine calls_fr1 Tryd.func3 rfl (by rfl : _ = 55) (by rfl) ?_
  have hw := Hbl.nil v
  refine seq_plain hw [0] (by rfl) ?_
  refine L_val (.bool false) (by rfl) (by rfl) (gives_value _ fun _ => by rfl) ?_
  refine L_end ?_
  intro w1 hw1
  refine wp_seq ?_
  refine seq_plain hw1 [0, 1] (by rfl) ?_
  refine L_val (.bool true) (by rfl) (by rfl) (gives_call (vl := []) (by kernel_rfl) (by rfl) (fun w h => head_any w (hgl.below h.below h2) (Nat.le_trans h2 h.below.size))) ?_
  refine L_val (.bool false) (by rfl) (by rfl) (gives_value _ fun _ => by rfl) ?_
  refine L_end ?_
  intro w2 hw2
  refine wp_cond_false (fr_at _ _ (by rfl) _) ?_
  refine wp_skip ?_
  change Code.wp _ _ _ _ _
  refine seq_plain hw2 [0, 1] (by rfl) ?_
  refine L_build0 1 (by rfl) (by rfl) und_pss slice_sz ?_; intro g1
  refine L_val (.slice (some ⟨g1, 0, none⟩) 0 0) (by rfl) (by rfl) (gives_value _ fun _ => by rfl) ?_
  refine L_end ?_
  intro w3 hw3
  refine seq_plain hw3 [0] (by rfl) ?_
  refine L_val (.int .i64 0) (by rfl) (by rfl) (gives_value _ fun _ => by rfl) ?_
  refine L_end ?_
  intro w4 hw4
  refine wp_seq ?_
  refine seq_plain hw4 [0, 1, 2] (by rfl) ?_
  refine L_val (.slice A0 n0 c0) (by rfl) (by rfl) (gives_value _ fun _ => by rfl) ?_
  refine L_val (.int .i64 (n0 : Int)) (by rfl) (by rfl) (gives_len _ n0 c0 und_pss (by rfl)) ?_
  refine L_val (.int .i64 0) (by rfl) (by rfl) (gives_value _ fun _ => by rfl) ?_
  refine L_end ?_
  intro w5 hw5
  refine wp_block ?_
  refine loop_down (fun (r_ : Nat) a w => ∃ (i : Nat) (sn : Nat) (gm : Nat) (cm : Nat) (csm : Array Value) (xs : List Value) (Lc : List (Nat × TypeId × Array Value)) (l_1 : List (Nat × Value)), n0 - i = r_ ∧ inFr 55 l_1 = true ∧ a = fr 55 ((0, .slice A0 n0 c0) :: (3, .slice (some ⟨gm, 0, none⟩) i cm) :: (4, .int .i64 (sn : Int)) :: (12, .slice A0 n0 c0) :: (13, .int .i64 (n0 : Int)) :: (14, .int .i64 (i : Int)) :: l_1) ∧ (i ≤ n0) ∧ (sn = (ps0.take i).flatten.length) ∧ (Vls csm cm i xs) ∧ (CPx Lc xs (ps0.take i)) ∧ Hbl v ((gm, 24, csm) :: Lc) w) ?_ _ _ _ ⟨0, 0, g1, 0, #[], [], [], [(14, .int .i64 0), (13, .int .i64 (n0 : Int)), (12, .slice A0 n0 c0), (4, .int .i64 0), (3, .slice (some ⟨g1, 0, none⟩) 0 0), (11, .slice (some ⟨g1, 0, none⟩) 0 0), (10, .bool false), (9, .bool true), (2, .bool false), (0, .slice A0 n0 c0)], rfl, (by rfl), (Eq.trans (Eq.trans (Eq.trans (Eq.trans (Eq.trans (fr_dup _ _ 14 _ (by rfl) (by rfl) (by rfl)).symm (fr_dup _ _ 13 _ (by rfl) (by rfl) (by rfl)).symm) (fr_dup _ _ 12 _ (by rfl) (by rfl) (by rfl)).symm) (fr_dup _ _ 4 _ (by rfl) (by rfl) (by rfl)).symm) (fr_dup _ _ 3 _ (by rfl) (by rfl) (by rfl)).symm) (fr_dup _ _ 0 _ (by rfl) (by rfl) (by rfl)).symm), Nat.zero_le _, (by simp), Vls.nil, CPx.nil, hw5⟩
  rintro r_1 a0 w0_1 ⟨i, sn, gm, cm, csm, xs, Lc, l_1, hr_1, hl_1, rfl, hi, hsn, hvm, hcp, hw0_1⟩
  by_cases hlt : i < n0
  ·
    obtain ⟨b0, o0, Ai, mi, ci, bi, hA0, hq0, hce0, hnci, hri, htki⟩ := hp0.at_ (show i < n0 by omega)
    have hbli : bi.length = mi := by simpa using hri.1
    have hfli := flat_le ps0 (i + 1)
    have hfn := flat_next htki hbli hsn
    refine seq_plain hw0_1 [0] (by rfl) ?_
    refine L_val (.bool true) (by rfl) (by exact hl_1) (gives_lss (k := .i64) ((i : Int)) ((n0 : Int)) true (by rfl) (by rfl) (decide_eq_true (by omega))) ?_
    refine L_end ?_
    intro w6 hw6
    refine wp_seq ?_
    refine wp_cond_true (fr_at _ _ (by exact hl_1) _) ?_
    refine wp_skip ?_
    change Code.wp _ _ _ _ _
    refine wp_seq ?_
    refine wp_block ?_
    refine seq_plain hw6 [0, 1, 2] (by rfl) ?_
    refine L_val (.pointer (some ⟨b0, o0 + (i), none⟩)) (by rfl) (by exact hl_1) (gives_index_old A0 n0 c0 ((i : Int)) (i) _ _ hA0 (by rfl) (by rfl) und_pss slice_sz rfl (by omega)) ?_
    refine L_val (.slice Ai mi ci) (by rfl) (by exact hl_1) (gives_load_oldS _ (.slice Ai mi ci) (by rfl) (fun _ h => (h.below.cell (p := ⟨b0, _, none⟩) hq0).trans hce0) und_u8s) ?_
    refine L_val (.slice Ai mi ci) (by rfl) (by exact hl_1) (gives_value _ fun _ => by rfl) ?_
    refine L_end ?_
    intro w7 hw7
    refine seq_plain hw7 [0, 1, 2, 3, 4, 5] (by rfl) ?_
    refine L_val (.slice (some ⟨gm, 0, none⟩) i cm) (by rfl) (by exact hl_1) (gives_value _ fun _ => by rfl) ?_
    refine L_val (.slice Ai mi ci) (by rfl) (by exact hl_1) (gives_value _ fun _ => by rfl) ?_
    refine L_freshP (vl := [.slice Ai mi ci]) 5 .u8 mi bi (by rfl) (by exact hl_1) Want.none (by kernel_rfl) (by rfl) (fun w h => c_copy w _ _ _ bi ((hri.below h.below).more h.below.size) (by omega)) ?_; intro g2 cap_1 cs_1 hn_1
    refine L_buildV 1 (.slice none 0 0) [.slice (some ⟨g2, 0, none⟩) mi cap_1] (by rfl) (by exact hl_1) Want.none und_pss slice_zs (by rfl) (by rfl) (by rfl) (by intro u hu; simp only [List.mem_cons, List.not_mem_nil, or_false] at hu; rcases hu with rfl <;> rfl) (by rfl) (by rfl) ?_; intro g3
    refine L_pushV 2 gm i cm 1 1 24 (some ⟨g3, 0, none⟩) (.slice none 0 0) xs [.slice (some ⟨g2, 0, none⟩) mi cap_1] csm (by rfl) (by exact hl_1) Want.none und_pss slice_info rfl (by rfl) (by rfl) (by rfl) hvm (fun w h => vlit (h.blk 0 (by rfl))) (by intro u hu; simp only [List.mem_cons, List.not_mem_nil, or_false] at hu; subst hu; rfl) (by omega) (by rfl) ((g3, 24, ([.slice (some ⟨g2, 0, none⟩) mi cap_1] : List Value).toArray) :: (g2, 5, cs_1) :: Lc) (by rfl) ?_; intro g4 cap_2 cs_2 hn_2
    refine L_val (.slice (some ⟨g4, 0, none⟩) (i + 1) cap_2) (by rfl) (by exact hl_1) (gives_value _ fun _ => by rfl) ?_
    refine L_end ?_
    intro w8 hw8
    refine one_plain hw8 [0, 1, 2, 3, 4] (by rfl) ?_
    refine L_val (.int .i64 (sn : Int)) (by rfl) (by exact hl_1) (gives_value _ fun _ => by rfl) ?_
    refine L_val (.slice Ai mi ci) (by rfl) (by exact hl_1) (gives_value _ fun _ => by rfl) ?_
    refine L_val (.int .i64 (mi : Int)) (by rfl) (by exact hl_1) (gives_len _ mi ci und_u8s (by rfl)) ?_
    refine L_val (.int .i64 ((sn : Int) + (mi : Int))) (by rfl) (by exact hl_1) (gives_add (k := .i64) ((sn : Int)) ((mi : Int)) ((sn : Int) + (mi : Int)) (by rfl) (by rfl) (IntWalk.i64_in _ (by omega))) ?_
    refine L_val (.int .i64 ((sn : Int) + (mi : Int))) (by rfl) (by exact hl_1) (gives_value _ fun _ => by rfl) ?_
    refine L_end ?_
    intro w9 hw9
    change Code.wp _ _ _ _ _
    refine one_plain hw9 [0, 1] (by rfl) ?_
    refine L_val (.int .i64 ((i : Int) + 1)) (by rfl) (by exact hl_1) (gives_add (k := .i64) ((i : Int)) (1) ((i : Int) + 1) (by rfl) (by rfl) (IntWalk.i64_in _ (by omega))) ?_
    refine L_val (.int .i64 ((i : Int) + 1)) (by rfl) (by exact hl_1) (gives_value _ fun _ => by rfl) ?_
    refine L_end ?_
    intro w10 hw10
    change ∃ r' : Nat, r' < r_1 ∧ _
    refine ⟨_, ?_, i + 1, sn + mi, g4, cap_2, cs_2, xs ++ [.slice (some ⟨g2, 0, none⟩) mi cap_1], ((g2, 5, cs_1) :: Lc), ((14, .int .i64 ((i : Int) + 1)) :: (27, .int .i64 ((i : Int) + 1)) :: (4, .int .i64 ((sn : Int) + (mi : Int))) :: (26, .int .i64 ((sn : Int) + (mi : Int))) :: (25, .int .i64 (mi : Int)) :: (24, .slice Ai mi ci) :: (23, .int .i64 (sn : Int)) :: (3, .slice (some ⟨g4, 0, none⟩) (i + 1) cap_2) :: (22, .slice (some ⟨g4, 0, none⟩) (i + 1) cap_2) :: (21, .slice (some ⟨g3, 0, none⟩) 1 1) :: (20, .slice (some ⟨g2, 0, none⟩) mi cap_1) :: (19, .slice Ai mi ci) :: (18, .slice (some ⟨gm, 0, none⟩) i cm) :: (6, .slice Ai mi ci) :: (17, .slice Ai mi ci) :: (16, .pointer (some ⟨b0, o0 + (i), none⟩)) :: (15, .bool true) :: (0, .slice A0 n0 c0) :: (3, .slice (some ⟨gm, 0, none⟩) i cm) :: (4, .int .i64 (sn : Int)) :: (12, .slice A0 n0 c0) :: (13, .int .i64 (n0 : Int)) :: (14, .int .i64 (i : Int)) :: l_1), rfl, (by exact hl_1), (Eq.trans (Eq.trans (Eq.trans (Eq.trans (Eq.trans (fr_dup _ _ 14 _ (by exact hl_1) (by rfl) (by rfl)).symm (fr_dup _ _ 13 _ (by exact hl_1) (by rfl) (by rfl)).symm) (fr_dup _ _ 12 _ (by exact hl_1) (by rfl) (by rfl)).symm) (fr_dup _ _ 4 _ (by exact hl_1) (by rfl) (by rfl)).symm) (fr_dup _ _ 3 _ (by exact hl_1) (by rfl) (by rfl)).symm) (fr_dup _ _ 0 _ (by exact hl_1) (by rfl) (by rfl)).symm), by omega, hfn, hn_2, (by rw [htki]; exact hcp.snoc hn_1), (hw10.sub (List.Sublist.cons_cons _ (List.Sublist.cons _ (List.Sublist.cons_cons _ (List.Sublist.refl _)))))⟩
    omega
  ·
    refine seq_plain hw0_1 [0] (by rfl) ?_
    refine L_val (.bool false) (by rfl) (by exact hl_1) (gives_lss (k := .i64) ((i : Int)) ((n0 : Int)) false (by rfl) (by rfl) (decide_eq_false (by omega))) ?_
    refine L_end ?_
    intro w11 hw11
    refine wp_seq ?_
    refine wp_cond_false (fr_at _ _ (by exact hl_1) _) ?_
    refine wp_exit ?_
    have hall : ps0.take i = ps0 := List.take_of_length_le (by rw [hp0.1]; omega)
    rw [hall] at hsn hcp
    have hin : i = n0 := by omega
    subst i
    change Code.wp _ _ _ _ _
    change Code.wp _ _ _ _ _
    refine wp_seq ?_
    refine seq_plain hw11 [0, 1] (by rfl) ?_
    refine L_val (.int .i64 (sn : Int)) (by rfl) (by exact hl_1) (gives_value _ fun _ => by rfl) ?_
    refine L_val (.bool true) (by rfl) (by exact hl_1) (gives_gtr (k := .i64) ((sn : Int)) (65536) true (by rfl) (by rfl) (decide_eq_true (by omega))) ?_
    refine L_end ?_
    intro w12 hw12
    refine wp_cond_true (fr_at _ _ (by exact hl_1) _) ?_
    refine seq_plain hw12 [0] (by rfl) ?_
    refine L_val (.bool true) (by rfl) (by exact hl_1) (gives_value _ fun _ => by rfl) ?_
    refine L_end ?_
    intro w13 hw13
    refine wp_ret ?_
    change bodyPost _ _ _ Exit.ret _ _
    refine (ret_tmp (by rfl) (by exact hl_1) (by rfl) ⟨rfl, hw13.below⟩)
set_option maxRecDepth 100000 in
set_option maxHeartbeats 4000000 in
theorem sums_short (A0 : Option Addr) (n0 c0 : Nat) (ps0 : List (List Int)) (v : World) (hp0 : Pieces v v.heap.size A0 n0 ps0) (hb0 : ps0.flatten.length ≤ 1048576) (hm0 : n0 ≤ 1048576) (hgl : Glob v) (h2 : 2 ≤ v.heap.size) (hc : ps0.flatten.length ≤ 65536) : Rets 3 #[.slice A0 n0 c0] v (.bool true) := by
  refine calls_fr1 Tryd.func3 rfl (by rfl : _ = 55) (by rfl) ?_
  have hw := Hbl.nil v
  refine seq_plain hw [0] (by rfl) ?_
  refine L_val (.bool false) (by rfl) (by rfl) (gives_value _ fun _ => by rfl) ?_
  refine L_end ?_
  intro w1 hw1
  refine wp_seq ?_
  refine seq_plain hw1 [0, 1] (by rfl) ?_
  refine L_val (.bool true) (by rfl) (by rfl) (gives_call (vl := []) (by kernel_rfl) (by rfl) (fun w h => head_any w (hgl.below h.below h2) (Nat.le_trans h2 h.below.size))) ?_
  refine L_val (.bool false) (by rfl) (by rfl) (gives_value _ fun _ => by rfl) ?_
  refine L_end ?_
  intro w2 hw2
  refine wp_cond_false (fr_at _ _ (by rfl) _) ?_
  refine wp_skip ?_
  change Code.wp _ _ _ _ _
  refine seq_plain hw2 [0, 1] (by rfl) ?_
  refine L_build0 1 (by rfl) (by rfl) und_pss slice_sz ?_; intro g1
  refine L_val (.slice (some ⟨g1, 0, none⟩) 0 0) (by rfl) (by rfl) (gives_value _ fun _ => by rfl) ?_
  refine L_end ?_
  intro w3 hw3
  refine seq_plain hw3 [0] (by rfl) ?_
  refine L_val (.int .i64 0) (by rfl) (by rfl) (gives_value _ fun _ => by rfl) ?_
  refine L_end ?_
  intro w4 hw4
  refine wp_seq ?_
  refine seq_plain hw4 [0, 1, 2] (by rfl) ?_
  refine L_val (.slice A0 n0 c0) (by rfl) (by rfl) (gives_value _ fun _ => by rfl) ?_
  refine L_val (.int .i64 (n0 : Int)) (by rfl) (by rfl) (gives_len _ n0 c0 und_pss (by rfl)) ?_
  refine L_val (.int .i64 0) (by rfl) (by rfl) (gives_value _ fun _ => by rfl) ?_
  refine L_end ?_
  intro w5 hw5
  refine wp_block ?_
  refine loop_down (fun (r_ : Nat) a w => ∃ (i : Nat) (sn : Nat) (gm : Nat) (cm : Nat) (csm : Array Value) (xs : List Value) (Lc : List (Nat × TypeId × Array Value)) (l_1 : List (Nat × Value)), n0 - i = r_ ∧ inFr 55 l_1 = true ∧ a = fr 55 ((0, .slice A0 n0 c0) :: (3, .slice (some ⟨gm, 0, none⟩) i cm) :: (4, .int .i64 (sn : Int)) :: (12, .slice A0 n0 c0) :: (13, .int .i64 (n0 : Int)) :: (14, .int .i64 (i : Int)) :: l_1) ∧ (i ≤ n0) ∧ (sn = (ps0.take i).flatten.length) ∧ (Vls csm cm i xs) ∧ (CPx Lc xs (ps0.take i)) ∧ Hbl v ((gm, 24, csm) :: Lc) w) ?_ _ _ _ ⟨0, 0, g1, 0, #[], [], [], [(14, .int .i64 0), (13, .int .i64 (n0 : Int)), (12, .slice A0 n0 c0), (4, .int .i64 0), (3, .slice (some ⟨g1, 0, none⟩) 0 0), (11, .slice (some ⟨g1, 0, none⟩) 0 0), (10, .bool false), (9, .bool true), (2, .bool false), (0, .slice A0 n0 c0)], rfl, (by rfl), (Eq.trans (Eq.trans (Eq.trans (Eq.trans (Eq.trans (fr_dup _ _ 14 _ (by rfl) (by rfl) (by rfl)).symm (fr_dup _ _ 13 _ (by rfl) (by rfl) (by rfl)).symm) (fr_dup _ _ 12 _ (by rfl) (by rfl) (by rfl)).symm) (fr_dup _ _ 4 _ (by rfl) (by rfl) (by rfl)).symm) (fr_dup _ _ 3 _ (by rfl) (by rfl) (by rfl)).symm) (fr_dup _ _ 0 _ (by rfl) (by rfl) (by rfl)).symm), Nat.zero_le _, (by simp), Vls.nil, CPx.nil, hw5⟩
  rintro r_1 a0 w0_1 ⟨i, sn, gm, cm, csm, xs, Lc, l_1, hr_1, hl_1, rfl, hi, hsn, hvm, hcp, hw0_1⟩
  by_cases hlt : i < n0
  ·
    obtain ⟨b0, o0, Ai, mi, ci, bi, hA0, hq0, hce0, hnci, hri, htki⟩ := hp0.at_ (show i < n0 by omega)
    have hbli : bi.length = mi := by simpa using hri.1
    have hfli := flat_le ps0 (i + 1)
    have hfn := flat_next htki hbli hsn
    refine seq_plain hw0_1 [0] (by rfl) ?_
    refine L_val (.bool true) (by rfl) (by exact hl_1) (gives_lss (k := .i64) ((i : Int)) ((n0 : Int)) true (by rfl) (by rfl) (decide_eq_true (by omega))) ?_
    refine L_end ?_
    intro w6 hw6
    refine wp_seq ?_
    refine wp_cond_true (fr_at _ _ (by exact hl_1) _) ?_
    refine wp_skip ?_
    change Code.wp _ _ _ _ _
    refine wp_seq ?_
    refine wp_block ?_
    refine seq_plain hw6 [0, 1, 2] (by rfl) ?_
    refine L_val (.pointer (some ⟨b0, o0 + (i), none⟩)) (by rfl) (by exact hl_1) (gives_index_old A0 n0 c0 ((i : Int)) (i) _ _ hA0 (by rfl) (by rfl) und_pss slice_sz rfl (by omega)) ?_
    refine L_val (.slice Ai mi ci) (by rfl) (by exact hl_1) (gives_load_oldS _ (.slice Ai mi ci) (by rfl) (fun _ h => (h.below.cell (p := ⟨b0, _, none⟩) hq0).trans hce0) und_u8s) ?_
    refine L_val (.slice Ai mi ci) (by rfl) (by exact hl_1) (gives_value _ fun _ => by rfl) ?_
    refine L_end ?_
    intro w7 hw7
    refine seq_plain hw7 [0, 1, 2, 3, 4, 5] (by rfl) ?_
    refine L_val (.slice (some ⟨gm, 0, none⟩) i cm) (by rfl) (by exact hl_1) (gives_value _ fun _ => by rfl) ?_
    refine L_val (.slice Ai mi ci) (by rfl) (by exact hl_1) (gives_value _ fun _ => by rfl) ?_
    refine L_freshP (vl := [.slice Ai mi ci]) 5 .u8 mi bi (by rfl) (by exact hl_1) Want.none (by kernel_rfl) (by rfl) (fun w h => c_copy w _ _ _ bi ((hri.below h.below).more h.below.size) (by omega)) ?_; intro g2 cap_1 cs_1 hn_1
    refine L_buildV 1 (.slice none 0 0) [.slice (some ⟨g2, 0, none⟩) mi cap_1] (by rfl) (by exact hl_1) Want.none und_pss slice_zs (by rfl) (by rfl) (by rfl) (by intro u hu; simp only [List.mem_cons, List.not_mem_nil, or_false] at hu; rcases hu with rfl <;> rfl) (by rfl) (by rfl) ?_; intro g3
    refine L_pushV 2 gm i cm 1 1 24 (some ⟨g3, 0, none⟩) (.slice none 0 0) xs [.slice (some ⟨g2, 0, none⟩) mi cap_1] csm (by rfl) (by exact hl_1) Want.none und_pss slice_info rfl (by rfl) (by rfl) (by rfl) hvm (fun w h => vlit (h.blk 0 (by rfl))) (by intro u hu; simp only [List.mem_cons, List.not_mem_nil, or_false] at hu; subst hu; rfl) (by omega) (by rfl) ((g3, 24, ([.slice (some ⟨g2, 0, none⟩) mi cap_1] : List Value).toArray) :: (g2, 5, cs_1) :: Lc) (by rfl) ?_; intro g4 cap_2 cs_2 hn_2
    refine L_val (.slice (some ⟨g4, 0, none⟩) (i + 1) cap_2) (by rfl) (by exact hl_1) (gives_value _ fun _ => by rfl) ?_
    refine L_end ?_
    intro w8 hw8
    refine one_plain hw8 [0, 1, 2, 3, 4] (by rfl) ?_
    refine L_val (.int .i64 (sn : Int)) (by rfl) (by exact hl_1) (gives_value _ fun _ => by rfl) ?_
    refine L_val (.slice Ai mi ci) (by rfl) (by exact hl_1) (gives_value _ fun _ => by rfl) ?_
    refine L_val (.int .i64 (mi : Int)) (by rfl) (by exact hl_1) (gives_len _ mi ci und_u8s (by rfl)) ?_
    refine L_val (.int .i64 ((sn : Int) + (mi : Int))) (by rfl) (by exact hl_1) (gives_add (k := .i64) ((sn : Int)) ((mi : Int)) ((sn : Int) + (mi : Int)) (by rfl) (by rfl) (IntWalk.i64_in _ (by omega))) ?_
    refine L_val (.int .i64 ((sn : Int) + (mi : Int))) (by rfl) (by exact hl_1) (gives_value _ fun _ => by rfl) ?_
    refine L_end ?_
    intro w9 hw9
    change Code.wp _ _ _ _ _
    refine one_plain hw9 [0, 1] (by rfl) ?_
    refine L_val (.int .i64 ((i : Int) + 1)) (by rfl) (by exact hl_1) (gives_add (k := .i64) ((i : Int)) (1) ((i : Int) + 1) (by rfl) (by rfl) (IntWalk.i64_in _ (by omega))) ?_
    refine L_val (.int .i64 ((i : Int) + 1)) (by rfl) (by exact hl_1) (gives_value _ fun _ => by rfl) ?_
    refine L_end ?_
    intro w10 hw10
    change ∃ r' : Nat, r' < r_1 ∧ _
    refine ⟨_, ?_, i + 1, sn + mi, g4, cap_2, cs_2, xs ++ [.slice (some ⟨g2, 0, none⟩) mi cap_1], ((g2, 5, cs_1) :: Lc), ((14, .int .i64 ((i : Int) + 1)) :: (27, .int .i64 ((i : Int) + 1)) :: (4, .int .i64 ((sn : Int) + (mi : Int))) :: (26, .int .i64 ((sn : Int) + (mi : Int))) :: (25, .int .i64 (mi : Int)) :: (24, .slice Ai mi ci) :: (23, .int .i64 (sn : Int)) :: (3, .slice (some ⟨g4, 0, none⟩) (i + 1) cap_2) :: (22, .slice (some ⟨g4, 0, none⟩) (i + 1) cap_2) :: (21, .slice (some ⟨g3, 0, none⟩) 1 1) :: (20, .slice (some ⟨g2, 0, none⟩) mi cap_1) :: (19, .slice Ai mi ci) :: (18, .slice (some ⟨gm, 0, none⟩) i cm) :: (6, .slice Ai mi ci) :: (17, .slice Ai mi ci) :: (16, .pointer (some ⟨b0, o0 + (i), none⟩)) :: (15, .bool true) :: (0, .slice A0 n0 c0) :: (3, .slice (some ⟨gm, 0, none⟩) i cm) :: (4, .int .i64 (sn : Int)) :: (12, .slice A0 n0 c0) :: (13, .int .i64 (n0 : Int)) :: (14, .int .i64 (i : Int)) :: l_1), rfl, (by exact hl_1), (Eq.trans (Eq.trans (Eq.trans (Eq.trans (Eq.trans (fr_dup _ _ 14 _ (by exact hl_1) (by rfl) (by rfl)).symm (fr_dup _ _ 13 _ (by exact hl_1) (by rfl) (by rfl)).symm) (fr_dup _ _ 12 _ (by exact hl_1) (by rfl) (by rfl)).symm) (fr_dup _ _ 4 _ (by exact hl_1) (by rfl) (by rfl)).symm) (fr_dup _ _ 3 _ (by exact hl_1) (by rfl) (by rfl)).symm) (fr_dup _ _ 0 _ (by exact hl_1) (by rfl) (by rfl)).symm), by omega, hfn, hn_2, (by rw [htki]; exact hcp.snoc hn_1), (hw10.sub (List.Sublist.cons_cons _ (List.Sublist.cons _ (List.Sublist.cons_cons _ (List.Sublist.refl _)))))⟩
    omega
  ·
    refine seq_plain hw0_1 [0] (by rfl) ?_
    refine L_val (.bool false) (by rfl) (by exact hl_1) (gives_lss (k := .i64) ((i : Int)) ((n0 : Int)) false (by rfl) (by rfl) (decide_eq_false (by omega))) ?_
    refine L_end ?_
    intro w11 hw11
    refine wp_seq ?_
    refine wp_cond_false (fr_at _ _ (by exact hl_1) _) ?_
    refine wp_exit ?_
    have hall : ps0.take i = ps0 := List.take_of_length_le (by rw [hp0.1]; omega)
    rw [hall] at hsn hcp
    have hin : i = n0 := by omega
    subst i
    change Code.wp _ _ _ _ _
    change Code.wp _ _ _ _ _
    refine wp_seq ?_
    refine seq_plain hw11 [0, 1] (by rfl) ?_
    refine L_val (.int .i64 (sn : Int)) (by rfl) (by exact hl_1) (gives_value _ fun _ => by rfl) ?_
    refine L_val (.bool false) (by rfl) (by exact hl_1) (gives_gtr (k := .i64) ((sn : Int)) (65536) false (by rfl) (by rfl) (decide_eq_false (by omega))) ?_
    refine L_end ?_
    intro w12 hw12
    refine wp_cond_false (fr_at _ _ (by exact hl_1) _) ?_
    refine wp_skip ?_
    change Code.wp _ _ _ _ _
    refine seq_plain hw12 [0, 1, 2, 3, 4, 5, 6] (by rfl) ?_
    refine L_val (.slice (some ⟨gm, 0, none⟩) n0 cm) (by rfl) (by exact hl_1) (gives_value _ fun _ => by rfl) ?_
    refine L_val (.agg (agg8 (digest (ps0.flatten)))) (by rfl) (by exact hl_1) (gives_call (vl := [.slice (some ⟨gm, 0, none⟩) n0 cm]) (by kernel_rfl) (by rfl) (fun w h => c_of w _ _ _ ps0 (ps0.flatten) rfl (hcp.pieces hvm h (fun x hx => by simp [hx]) (by simp : (gm, 24, csm) ∈ _)) (hgl.below h.below h2) (Nat.le_trans h2 h.below.size) (by omega) (by omega))) ?_
    refine L_val (.slice A0 n0 c0) (by rfl) (by exact hl_1) (gives_value _ fun _ => by rfl) ?_
    refine L_freshP (vl := [.slice A0 n0 c0]) 5 .u8 (ps0.flatten.length) (ps0.flatten) (by rfl) (by exact hl_1) Want.none (by kernel_rfl) (by rfl) (fun w h => join_own _ _ _ ps0 w ((hp0.below h.below).more h.below.size) (by omega) (by omega)) ?_; intro g5 cap_3 cs_3 hn_3
    refine L_freshP (vl := [.slice (some ⟨g5, 0, none⟩) (ps0.flatten.length) cap_3]) 5 .u8 32 (digest (ps0.flatten)) (by rfl) (by exact hl_1) Want.none (by kernel_rfl) (by rfl) (fun w h => refsum_own _ _ _ (ps0.flatten) w (hn_3.reads (h.blk 0 (by rfl))) (by omega)) ?_; intro g6 cap_4 cs_4 hn_4
    refine L_val (.bool true) (by rfl) (by exact hl_1) (gives_call (vl := [.agg (agg8 (digest (ps0.flatten))), .slice (some ⟨g6, 0, none⟩) 32 cap_4]) (by kernel_rfl) (by rfl) (fun w h => c_is w (digest (ps0.flatten)) (digest_len _) _ _ _ (digest (ps0.flatten)) (hn_4.reads (h.blk 0 (by rfl))) (by omega) rfl)) ?_
    refine L_val (.bool true) (by rfl) (by exact hl_1) (gives_value _ fun _ => by rfl) ?_
    refine L_end ?_
    intro w13 hw13
    refine wp_seq ?_
    refine seq_plain hw13 [0, 1, 2] (by rfl) ?_
    refine L_val (.slice (some ⟨gm, 0, none⟩) n0 cm) (by rfl) (by exact hl_1) (gives_value _ fun _ => by rfl) ?_
    refine L_val (.int .i64 (n0 : Int)) (by rfl) (by exact hl_1) (gives_len _ n0 cm und_pss (by rfl)) ?_
    refine L_val (.int .i64 0) (by rfl) (by exact hl_1) (gives_value _ fun _ => by rfl) ?_
    refine L_end ?_
    intro w14 hw14
    refine wp_block ?_
    refine loop_down (fun (r_ : Nat) a w => ∃ (j : Nat) (l_2 : List (Nat × Value)), n0 - j = r_ ∧ inFr 55 l_2 = true ∧ a = fr 55 ((0, .slice A0 n0 c0) :: (3, .slice (some ⟨gm, 0, none⟩) n0 cm) :: (7, .bool true) :: (37, .int .i64 (n0 : Int)) :: (38, .int .i64 (j : Int)) :: l_2) ∧ (j ≤ n0) ∧ Hbl v ((gm, 24, csm) :: Lc) w) ?_ _ _ _ ⟨0, ((38, .int .i64 0) :: (37, .int .i64 (n0 : Int)) :: (36, .slice (some ⟨gm, 0, none⟩) n0 cm) :: (7, .bool true) :: (35, .bool true) :: (34, .slice (some ⟨g6, 0, none⟩) 32 cap_4) :: (33, .slice (some ⟨g5, 0, none⟩) (ps0.flatten.length) cap_3) :: (32, .slice A0 n0 c0) :: (31, .agg (agg8 (digest (ps0.flatten)))) :: (30, .slice (some ⟨gm, 0, none⟩) n0 cm) :: (29, .bool false) :: (28, .int .i64 (sn : Int)) :: (15, .bool false) :: (0, .slice A0 n0 c0) :: (3, .slice (some ⟨gm, 0, none⟩) n0 cm) :: (4, .int .i64 (sn : Int)) :: (12, .slice A0 n0 c0) :: (13, .int .i64 (n0 : Int)) :: (14, .int .i64 (n0 : Int)) :: l_1), rfl, (by exact hl_1), (Eq.trans (Eq.trans (Eq.trans (Eq.trans (fr_dup _ _ 38 _ (by exact hl_1) (by rfl) (by rfl)).symm (fr_dup _ _ 37 _ (by exact hl_1) (by rfl) (by rfl)).symm) (fr_dup _ _ 7 _ (by exact hl_1) (by rfl) (by rfl)).symm) (fr_dup _ _ 3 _ (by exact hl_1) (by rfl) (by rfl)).symm) (fr_dup _ _ 0 _ (by exact hl_1) (by rfl) (by rfl)).symm), Nat.zero_le _, (hw14.sub (List.Sublist.cons _ (List.Sublist.cons _ (List.Sublist.cons_cons _ (List.Sublist.refl _)))))⟩
    rintro r_2 a0 w0_2 ⟨j, l_2, hr_2, hl_2, rfl, hj, hw0_2⟩
    by_cases hlt2 : j < n0
    ·
      obtain ⟨b0, o0, Aj, mj, cj, bj, hA0, hq0, hce0, hncj, hrj, htkj⟩ := hp0.at_ (show j < n0 by omega)
      have hblj : bj.length = mj := by simpa using hrj.1
      have hflj := flat_le ps0 (j + 1)
      have hfj := flat_next htkj hblj rfl
      obtain ⟨gx, nx, cx, csx, hxx, hmx, hnx⟩ := hcp.2 j (by rw [hp0.1]; omega)
      have hgj : ps0.getD j [] = bj := getD_of_take htkj (by rw [hp0.1]; omega)
      rw [hgj] at hnx
      have hnxj : nx = mj := hnx.len.symm.trans hblj
      refine seq_plain hw0_2 [0] (by rfl) ?_
      refine L_val (.bool true) (by rfl) (by exact hl_2) (gives_lss (k := .i64) ((j : Int)) ((n0 : Int)) true (by rfl) (by rfl) (decide_eq_true (by omega))) ?_
      refine L_end ?_
      intro w15 hw15
      refine wp_seq ?_
      refine wp_cond_true (fr_at _ _ (by exact hl_2) _) ?_
      refine wp_skip ?_
      change Code.wp _ _ _ _ _
      refine wp_seq ?_
      refine wp_block ?_
      refine seq_plain hw15 [0, 1] (by rfl) ?_
      refine L_val (.int .i64 (j : Int)) (by rfl) (by exact hl_2) (gives_value _ fun _ => by rfl) ?_
      refine L_val (.int .i64 (j : Int)) (by rfl) (by exact hl_2) (gives_value _ fun _ => by rfl) ?_
      refine L_end ?_
      intro w16 hw16
      refine one_flow (by kernel_rfl) hw16 [] ((gm, 24, csm) :: Lc) 13 (by rfl) ?_
      refine flow_take (i := 0) (.bool true) (by rfl) (by kernel_rfl) (by kernel_rfl) (by kernel_rfl) (by exact hl_2) (by kernel_rfl) (List.Sublist.refl _) (gives_value _ fun _ => by rfl) ?_
      refine flow_take (i := 1) (.bool true) (by rfl) (by kernel_rfl) (by kernel_rfl) (by kernel_rfl) (by exact hl_2) (by kernel_rfl) (List.Sublist.refl _) (gives_value _ fun _ => by rfl) ?_
      refine flow_take_g (i := 2) (dj := 42) (.slice (some ⟨gm, 0, none⟩) n0 cm) (by rfl) (by kernel_rfl) (by kernel_rfl) (by kernel_rfl) (by exact hl_2) (by kernel_rfl) (List.Sublist.refl _) (by rfl) (by rfl) (by rfl) (gives_value _ fun _ => by rfl) ?_
      refine flow_take_g (i := 3) (dj := 42) (.int .i64 (j : Int)) (by rfl) (by kernel_rfl) (by kernel_rfl) (by kernel_rfl) (by exact hl_2) (by kernel_rfl) (List.Sublist.refl _) (by rfl) (by rfl) (by rfl) (gives_value _ fun _ => by rfl) ?_
      refine flow_take_g (i := 4) (dj := 42) (.pointer (some ⟨gm, 0 + (j), none⟩)) (by rfl) (by kernel_rfl) (by kernel_rfl) (by kernel_rfl) (by exact hl_2) (by kernel_rfl) (List.Sublist.refl _) (by rfl) (by rfl) (by rfl) (gives_index gm 0 (n0) (cm) ((j : Int)) (j) (by rfl) (by rfl) und_pss slice_sz rfl (by omega)) ?_
      refine flow_take_g (i := 5) (dj := 42) (.slice (some ⟨gx, 0, none⟩) nx cx) (by rfl) (by kernel_rfl) (by kernel_rfl) (by kernel_rfl) (by exact hl_2) (by kernel_rfl) (List.Sublist.refl _) (by rfl) (by rfl) (by rfl) (gives_loadV gm (0 + (j)) csm (.slice (some ⟨gx, 0, none⟩) nx cx) (by rfl) (fun _ h => h.blk 0 (by rfl)) (hvm.get hxx) und_u8s) ?_
      refine flow_take_g (i := 6) (dj := 42) (.slice A0 n0 c0) (by rfl) (by kernel_rfl) (by kernel_rfl) (by kernel_rfl) (by exact hl_2) (by kernel_rfl) (List.Sublist.refl _) (by rfl) (by rfl) (by rfl) (gives_value _ fun _ => by rfl) ?_
      refine flow_take_g (i := 7) (dj := 42) (.int .i64 (j : Int)) (by rfl) (by kernel_rfl) (by kernel_rfl) (by kernel_rfl) (by exact hl_2) (by kernel_rfl) (List.Sublist.refl _) (by rfl) (by rfl) (by rfl) (gives_value _ fun _ => by rfl) ?_
      refine flow_take_g (i := 8) (dj := 42) (.pointer (some ⟨b0, o0 + (j), none⟩)) (by rfl) (by kernel_rfl) (by kernel_rfl) (by kernel_rfl) (by exact hl_2) (by kernel_rfl) (List.Sublist.refl _) (by rfl) (by rfl) (by rfl) (gives_index_old A0 n0 c0 ((j : Int)) (j) _ _ hA0 (by rfl) (by rfl) und_pss slice_sz rfl (by omega)) ?_
      refine flow_take_g (i := 9) (dj := 42) (.slice Aj mj cj) (by rfl) (by kernel_rfl) (by kernel_rfl) (by kernel_rfl) (by exact hl_2) (by kernel_rfl) (List.Sublist.refl _) (by rfl) (by rfl) (by rfl) (gives_load_oldS _ (.slice Aj mj cj) (by rfl) (fun _ h => (h.below.cell (p := ⟨b0, _, none⟩) hq0).trans hce0) und_u8s) ?_
      refine flow_one 10 (by kernel_rfl) ?_
      refine F_val (vl := [.slice (some ⟨gx, 0, none⟩) nx cx, .slice Aj mj cj]) (.bool true) (by rfl) (by exact hl_2) (Want.some (dj := 42) (by exact hl_2) (by rfl) (by rfl) (by rfl)) (by kernel_rfl) (by rfl) (List.Sublist.refl _) (fun w h => n_same w _ _ _ _ _ _ (bj) (bj) (hnx.reads ((h.2.1 _ (by simp [hmx] : (gx, 5, csx) ∈ _)).1)) ((hrj.below h.below).more h.below.size) (by omega) (by omega) rfl) ?_
      refine flow_take (i := 11) (.bool true) (by rfl) (by kernel_rfl) (by kernel_rfl) (by kernel_rfl) (by exact hl_2) (by kernel_rfl) (List.Sublist.refl _) (gives_value _ fun _ => by rfl) ?_
      refine flow_take (i := 12) (.bool true) (by rfl) (by kernel_rfl) (by kernel_rfl) (by kernel_rfl) (by exact hl_2) (by kernel_rfl) (List.Sublist.refl _) (gives_value _ fun _ => by rfl) ?_
      refine flow_done (by kernel_rfl) ?_
      intro w17 hw17
      change Code.wp _ _ _ _ _
      refine one_plain hw17 [0, 1] (by rfl) ?_
      refine L_val (.int .i64 ((j : Int) + 1)) (by rfl) (by exact hl_2) (gives_add (k := .i64) ((j : Int)) (1) ((j : Int) + 1) (by rfl) (by rfl) (IntWalk.i64_in _ (by omega))) ?_
      refine L_val (.int .i64 ((j : Int) + 1)) (by rfl) (by exact hl_2) (gives_value _ fun _ => by rfl) ?_
      refine L_end ?_
      intro w18 hw18
      change ∃ r' : Nat, r' < r_2 ∧ _
      refine ⟨_, ?_, j + 1, ((38, .int .i64 ((j : Int) + 1)) :: (53, .int .i64 ((j : Int) + 1)) :: (7, .bool true) :: (52, .bool true) :: (51, .bool true) :: (50, .slice Aj mj cj) :: (49, .pointer (some ⟨b0, o0 + (j), none⟩)) :: (48, .int .i64 (j : Int)) :: (47, .slice A0 n0 c0) :: (46, .slice (some ⟨gx, 0, none⟩) nx cx) :: (45, .pointer (some ⟨gm, 0 + (j), none⟩)) :: (44, .int .i64 (j : Int)) :: (43, .slice (some ⟨gm, 0, none⟩) n0 cm) :: (42, .bool true) :: (41, .bool true) :: (8, .int .i64 (j : Int)) :: (40, .int .i64 (j : Int)) :: (39, .bool true) :: (0, .slice A0 n0 c0) :: (3, .slice (some ⟨gm, 0, none⟩) n0 cm) :: (7, .bool true) :: (37, .int .i64 (n0 : Int)) :: (38, .int .i64 (j : Int)) :: l_2), rfl, (by exact hl_2), (Eq.trans (Eq.trans (Eq.trans (Eq.trans (fr_dup _ _ 38 _ (by exact hl_2) (by rfl) (by rfl)).symm (fr_dup _ _ 37 _ (by exact hl_2) (by rfl) (by rfl)).symm) (fr_dup _ _ 7 _ (by exact hl_2) (by rfl) (by rfl)).symm) (fr_dup _ _ 3 _ (by exact hl_2) (by rfl) (by rfl)).symm) (fr_dup _ _ 0 _ (by exact hl_2) (by rfl) (by rfl)).symm), by omega, hw18⟩
      omega
    ·
      refine seq_plain hw0_2 [0] (by rfl) ?_
      refine L_val (.bool false) (by rfl) (by exact hl_2) (gives_lss (k := .i64) ((j : Int)) ((n0 : Int)) false (by rfl) (by rfl) (decide_eq_false (by omega))) ?_
      refine L_end ?_
      intro w19 hw19
      refine wp_seq ?_
      refine wp_cond_false (fr_at _ _ (by exact hl_2) _) ?_
      refine wp_exit ?_
      change Code.wp _ _ _ _ _
      change Code.wp _ _ _ _ _
      refine seq_plain hw19 [0, 1] (by rfl) ?_
      refine L_val (.bool true) (by rfl) (by exact hl_2) (gives_value _ fun _ => by rfl) ?_
      refine L_val (.bool true) (by rfl) (by exact hl_2) (gives_value _ fun _ => by rfl) ?_
      refine L_end ?_
      intro w20 hw20
      refine wp_ret ?_
      change bodyPost _ _ _ Exit.ret _ _
      refine (ret_tmp (by rfl) (by exact hl_2) (by rfl) ⟨rfl, hw20.below⟩)
theorem sums_any (A0 : Option Addr) (n0 c0 : Nat) (ps0 : List (List Int)) (v : World) (hp0 : Pieces v v.heap.size A0 n0 ps0) (hb0 : ps0.flatten.length ≤ 1048576) (hm0 : n0 ≤ 1048576) (hgl : Glob v) (h2 : 2 ≤ v.heap.size) : Rets 3 #[.slice A0 n0 c0] v (.bool true) := by
  by_cases hc : 65536 < ps0.flatten.length
  · exact sums_long A0 n0 c0 ps0 v hp0 hb0 hm0 hgl h2 hc
  · exact sums_short A0 n0 c0 ps0 v hp0 hb0 hm0 hgl h2 (by omega)
end Go.Proofs.YtgkfkfodeooogaaDoor
