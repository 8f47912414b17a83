/-
  HkdfMacs: the walk.
-/
import Derived.Test.YtgkfkfodeooogaaDoorShJoinR
namespace Go.Proofs.YtgkfkfodeooogaaDoor
set_option linter.unusedSimpArgs false
set_option linter.unusedVariables false
open Go.RowKit
attribute [local irreducible] wpL wpF fr Code.wp bodyPost
set_option maxRecDepth 100000 in
set_option maxHeartbeats 4000000 in
theorem macs_long (A0 : Option Addr) (n0 c0 : Nat) (bs0 : List Int) (A1 : Option Addr) (n1 c1 : Nat) (ps1 : List (List Int)) (v : World) (hr0 : Reads v v.heap.size A0 n0 (bs0.map (Value.int .u8))) (hnc0 : n0 ≤ c0) (hn0 : n0 ≤ 1048576) (hp1 : Pieces v v.heap.size A1 n1 ps1) (hb1 : ps1.flatten.length ≤ 1048576) (hm1 : n1 ≤ 1048576) (hgl : Glob v) (h2 : 2 ≤ v.heap.size) (hc : 16384 < n0 + ps1.flatten.length) : Rets 5 #[.slice A0 n0 c0, .slice A1 n1 c1] v (.bool true) := by
  refine calls_fr2 Tryd.func5 rfl (by rfl : _ = 71) (by rfl) ?_
  have hw := Hbl.nil v
  refine seq_plain hw [0] (by rfl) ?_
  refine L_val (.bool false) (by rfl) (by rfl) (gives_value _ fun _ => by rfl) ?_
  refine L_end ?_
  intro w1 hw1
  refine wp_seq ?_
  refine seq_plain hw1 [0, 1] (by rfl) ?_
  refine L_val (.bool true) (by rfl) (by rfl) (gives_call (vl := []) (by kernel_rfl) (by rfl) (fun w h => headb_any w (hgl.below h.below h2) (Nat.le_trans h2 h.below.size))) ?_
  refine L_val (.bool false) (by rfl) (by rfl) (gives_value _ fun _ => by rfl) ?_
  refine L_end ?_
  intro w2 hw2
  refine wp_cond_false (fr_at _ _ (by rfl) _) ?_
  refine wp_skip ?_
  change Code.wp _ _ _ _ _
  refine seq_plain hw2 [0, 1, 2] (by rfl) ?_
  refine L_val (.slice A0 n0 c0) (by rfl) (by rfl) (gives_value _ fun _ => by rfl) ?_
  refine L_val (.int .i64 (n0 : Int)) (by rfl) (by rfl) (gives_len _ n0 c0 und_u8s (by rfl)) ?_
  refine L_val (.int .i64 (n0 : Int)) (by rfl) (by rfl) (gives_value _ fun _ => by rfl) ?_
  refine L_end ?_
  intro w3 hw3
  refine seq_plain hw3 [0, 1] (by rfl) ?_
  refine L_build0 1 (by rfl) (by rfl) und_pss slice_sz ?_; intro g1
  refine L_val (.slice (some ⟨g1, 0, none⟩) 0 0) (by rfl) (by rfl) (gives_value _ fun _ => by rfl) ?_
  refine L_end ?_
  intro w4 hw4
  refine wp_seq ?_
  refine seq_plain hw4 [0, 1, 2] (by rfl) ?_
  refine L_val (.slice A1 n1 c1) (by rfl) (by rfl) (gives_value _ fun _ => by rfl) ?_
  refine L_val (.int .i64 (n1 : Int)) (by rfl) (by rfl) (gives_len _ n1 c1 und_pss (by rfl)) ?_
  refine L_val (.int .i64 0) (by rfl) (by rfl) (gives_value _ fun _ => by rfl) ?_
  refine L_end ?_
  intro w5 hw5
  refine wp_block ?_
  refine loop_down (fun (r_ : Nat) a w => ∃ (i : Nat) (sn : Nat) (gm : Nat) (cm : Nat) (csm : Array Value) (xs : List Value) (Lc : List (Nat × TypeId × Array Value)) (l_1 : List (Nat × Value)), n1 - i = r_ ∧ inFr 71 l_1 = true ∧ a = fr 71 ((0, .slice A0 n0 c0) :: (1, .slice A1 n1 c1) :: (6, .slice (some ⟨gm, 0, none⟩) i cm) :: (5, .int .i64 ((n0 : Int) + (sn : Int))) :: (18, .slice A1 n1 c1) :: (19, .int .i64 (n1 : Int)) :: (20, .int .i64 (i : Int)) :: l_1) ∧ (i ≤ n1) ∧ (sn = (ps1.take i).flatten.length) ∧ (Vls csm cm i xs) ∧ (CPx Lc xs (ps1.take i)) ∧ Hbl v ((gm, 24, csm) :: Lc) w) ?_ _ _ _ ⟨0, 0, g1, 0, #[], [], [], [(20, .int .i64 0), (19, .int .i64 (n1 : Int)), (18, .slice A1 n1 c1), (6, .slice (some ⟨g1, 0, none⟩) 0 0), (17, .slice (some ⟨g1, 0, none⟩) 0 0), (5, .int .i64 (n0 : Int)), (16, .int .i64 (n0 : Int)), (15, .slice A0 n0 c0), (14, .bool false), (13, .bool true), (4, .bool false), (1, .slice A1 n1 c1), (0, .slice A0 n0 c0)], rfl, (by rfl), (Eq.trans (Eq.trans (Eq.trans (Eq.trans (Eq.trans (Eq.trans (fr_dup _ _ 20 _ (by rfl) (by rfl) (by rfl)).symm (fr_dup _ _ 19 _ (by rfl) (by rfl) (by rfl)).symm) (fr_dup _ _ 18 _ (by rfl) (by rfl) (by rfl)).symm) (fr_dup _ _ 5 _ (by rfl) (by rfl) (by exact (congrArg (Value.int .i64) (by omega)))).symm) (fr_dup _ _ 6 _ (by rfl) (by rfl) (by rfl)).symm) (fr_dup _ _ 1 _ (by rfl) (by rfl) (by rfl)).symm) (fr_dup _ _ 0 _ (by rfl) (by rfl) (by rfl)).symm), Nat.zero_le _, (by simp), Vls.nil, CPx.nil, hw5⟩
  rintro r_1 a0 w0_1 ⟨i, sn, gm, cm, csm, xs, Lc, l_1, hr_1, hl_1, rfl, hi, hsn, hvm, hcp, hw0_1⟩
  by_cases hlt : i < n1
  ·
    obtain ⟨b1, o1, Ai, mi, ci, bi, hA1, hq1, hce1, hnci, hri, htki⟩ := hp1.at_ (show i < n1 by omega)
    have hbli : bi.length = mi := by simpa using hri.1
    have hfli := flat_le ps1 (i + 1)
    have hfn := flat_next htki hbli hsn
    refine seq_plain hw0_1 [0] (by rfl) ?_
    refine L_val (.bool true) (by rfl) (by exact hl_1) (gives_lss (k := .i64) ((i : Int)) ((n1 : Int)) true (by rfl) (by rfl) (decide_eq_true (by omega))) ?_
    refine L_end ?_
    intro w6 hw6
    refine wp_seq ?_
    refine wp_cond_true (fr_at _ _ (by exact hl_1) _) ?_
    refine wp_skip ?_
    change Code.wp _ _ _ _ _
    refine wp_seq ?_
    refine wp_block ?_
    refine seq_plain hw6 [0, 1, 2] (by rfl) ?_
    refine L_val (.pointer (some ⟨b1, o1 + (i), none⟩)) (by rfl) (by exact hl_1) (gives_index_old A1 n1 c1 ((i : Int)) (i) _ _ hA1 (by rfl) (by rfl) und_pss slice_sz rfl (by omega)) ?_
    refine L_val (.slice Ai mi ci) (by rfl) (by exact hl_1) (gives_load_oldS _ (.slice Ai mi ci) (by rfl) (fun _ h => (h.below.cell (p := ⟨b1, _, none⟩) hq1).trans hce1) und_u8s) ?_
    refine L_val (.slice Ai mi ci) (by rfl) (by exact hl_1) (gives_value _ fun _ => by rfl) ?_
    refine L_end ?_
    intro w7 hw7
    refine seq_plain hw7 [0, 1, 2, 3, 4] (by rfl) ?_
    refine L_val (.int .i64 ((n0 : Int) + (sn : Int))) (by rfl) (by exact hl_1) (gives_value _ fun _ => by rfl) ?_
    refine L_val (.slice Ai mi ci) (by rfl) (by exact hl_1) (gives_value _ fun _ => by rfl) ?_
    refine L_val (.int .i64 (mi : Int)) (by rfl) (by exact hl_1) (gives_len _ mi ci und_u8s (by rfl)) ?_
    refine L_val (.int .i64 (((n0 : Int) + (sn : Int)) + (mi : Int))) (by rfl) (by exact hl_1) (gives_add (k := .i64) ((n0 : Int) + (sn : Int)) ((mi : Int)) (((n0 : Int) + (sn : Int)) + (mi : Int)) (by rfl) (by rfl) (IntWalk.i64_in _ (by omega))) ?_
    refine L_val (.int .i64 (((n0 : Int) + (sn : Int)) + (mi : Int))) (by rfl) (by exact hl_1) (gives_value _ fun _ => by rfl) ?_
    refine L_end ?_
    intro w8 hw8
    refine one_plain hw8 [0, 1, 2, 3, 4, 5] (by rfl) ?_
    refine L_val (.slice (some ⟨gm, 0, none⟩) i cm) (by rfl) (by exact hl_1) (gives_value _ fun _ => by rfl) ?_
    refine L_val (.slice Ai mi ci) (by rfl) (by exact hl_1) (gives_value _ fun _ => by rfl) ?_
    refine L_freshP (vl := [.slice Ai mi ci]) 5 .u8 mi bi (by rfl) (by exact hl_1) Want.none (by kernel_rfl) (by rfl) (fun w h => c_copy w _ _ _ bi ((hri.below h.below).more h.below.size) (by omega)) ?_; intro g2 cap_1 cs_1 hn_1
    refine L_buildV 1 (.slice none 0 0) [.slice (some ⟨g2, 0, none⟩) mi cap_1] (by rfl) (by exact hl_1) Want.none und_pss slice_zs (by rfl) (by rfl) (by rfl) (by intro u hu; simp only [List.mem_cons, List.not_mem_nil, or_false] at hu; rcases hu with rfl <;> rfl) (by rfl) (by rfl) ?_; intro g3
    refine L_pushV 2 gm i cm 1 1 24 (some ⟨g3, 0, none⟩) (.slice none 0 0) xs [.slice (some ⟨g2, 0, none⟩) mi cap_1] csm (by rfl) (by exact hl_1) Want.none und_pss slice_info rfl (by rfl) (by rfl) (by rfl) hvm (fun w h => vlit (h.blk 0 (by rfl))) (by intro u hu; simp only [List.mem_cons, List.not_mem_nil, or_false] at hu; subst hu; rfl) (by omega) (by rfl) ((g3, 24, ([.slice (some ⟨g2, 0, none⟩) mi cap_1] : List Value).toArray) :: (g2, 5, cs_1) :: Lc) (by rfl) ?_; intro g4 cap_2 cs_2 hn_2
    refine L_val (.slice (some ⟨g4, 0, none⟩) (i + 1) cap_2) (by rfl) (by exact hl_1) (gives_value _ fun _ => by rfl) ?_
    refine L_end ?_
    intro w9 hw9
    change Code.wp _ _ _ _ _
    refine one_plain hw9 [0, 1] (by rfl) ?_
    refine L_val (.int .i64 ((i : Int) + 1)) (by rfl) (by exact hl_1) (gives_add (k := .i64) ((i : Int)) (1) ((i : Int) + 1) (by rfl) (by rfl) (IntWalk.i64_in _ (by omega))) ?_
    refine L_val (.int .i64 ((i : Int) + 1)) (by rfl) (by exact hl_1) (gives_value _ fun _ => by rfl) ?_
    refine L_end ?_
    intro w10 hw10
    change ∃ r' : Nat, r' < r_1 ∧ _
    refine ⟨_, ?_, i + 1, sn + mi, g4, cap_2, cs_2, xs ++ [.slice (some ⟨g2, 0, none⟩) mi cap_1], ((g2, 5, cs_1) :: Lc), ((20, .int .i64 ((i : Int) + 1)) :: (33, .int .i64 ((i : Int) + 1)) :: (6, .slice (some ⟨g4, 0, none⟩) (i + 1) cap_2) :: (32, .slice (some ⟨g4, 0, none⟩) (i + 1) cap_2) :: (31, .slice (some ⟨g3, 0, none⟩) 1 1) :: (30, .slice (some ⟨g2, 0, none⟩) mi cap_1) :: (29, .slice Ai mi ci) :: (28, .slice (some ⟨gm, 0, none⟩) i cm) :: (5, .int .i64 (((n0 : Int) + (sn : Int)) + (mi : Int))) :: (27, .int .i64 (((n0 : Int) + (sn : Int)) + (mi : Int))) :: (26, .int .i64 (mi : Int)) :: (25, .slice Ai mi ci) :: (24, .int .i64 ((n0 : Int) + (sn : Int))) :: (8, .slice Ai mi ci) :: (23, .slice Ai mi ci) :: (22, .pointer (some ⟨b1, o1 + (i), none⟩)) :: (21, .bool true) :: (0, .slice A0 n0 c0) :: (1, .slice A1 n1 c1) :: (6, .slice (some ⟨gm, 0, none⟩) i cm) :: (5, .int .i64 ((n0 : Int) + (sn : Int))) :: (18, .slice A1 n1 c1) :: (19, .int .i64 (n1 : Int)) :: (20, .int .i64 (i : Int)) :: l_1), rfl, (by exact hl_1), (Eq.trans (Eq.trans (Eq.trans (Eq.trans (Eq.trans (Eq.trans (fr_dup _ _ 20 _ (by exact hl_1) (by rfl) (by rfl)).symm (fr_dup _ _ 19 _ (by exact hl_1) (by rfl) (by rfl)).symm) (fr_dup _ _ 18 _ (by exact hl_1) (by rfl) (by rfl)).symm) (fr_dup _ _ 5 _ (by exact hl_1) (by rfl) (by exact (congrArg (Value.int .i64) (by omega)))).symm) (fr_dup _ _ 6 _ (by exact hl_1) (by rfl) (by rfl)).symm) (fr_dup _ _ 1 _ (by exact hl_1) (by rfl) (by rfl)).symm) (fr_dup _ _ 0 _ (by exact hl_1) (by rfl) (by rfl)).symm), by omega, hfn, hn_2, (by rw [htki]; exact hcp.snoc hn_1), (hw10.sub (List.Sublist.cons_cons _ (List.Sublist.cons _ (List.Sublist.cons_cons _ (List.Sublist.refl _)))))⟩
    omega
  ·
    refine seq_plain hw0_1 [0] (by rfl) ?_
    refine L_val (.bool false) (by rfl) (by exact hl_1) (gives_lss (k := .i64) ((i : Int)) ((n1 : Int)) false (by rfl) (by rfl) (decide_eq_false (by omega))) ?_
    refine L_end ?_
    intro w11 hw11
    refine wp_seq ?_
    refine wp_cond_false (fr_at _ _ (by exact hl_1) _) ?_
    refine wp_exit ?_
    have hall : ps1.take i = ps1 := List.take_of_length_le (by rw [hp1.1]; omega)
    rw [hall] at hsn hcp
    have hin : i = n1 := by omega
    subst i
    change Code.wp _ _ _ _ _
    change Code.wp _ _ _ _ _
    refine wp_seq ?_
    refine seq_plain hw11 [0, 1] (by rfl) ?_
    refine L_val (.int .i64 ((n0 : Int) + (sn : Int))) (by rfl) (by exact hl_1) (gives_value _ fun _ => by rfl) ?_
    refine L_val (.bool true) (by rfl) (by exact hl_1) (gives_gtr (k := .i64) ((n0 : Int) + (sn : Int)) (16384) true (by rfl) (by rfl) (decide_eq_true (by omega))) ?_
    refine L_end ?_
    intro w12 hw12
    refine wp_cond_true (fr_at _ _ (by exact hl_1) _) ?_
    refine seq_plain hw12 [0] (by rfl) ?_
    refine L_val (.bool true) (by rfl) (by exact hl_1) (gives_value _ fun _ => by rfl) ?_
    refine L_end ?_
    intro w13 hw13
    refine wp_ret ?_
    change bodyPost _ _ _ Exit.ret _ _
    refine (ret_tmp (by rfl) (by exact hl_1) (by rfl) ⟨rfl, hw13.below⟩)
set_option maxRecDepth 100000 in
set_option maxHeartbeats 4000000 in
theorem macs_short (A0 : Option Addr) (n0 c0 : Nat) (bs0 : List Int) (A1 : Option Addr) (n1 c1 : Nat) (ps1 : List (List Int)) (v : World) (hr0 : Reads v v.heap.size A0 n0 (bs0.map (Value.int .u8))) (hnc0 : n0 ≤ c0) (hn0 : n0 ≤ 1048576) (hp1 : Pieces v v.heap.size A1 n1 ps1) (hb1 : ps1.flatten.length ≤ 1048576) (hm1 : n1 ≤ 1048576) (hgl : Glob v) (h2 : 2 ≤ v.heap.size) (hc : n0 + ps1.flatten.length ≤ 16384) : Rets 5 #[.slice A0 n0 c0, .slice A1 n1 c1] v (.bool true) := by
  refine calls_fr2 Tryd.func5 rfl (by rfl : _ = 71) (by rfl) ?_
  have hw := Hbl.nil v
  refine seq_plain hw [0] (by rfl) ?_
  refine L_val (.bool false) (by rfl) (by rfl) (gives_value _ fun _ => by rfl) ?_
  refine L_end ?_
  intro w1 hw1
  refine wp_seq ?_
  refine seq_plain hw1 [0, 1] (by rfl) ?_
  refine L_val (.bool true) (by rfl) (by rfl) (gives_call (vl := []) (by kernel_rfl) (by rfl) (fun w h => headb_any w (hgl.below h.below h2) (Nat.le_trans h2 h.below.size))) ?_
  refine L_val (.bool false) (by rfl) (by rfl) (gives_value _ fun _ => by rfl) ?_
  refine L_end ?_
  intro w2 hw2
  refine wp_cond_false (fr_at _ _ (by rfl) _) ?_
  refine wp_skip ?_
  change Code.wp _ _ _ _ _
  refine seq_plain hw2 [0, 1, 2] (by rfl) ?_
  refine L_val (.slice A0 n0 c0) (by rfl) (by rfl) (gives_value _ fun _ => by rfl) ?_
  refine L_val (.int .i64 (n0 : Int)) (by rfl) (by rfl) (gives_len _ n0 c0 und_u8s (by rfl)) ?_
  refine L_val (.int .i64 (n0 : Int)) (by rfl) (by rfl) (gives_value _ fun _ => by rfl) ?_
  refine L_end ?_
  intro w3 hw3
  refine seq_plain hw3 [0, 1] (by rfl) ?_
  refine L_build0 1 (by rfl) (by rfl) und_pss slice_sz ?_; intro g1
  refine L_val (.slice (some ⟨g1, 0, none⟩) 0 0) (by rfl) (by rfl) (gives_value _ fun _ => by rfl) ?_
  refine L_end ?_
  intro w4 hw4
  refine wp_seq ?_
  refine seq_plain hw4 [0, 1, 2] (by rfl) ?_
  refine L_val (.slice A1 n1 c1) (by rfl) (by rfl) (gives_value _ fun _ => by rfl) ?_
  refine L_val (.int .i64 (n1 : Int)) (by rfl) (by rfl) (gives_len _ n1 c1 und_pss (by rfl)) ?_
  refine L_val (.int .i64 0) (by rfl) (by rfl) (gives_value _ fun _ => by rfl) ?_
  refine L_end ?_
  intro w5 hw5
  refine wp_block ?_
  refine loop_down (fun (r_ : Nat) a w => ∃ (i : Nat) (sn : Nat) (gm : Nat) (cm : Nat) (csm : Array Value) (xs : List Value) (Lc : List (Nat × TypeId × Array Value)) (l_1 : List (Nat × Value)), n1 - i = r_ ∧ inFr 71 l_1 = true ∧ a = fr 71 ((0, .slice A0 n0 c0) :: (1, .slice A1 n1 c1) :: (6, .slice (some ⟨gm, 0, none⟩) i cm) :: (5, .int .i64 ((n0 : Int) + (sn : Int))) :: (18, .slice A1 n1 c1) :: (19, .int .i64 (n1 : Int)) :: (20, .int .i64 (i : Int)) :: l_1) ∧ (i ≤ n1) ∧ (sn = (ps1.take i).flatten.length) ∧ (Vls csm cm i xs) ∧ (CPx Lc xs (ps1.take i)) ∧ Hbl v ((gm, 24, csm) :: Lc) w) ?_ _ _ _ ⟨0, 0, g1, 0, #[], [], [], [(20, .int .i64 0), (19, .int .i64 (n1 : Int)), (18, .slice A1 n1 c1), (6, .slice (some ⟨g1, 0, none⟩) 0 0), (17, .slice (some ⟨g1, 0, none⟩) 0 0), (5, .int .i64 (n0 : Int)), (16, .int .i64 (n0 : Int)), (15, .slice A0 n0 c0), (14, .bool false), (13, .bool true), (4, .bool false), (1, .slice A1 n1 c1), (0, .slice A0 n0 c0)], rfl, (by rfl), (Eq.trans (Eq.trans (Eq.trans (Eq.trans (Eq.trans (Eq.trans (fr_dup _ _ 20 _ (by rfl) (by rfl) (by rfl)).symm (fr_dup _ _ 19 _ (by rfl) (by rfl) (by rfl)).symm) (fr_dup _ _ 18 _ (by rfl) (by rfl) (by rfl)).symm) (fr_dup _ _ 5 _ (by rfl) (by rfl) (by exact (congrArg (Value.int .i64) (by omega)))).symm) (fr_dup _ _ 6 _ (by rfl) (by rfl) (by rfl)).symm) (fr_dup _ _ 1 _ (by rfl) (by rfl) (by rfl)).symm) (fr_dup _ _ 0 _ (by rfl) (by rfl) (by rfl)).symm), Nat.zero_le _, (by simp), Vls.nil, CPx.nil, hw5⟩
  rintro r_1 a0 w0_1 ⟨i, sn, gm, cm, csm, xs, Lc, l_1, hr_1, hl_1, rfl, hi, hsn, hvm, hcp, hw0_1⟩
  by_cases hlt : i < n1
  ·
    obtain ⟨b1, o1, Ai, mi, ci, bi, hA1, hq1, hce1, hnci, hri, htki⟩ := hp1.at_ (show i < n1 by omega)
    have hbli : bi.length = mi := by simpa using hri.1
    have hfli := flat_le ps1 (i + 1)
    have hfn := flat_next htki hbli hsn
    refine seq_plain hw0_1 [0] (by rfl) ?_
    refine L_val (.bool true) (by rfl) (by exact hl_1) (gives_lss (k := .i64) ((i : Int)) ((n1 : Int)) true (by rfl) (by rfl) (decide_eq_true (by omega))) ?_
    refine L_end ?_
    intro w6 hw6
    refine wp_seq ?_
    refine wp_cond_true (fr_at _ _ (by exact hl_1) _) ?_
    refine wp_skip ?_
    change Code.wp _ _ _ _ _
    refine wp_seq ?_
    refine wp_block ?_
    refine seq_plain hw6 [0, 1, 2] (by rfl) ?_
    refine L_val (.pointer (some ⟨b1, o1 + (i), none⟩)) (by rfl) (by exact hl_1) (gives_index_old A1 n1 c1 ((i : Int)) (i) _ _ hA1 (by rfl) (by rfl) und_pss slice_sz rfl (by omega)) ?_
    refine L_val (.slice Ai mi ci) (by rfl) (by exact hl_1) (gives_load_oldS _ (.slice Ai mi ci) (by rfl) (fun _ h => (h.below.cell (p := ⟨b1, _, none⟩) hq1).trans hce1) und_u8s) ?_
    refine L_val (.slice Ai mi ci) (by rfl) (by exact hl_1) (gives_value _ fun _ => by rfl) ?_
    refine L_end ?_
    intro w7 hw7
    refine seq_plain hw7 [0, 1, 2, 3, 4] (by rfl) ?_
    refine L_val (.int .i64 ((n0 : Int) + (sn : Int))) (by rfl) (by exact hl_1) (gives_value _ fun _ => by rfl) ?_
    refine L_val (.slice Ai mi ci) (by rfl) (by exact hl_1) (gives_value _ fun _ => by rfl) ?_
    refine L_val (.int .i64 (mi : Int)) (by rfl) (by exact hl_1) (gives_len _ mi ci und_u8s (by rfl)) ?_
    refine L_val (.int .i64 (((n0 : Int) + (sn : Int)) + (mi : Int))) (by rfl) (by exact hl_1) (gives_add (k := .i64) ((n0 : Int) + (sn : Int)) ((mi : Int)) (((n0 : Int) + (sn : Int)) + (mi : Int)) (by rfl) (by rfl) (IntWalk.i64_in _ (by omega))) ?_
    refine L_val (.int .i64 (((n0 : Int) + (sn : Int)) + (mi : Int))) (by rfl) (by exact hl_1) (gives_value _ fun _ => by rfl) ?_
    refine L_end ?_
    intro w8 hw8
    refine one_plain hw8 [0, 1, 2, 3, 4, 5] (by rfl) ?_
    refine L_val (.slice (some ⟨gm, 0, none⟩) i cm) (by rfl) (by exact hl_1) (gives_value _ fun _ => by rfl) ?_
    refine L_val (.slice Ai mi ci) (by rfl) (by exact hl_1) (gives_value _ fun _ => by rfl) ?_
    refine L_freshP (vl := [.slice Ai mi ci]) 5 .u8 mi bi (by rfl) (by exact hl_1) Want.none (by kernel_rfl) (by rfl) (fun w h => c_copy w _ _ _ bi ((hri.below h.below).more h.below.size) (by omega)) ?_; intro g2 cap_1 cs_1 hn_1
    refine L_buildV 1 (.slice none 0 0) [.slice (some ⟨g2, 0, none⟩) mi cap_1] (by rfl) (by exact hl_1) Want.none und_pss slice_zs (by rfl) (by rfl) (by rfl) (by intro u hu; simp only [List.mem_cons, List.not_mem_nil, or_false] at hu; rcases hu with rfl <;> rfl) (by rfl) (by rfl) ?_; intro g3
    refine L_pushV 2 gm i cm 1 1 24 (some ⟨g3, 0, none⟩) (.slice none 0 0) xs [.slice (some ⟨g2, 0, none⟩) mi cap_1] csm (by rfl) (by exact hl_1) Want.none und_pss slice_info rfl (by rfl) (by rfl) (by rfl) hvm (fun w h => vlit (h.blk 0 (by rfl))) (by intro u hu; simp only [List.mem_cons, List.not_mem_nil, or_false] at hu; subst hu; rfl) (by omega) (by rfl) ((g3, 24, ([.slice (some ⟨g2, 0, none⟩) mi cap_1] : List Value).toArray) :: (g2, 5, cs_1) :: Lc) (by rfl) ?_; intro g4 cap_2 cs_2 hn_2
    refine L_val (.slice (some ⟨g4, 0, none⟩) (i + 1) cap_2) (by rfl) (by exact hl_1) (gives_value _ fun _ => by rfl) ?_
    refine L_end ?_
    intro w9 hw9
    change Code.wp _ _ _ _ _
    refine one_plain hw9 [0, 1] (by rfl) ?_
    refine L_val (.int .i64 ((i : Int) + 1)) (by rfl) (by exact hl_1) (gives_add (k := .i64) ((i : Int)) (1) ((i : Int) + 1) (by rfl) (by rfl) (IntWalk.i64_in _ (by omega))) ?_
    refine L_val (.int .i64 ((i : Int) + 1)) (by rfl) (by exact hl_1) (gives_value _ fun _ => by rfl) ?_
    refine L_end ?_
    intro w10 hw10
    change ∃ r' : Nat, r' < r_1 ∧ _
    refine ⟨_, ?_, i + 1, sn + mi, g4, cap_2, cs_2, xs ++ [.slice (some ⟨g2, 0, none⟩) mi cap_1], ((g2, 5, cs_1) :: Lc), ((20, .int .i64 ((i : Int) + 1)) :: (33, .int .i64 ((i : Int) + 1)) :: (6, .slice (some ⟨g4, 0, none⟩) (i + 1) cap_2) :: (32, .slice (some ⟨g4, 0, none⟩) (i + 1) cap_2) :: (31, .slice (some ⟨g3, 0, none⟩) 1 1) :: (30, .slice (some ⟨g2, 0, none⟩) mi cap_1) :: (29, .slice Ai mi ci) :: (28, .slice (some ⟨gm, 0, none⟩) i cm) :: (5, .int .i64 (((n0 : Int) + (sn : Int)) + (mi : Int))) :: (27, .int .i64 (((n0 : Int) + (sn : Int)) + (mi : Int))) :: (26, .int .i64 (mi : Int)) :: (25, .slice Ai mi ci) :: (24, .int .i64 ((n0 : Int) + (sn : Int))) :: (8, .slice Ai mi ci) :: (23, .slice Ai mi ci) :: (22, .pointer (some ⟨b1, o1 + (i), none⟩)) :: (21, .bool true) :: (0, .slice A0 n0 c0) :: (1, .slice A1 n1 c1) :: (6, .slice (some ⟨gm, 0, none⟩) i cm) :: (5, .int .i64 ((n0 : Int) + (sn : Int))) :: (18, .slice A1 n1 c1) :: (19, .int .i64 (n1 : Int)) :: (20, .int .i64 (i : Int)) :: l_1), rfl, (by exact hl_1), (Eq.trans (Eq.trans (Eq.trans (Eq.trans (Eq.trans (Eq.trans (fr_dup _ _ 20 _ (by exact hl_1) (by rfl) (by rfl)).symm (fr_dup _ _ 19 _ (by exact hl_1) (by rfl) (by rfl)).symm) (fr_dup _ _ 18 _ (by exact hl_1) (by rfl) (by rfl)).symm) (fr_dup _ _ 5 _ (by exact hl_1) (by rfl) (by exact (congrArg (Value.int .i64) (by omega)))).symm) (fr_dup _ _ 6 _ (by exact hl_1) (by rfl) (by rfl)).symm) (fr_dup _ _ 1 _ (by exact hl_1) (by rfl) (by rfl)).symm) (fr_dup _ _ 0 _ (by exact hl_1) (by rfl) (by rfl)).symm), by omega, hfn, hn_2, (by rw [htki]; exact hcp.snoc hn_1), (hw10.sub (List.Sublist.cons_cons _ (List.Sublist.cons _ (List.Sublist.cons_cons _ (List.Sublist.refl _)))))⟩
    omega
  ·
    refine seq_plain hw0_1 [0] (by rfl) ?_
    refine L_val (.bool false) (by rfl) (by exact hl_1) (gives_lss (k := .i64) ((i : Int)) ((n1 : Int)) false (by rfl) (by rfl) (decide_eq_false (by omega))) ?_
    refine L_end ?_
    intro w11 hw11
    refine wp_seq ?_
    refine wp_cond_false (fr_at _ _ (by exact hl_1) _) ?_
    refine wp_exit ?_
    have hall : ps1.take i = ps1 := List.take_of_length_le (by rw [hp1.1]; omega)
    rw [hall] at hsn hcp
    have hin : i = n1 := by omega
    subst i
    change Code.wp _ _ _ _ _
    change Code.wp _ _ _ _ _
    refine wp_seq ?_
    refine seq_plain hw11 [0, 1] (by rfl) ?_
    refine L_val (.int .i64 ((n0 : Int) + (sn : Int))) (by rfl) (by exact hl_1) (gives_value _ fun _ => by rfl) ?_
    refine L_val (.bool false) (by rfl) (by exact hl_1) (gives_gtr (k := .i64) ((n0 : Int) + (sn : Int)) (16384) false (by rfl) (by rfl) (decide_eq_false (by omega))) ?_
    refine L_end ?_
    intro w12 hw12
    refine wp_cond_false (fr_at _ _ (by exact hl_1) _) ?_
    refine wp_skip ?_
    change Code.wp _ _ _ _ _
    refine seq_plain hw12 [0, 1, 2] (by rfl) ?_
    refine L_val (.slice A0 n0 c0) (by rfl) (by exact hl_1) (gives_value _ fun _ => by rfl) ?_
    refine L_freshP (vl := [.slice A0 n0 c0]) 5 .u8 n0 bs0 (by rfl) (by exact hl_1) Want.none (by kernel_rfl) (by rfl) (fun w h => c_copy w _ _ _ bs0 ((hr0.below h.below).more h.below.size) (by omega)) ?_; intro g5 cap_3 cs_3 hn_3
    refine L_val (.slice (some ⟨g5, 0, none⟩) n0 cap_3) (by rfl) (by exact hl_1) (gives_value _ fun _ => by rfl) ?_
    refine L_end ?_
    intro w13 hw13
    refine seq_plain hw13 [0, 1, 2, 3, 4] (by rfl) ?_
    refine L_val (.slice (some ⟨g5, 0, none⟩) n0 cap_3) (by rfl) (by exact hl_1) (gives_value _ fun _ => by rfl) ?_
    refine L_val (.slice (some ⟨gm, 0, none⟩) n1 cm) (by rfl) (by exact hl_1) (gives_value _ fun _ => by rfl) ?_
    refine L_val (.agg (agg8 (mac bs0 (ps1.flatten)))) (by rfl) (by exact hl_1) (gives_call (vl := [.slice (some ⟨g5, 0, none⟩) n0 cap_3, .slice (some ⟨gm, 0, none⟩) n1 cm]) (by kernel_rfl) (by rfl) (fun w h => c_mac w _ _ _ _ _ _ _ ps1 (ps1.flatten) rfl (hn_3.reads (h.blk 0 (by rfl))) (hn_3.le) (hcp.pieces hvm h (fun x hx => by simp [hx]) (by simp : (gm, 24, csm) ∈ _)) (hgl.below h.below h2) (Nat.le_trans h2 h.below.size) (by omega) (by omega) (by omega))) ?_
    refine L_alloc _ (by rfl) (by exact hl_1) z_d32 (agg8 (List.replicate 32 (0 : Int))) rfl ?_; intro g6
    refine L_store (t := 27) 0 g6 (agg8 (List.replicate 32 (0 : Int))) (agg8 (mac bs0 (ps1.flatten))) (by rfl) (by exact hl_1) (by rfl) (by rfl) (by rfl) (hi_d32 _ (mac_len _ _)) (by rw [agg8_size, agg8_size, show (mac bs0 (ps1.flatten)).length = 32 from (mac_len _ _), show (List.replicate 32 (0 : Int)).length = 32 from (by simp)]) (agg8_one _) ?_
    simp only [List.set_cons_zero, List.set_cons_succ]
    refine L_end ?_
    intro w14 hw14
    refine seq_flow (by kernel_rfl) hw14 [] ((g6, 27, (agg8 (mac bs0 (ps1.flatten)))) :: (g5, 5, cs_3) :: (gm, 24, csm) :: Lc) 12 (by rfl) ?_
    refine flow_take (i := 0) (.slice (some ⟨g6, 0, none⟩) 32 32) (by rfl) (by kernel_rfl) (by kernel_rfl) (by kernel_rfl) (by exact hl_1) (by kernel_rfl) (List.Sublist.refl _) (gives_slice_arr g6 32 1 (by rfl) und_d32 u8_sz) ?_
    refine flow_take (i := 1) (.slice A0 n0 c0) (by rfl) (by kernel_rfl) (by kernel_rfl) (by kernel_rfl) (by exact hl_1) (by kernel_rfl) (List.Sublist.refl _) (gives_value _ fun _ => by rfl) ?_
    refine flow_take (i := 2) (.slice A1 n1 c1) (by rfl) (by kernel_rfl) (by kernel_rfl) (by kernel_rfl) (by exact hl_1) (by kernel_rfl) (List.Sublist.refl _) (gives_value _ fun _ => by rfl) ?_
    refine flow_one 3 (by kernel_rfl) ?_
    refine F_freshP (vl := [.slice A1 n1 c1]) 5 .u8 (ps1.flatten.length) (ps1.flatten) (by rfl) (by exact hl_1) Want.none (by kernel_rfl) (by rfl) (List.Sublist.refl _) (fun w h => join_own _ _ _ ps1 w ((hp1.below h.below).more h.below.size) (by omega) (by omega)) ?_; intro g7 cap_4 cs_4 hn_4
    refine flow_one 4 (by kernel_rfl) ?_
    refine F_freshP (vl := [.slice A0 n0 c0, .slice (some ⟨g7, 0, none⟩) (ps1.flatten.length) cap_4]) 5 .u8 32 (mac bs0 (ps1.flatten)) (by rfl) (by exact hl_1) Want.none (by kernel_rfl) (by rfl) (List.Sublist.cons _ (List.Sublist.refl _)) (fun w h => refmac_own _ _ _ bs0 _ _ _ (ps1.flatten) w ((hr0.below h.below).more h.below.size) (by omega) (hn_4.reads (h.blk 0 (by rfl))) (by omega)) ?_; intro g8 cap_5 cs_5 hn_5
    refine flow_one 5 (by kernel_rfl) ?_
    refine F_val (vl := [.slice (some ⟨g6, 0, none⟩) 32 32, .slice (some ⟨g8, 0, none⟩) 32 cap_5]) (.bool true) (by rfl) (by exact hl_1) Want.none (by kernel_rfl) (by rfl) (List.Sublist.cons _ (List.Sublist.cons _ (List.Sublist.refl _))) (fun w h => n_same w _ _ _ _ _ _ (mac bs0 (ps1.flatten)) (mac bs0 (ps1.flatten)) (lit_reads (h.blk 2 (by rfl)) rfl (mac_len _ _)) (hn_5.reads (h.blk 0 (by rfl))) (by omega) (by omega) rfl) ?_
    refine flow_take (i := 6) (.bool true) (by rfl) (by kernel_rfl) (by kernel_rfl) (by kernel_rfl) (by exact hl_1) (by kernel_rfl) (List.Sublist.cons _ (List.Sublist.cons _ (List.Sublist.refl _))) (gives_value _ fun _ => by rfl) ?_
    refine flow_take_g (i := 7) (dj := 47) (.slice (some ⟨g5, 0, none⟩) n0 cap_3) (by rfl) (by kernel_rfl) (by kernel_rfl) (by kernel_rfl) (by exact hl_1) (by kernel_rfl) (List.Sublist.cons _ (List.Sublist.cons _ (List.Sublist.refl _))) (by rfl) (by rfl) (by rfl) (gives_value _ fun _ => by rfl) ?_
    refine flow_take_g (i := 8) (dj := 47) (.slice A0 n0 c0) (by rfl) (by kernel_rfl) (by kernel_rfl) (by kernel_rfl) (by exact hl_1) (by kernel_rfl) (List.Sublist.cons _ (List.Sublist.cons _ (List.Sublist.refl _))) (by rfl) (by rfl) (by rfl) (gives_value _ fun _ => by rfl) ?_
    refine flow_one 9 (by kernel_rfl) ?_
    refine F_val (vl := [.slice (some ⟨g5, 0, none⟩) n0 cap_3, .slice A0 n0 c0]) (.bool true) (by rfl) (by exact hl_1) (Want.some (dj := 47) (by exact hl_1) (by rfl) (by rfl) (by rfl)) (by kernel_rfl) (by rfl) (List.Sublist.cons _ (List.Sublist.cons _ (List.Sublist.refl _))) (fun w h => n_same w _ _ _ _ _ _ (bs0) (bs0) (hn_3.reads (h.blk 3 (by rfl))) ((hr0.below h.below).more h.below.size) (by omega) (by omega) rfl) ?_
    refine flow_take (i := 10) (.bool true) (by rfl) (by kernel_rfl) (by kernel_rfl) (by kernel_rfl) (by exact hl_1) (by kernel_rfl) (List.Sublist.cons _ (List.Sublist.cons _ (List.Sublist.refl _))) (gives_value _ fun _ => by rfl) ?_
    refine flow_take (i := 11) (.bool true) (by rfl) (by kernel_rfl) (by kernel_rfl) (by kernel_rfl) (by exact hl_1) (by kernel_rfl) (List.Sublist.cons _ (List.Sublist.cons _ (List.Sublist.refl _))) (gives_value _ fun _ => by rfl) ?_
    refine flow_done (by kernel_rfl) ?_
    intro w15 hw15
    refine wp_seq ?_
    refine seq_plain hw15 [0, 1, 2] (by rfl) ?_
    refine L_val (.slice (some ⟨gm, 0, none⟩) n1 cm) (by rfl) (by exact hl_1) (gives_value _ fun _ => by rfl) ?_
    refine L_val (.int .i64 (n1 : Int)) (by rfl) (by exact hl_1) (gives_len _ n1 cm und_pss (by rfl)) ?_
    refine L_val (.int .i64 0) (by rfl) (by exact hl_1) (gives_value _ fun _ => by rfl) ?_
    refine L_end ?_
    intro w16 hw16
    refine wp_block ?_
    refine loop_down (fun (r_ : Nat) a w => ∃ (j : Nat) (l_2 : List (Nat × Value)), n1 - j = r_ ∧ inFr 71 l_2 = true ∧ a = fr 71 ((0, .slice A0 n0 c0) :: (1, .slice A1 n1 c1) :: (6, .slice (some ⟨gm, 0, none⟩) n1 cm) :: (11, .bool true) :: (53, .int .i64 (n1 : Int)) :: (54, .int .i64 (j : Int)) :: l_2) ∧ (j ≤ n1) ∧ Hbl v ((gm, 24, csm) :: Lc) w) ?_ _ _ _ ⟨0, ((54, .int .i64 0) :: (53, .int .i64 (n1 : Int)) :: (52, .slice (some ⟨gm, 0, none⟩) n1 cm) :: (11, .bool true) :: (51, .bool true) :: (50, .bool true) :: (49, .slice A0 n0 c0) :: (48, .slice (some ⟨g5, 0, none⟩) n0 cap_3) :: (47, .bool true) :: (46, .bool true) :: (45, .slice (some ⟨g8, 0, none⟩) 32 cap_5) :: (44, .slice (some ⟨g7, 0, none⟩) (ps1.flatten.length) cap_4) :: (43, .slice A1 n1 c1) :: (42, .slice A0 n0 c0) :: (41, .slice (some ⟨g6, 0, none⟩) 32 32) :: (10, .pointer (some ⟨g6, 0, none⟩)) :: (40, .agg (agg8 (mac bs0 (ps1.flatten)))) :: (39, .slice (some ⟨gm, 0, none⟩) n1 cm) :: (38, .slice (some ⟨g5, 0, none⟩) n0 cap_3) :: (9, .slice (some ⟨g5, 0, none⟩) n0 cap_3) :: (37, .slice (some ⟨g5, 0, none⟩) n0 cap_3) :: (36, .slice A0 n0 c0) :: (35, .bool false) :: (34, .int .i64 ((n0 : Int) + (sn : Int))) :: (21, .bool false) :: (0, .slice A0 n0 c0) :: (1, .slice A1 n1 c1) :: (6, .slice (some ⟨gm, 0, none⟩) n1 cm) :: (5, .int .i64 ((n0 : Int) + (sn : Int))) :: (18, .slice A1 n1 c1) :: (19, .int .i64 (n1 : Int)) :: (20, .int .i64 (n1 : Int)) :: l_1), rfl, (by exact hl_1), (Eq.trans (Eq.trans (Eq.trans (Eq.trans (Eq.trans (fr_dup _ _ 54 _ (by exact hl_1) (by rfl) (by rfl)).symm (fr_dup _ _ 53 _ (by exact hl_1) (by rfl) (by rfl)).symm) (fr_dup _ _ 11 _ (by exact hl_1) (by rfl) (by rfl)).symm) (fr_dup _ _ 6 _ (by exact hl_1) (by rfl) (by rfl)).symm) (fr_dup _ _ 1 _ (by exact hl_1) (by rfl) (by rfl)).symm) (fr_dup _ _ 0 _ (by exact hl_1) (by rfl) (by rfl)).symm), Nat.zero_le _, (hw16.sub (List.Sublist.cons _ (List.Sublist.cons _ (List.Sublist.cons _ (List.Sublist.cons _ (List.Sublist.cons_cons _ (List.Sublist.refl _)))))))⟩
    rintro r_2 a0 w0_2 ⟨j, l_2, hr_2, hl_2, rfl, hj, hw0_2⟩
    by_cases hlt2 : j < n1
    ·
      obtain ⟨b1, o1, Aj, mj, cj, bj, hA1, hq1, hce1, hncj, hrj, htkj⟩ := hp1.at_ (show j < n1 by omega)
      have hblj : bj.length = mj := by simpa using hrj.1
      have hflj := flat_le ps1 (j + 1)
      have hfj := flat_next htkj hblj rfl
      obtain ⟨gx, nx, cx, csx, hxx, hmx, hnx⟩ := hcp.2 j (by rw [hp1.1]; omega)
      have hgj : ps1.getD j [] = bj := getD_of_take htkj (by rw [hp1.1]; omega)
      rw [hgj] at hnx
      have hnxj : nx = mj := hnx.len.symm.trans hblj
      refine seq_plain hw0_2 [0] (by rfl) ?_
      refine L_val (.bool true) (by rfl) (by exact hl_2) (gives_lss (k := .i64) ((j : Int)) ((n1 : Int)) true (by rfl) (by rfl) (decide_eq_true (by omega))) ?_
      refine L_end ?_
      intro w17 hw17
      refine wp_seq ?_
      refine wp_cond_true (fr_at _ _ (by exact hl_2) _) ?_
      refine wp_skip ?_
      change Code.wp _ _ _ _ _
      refine wp_seq ?_
      refine wp_block ?_
      refine seq_plain hw17 [0, 1] (by rfl) ?_
      refine L_val (.int .i64 (j : Int)) (by rfl) (by exact hl_2) (gives_value _ fun _ => by rfl) ?_
      refine L_val (.int .i64 (j : Int)) (by rfl) (by exact hl_2) (gives_value _ fun _ => by rfl) ?_
      refine L_end ?_
      intro w18 hw18
      refine one_flow (by kernel_rfl) hw18 [] ((gm, 24, csm) :: Lc) 13 (by rfl) ?_
      refine flow_take (i := 0) (.bool true) (by rfl) (by kernel_rfl) (by kernel_rfl) (by kernel_rfl) (by exact hl_2) (by kernel_rfl) (List.Sublist.refl _) (gives_value _ fun _ => by rfl) ?_
      refine flow_take (i := 1) (.bool true) (by rfl) (by kernel_rfl) (by kernel_rfl) (by kernel_rfl) (by exact hl_2) (by kernel_rfl) (List.Sublist.refl _) (gives_value _ fun _ => by rfl) ?_
      refine flow_take_g (i := 2) (dj := 58) (.slice (some ⟨gm, 0, none⟩) n1 cm) (by rfl) (by kernel_rfl) (by kernel_rfl) (by kernel_rfl) (by exact hl_2) (by kernel_rfl) (List.Sublist.refl _) (by rfl) (by rfl) (by rfl) (gives_value _ fun _ => by rfl) ?_
      refine flow_take_g (i := 3) (dj := 58) (.int .i64 (j : Int)) (by rfl) (by kernel_rfl) (by kernel_rfl) (by kernel_rfl) (by exact hl_2) (by kernel_rfl) (List.Sublist.refl _) (by rfl) (by rfl) (by rfl) (gives_value _ fun _ => by rfl) ?_
      refine flow_take_g (i := 4) (dj := 58) (.pointer (some ⟨gm, 0 + (j), none⟩)) (by rfl) (by kernel_rfl) (by kernel_rfl) (by kernel_rfl) (by exact hl_2) (by kernel_rfl) (List.Sublist.refl _) (by rfl) (by rfl) (by rfl) (gives_index gm 0 (n1) (cm) ((j : Int)) (j) (by rfl) (by rfl) und_pss slice_sz rfl (by omega)) ?_
      refine flow_take_g (i := 5) (dj := 58) (.slice (some ⟨gx, 0, none⟩) nx cx) (by rfl) (by kernel_rfl) (by kernel_rfl) (by kernel_rfl) (by exact hl_2) (by kernel_rfl) (List.Sublist.refl _) (by rfl) (by rfl) (by rfl) (gives_loadV gm (0 + (j)) csm (.slice (some ⟨gx, 0, none⟩) nx cx) (by rfl) (fun _ h => h.blk 0 (by rfl)) (hvm.get hxx) und_u8s) ?_
      refine flow_take_g (i := 6) (dj := 58) (.slice A1 n1 c1) (by rfl) (by kernel_rfl) (by kernel_rfl) (by kernel_rfl) (by exact hl_2) (by kernel_rfl) (List.Sublist.refl _) (by rfl) (by rfl) (by rfl) (gives_value _ fun _ => by rfl) ?_
      refine flow_take_g (i := 7) (dj := 58) (.int .i64 (j : Int)) (by rfl) (by kernel_rfl) (by kernel_rfl) (by kernel_rfl) (by exact hl_2) (by kernel_rfl) (List.Sublist.refl _) (by rfl) (by rfl) (by rfl) (gives_value _ fun _ => by rfl) ?_
      refine flow_take_g (i := 8) (dj := 58) (.pointer (some ⟨b1, o1 + (j), none⟩)) (by rfl) (by kernel_rfl) (by kernel_rfl) (by kernel_rfl) (by exact hl_2) (by kernel_rfl) (List.Sublist.refl _) (by rfl) (by rfl) (by rfl) (gives_index_old A1 n1 c1 ((j : Int)) (j) _ _ hA1 (by rfl) (by rfl) und_pss slice_sz rfl (by omega)) ?_
      refine flow_take_g (i := 9) (dj := 58) (.slice Aj mj cj) (by rfl) (by kernel_rfl) (by kernel_rfl) (by kernel_rfl) (by exact hl_2) (by kernel_rfl) (List.Sublist.refl _) (by rfl) (by rfl) (by rfl) (gives_load_oldS _ (.slice Aj mj cj) (by rfl) (fun _ h => (h.below.cell (p := ⟨b1, _, none⟩) hq1).trans hce1) und_u8s) ?_
      refine flow_one 10 (by kernel_rfl) ?_
      refine F_val (vl := [.slice (some ⟨gx, 0, none⟩) nx cx, .slice Aj mj cj]) (.bool true) (by rfl) (by exact hl_2) (Want.some (dj := 58) (by exact hl_2) (by rfl) (by rfl) (by rfl)) (by kernel_rfl) (by rfl) (List.Sublist.refl _) (fun w h => n_same w _ _ _ _ _ _ (bj) (bj) (hnx.reads ((h.2.1 _ (by simp [hmx] : (gx, 5, csx) ∈ _)).1)) ((hrj.below h.below).more h.below.size) (by omega) (by omega) rfl) ?_
      refine flow_take (i := 11) (.bool true) (by rfl) (by kernel_rfl) (by kernel_rfl) (by kernel_rfl) (by exact hl_2) (by kernel_rfl) (List.Sublist.refl _) (gives_value _ fun _ => by rfl) ?_
      refine flow_take (i := 12) (.bool true) (by rfl) (by kernel_rfl) (by kernel_rfl) (by kernel_rfl) (by exact hl_2) (by kernel_rfl) (List.Sublist.refl _) (gives_value _ fun _ => by rfl) ?_
      refine flow_done (by kernel_rfl) ?_
      intro w19 hw19
      change Code.wp _ _ _ _ _
      refine one_plain hw19 [0, 1] (by rfl) ?_
      refine L_val (.int .i64 ((j : Int) + 1)) (by rfl) (by exact hl_2) (gives_add (k := .i64) ((j : Int)) (1) ((j : Int) + 1) (by rfl) (by rfl) (IntWalk.i64_in _ (by omega))) ?_
      refine L_val (.int .i64 ((j : Int) + 1)) (by rfl) (by exact hl_2) (gives_value _ fun _ => by rfl) ?_
      refine L_end ?_
      intro w20 hw20
      change ∃ r' : Nat, r' < r_2 ∧ _
      refine ⟨_, ?_, j + 1, ((54, .int .i64 ((j : Int) + 1)) :: (69, .int .i64 ((j : Int) + 1)) :: (11, .bool true) :: (68, .bool true) :: (67, .bool true) :: (66, .slice Aj mj cj) :: (65, .pointer (some ⟨b1, o1 + (j), none⟩)) :: (64, .int .i64 (j : Int)) :: (63, .slice A1 n1 c1) :: (62, .slice (some ⟨gx, 0, none⟩) nx cx) :: (61, .pointer (some ⟨gm, 0 + (j), none⟩)) :: (60, .int .i64 (j : Int)) :: (59, .slice (some ⟨gm, 0, none⟩) n1 cm) :: (58, .bool true) :: (57, .bool true) :: (12, .int .i64 (j : Int)) :: (56, .int .i64 (j : Int)) :: (55, .bool true) :: (0, .slice A0 n0 c0) :: (1, .slice A1 n1 c1) :: (6, .slice (some ⟨gm, 0, none⟩) n1 cm) :: (11, .bool true) :: (53, .int .i64 (n1 : Int)) :: (54, .int .i64 (j : Int)) :: l_2), rfl, (by exact hl_2), (Eq.trans (Eq.trans (Eq.trans (Eq.trans (Eq.trans (fr_dup _ _ 54 _ (by exact hl_2) (by rfl) (by rfl)).symm (fr_dup _ _ 53 _ (by exact hl_2) (by rfl) (by rfl)).symm) (fr_dup _ _ 11 _ (by exact hl_2) (by rfl) (by rfl)).symm) (fr_dup _ _ 6 _ (by exact hl_2) (by rfl) (by rfl)).symm) (fr_dup _ _ 1 _ (by exact hl_2) (by rfl) (by rfl)).symm) (fr_dup _ _ 0 _ (by exact hl_2) (by rfl) (by rfl)).symm), by omega, hw20⟩
      omega
    ·
      refine seq_plain hw0_2 [0] (by rfl) ?_
      refine L_val (.bool false) (by rfl) (by exact hl_2) (gives_lss (k := .i64) ((j : Int)) ((n1 : Int)) false (by rfl) (by rfl) (decide_eq_false (by omega))) ?_
      refine L_end ?_
      intro w21 hw21
      refine wp_seq ?_
      refine wp_cond_false (fr_at _ _ (by exact hl_2) _) ?_
      refine wp_exit ?_
      change Code.wp _ _ _ _ _
      change Code.wp _ _ _ _ _
      refine seq_plain hw21 [0, 1] (by rfl) ?_
      refine L_val (.bool true) (by rfl) (by exact hl_2) (gives_value _ fun _ => by rfl) ?_
      refine L_val (.bool true) (by rfl) (by exact hl_2) (gives_value _ fun _ => by rfl) ?_
      refine L_end ?_
      intro w22 hw22
      refine wp_ret ?_
      change bodyPost _ _ _ Exit.ret _ _
      refine (ret_tmp (by rfl) (by exact hl_2) (by rfl) ⟨rfl, hw22.below⟩)
theorem macs_any (A0 : Option Addr) (n0 c0 : Nat) (bs0 : List Int) (A1 : Option Addr) (n1 c1 : Nat) (ps1 : List (List Int)) (v : World) (hr0 : Reads v v.heap.size A0 n0 (bs0.map (Value.int .u8))) (hnc0 : n0 ≤ c0) (hn0 : n0 ≤ 1048576) (hp1 : Pieces v v.heap.size A1 n1 ps1) (hb1 : ps1.flatten.length ≤ 1048576) (hm1 : n1 ≤ 1048576) (hgl : Glob v) (h2 : 2 ≤ v.heap.size) : Rets 5 #[.slice A0 n0 c0, .slice A1 n1 c1] v (.bool true) := by
  by_cases hc : 16384 < n0 + ps1.flatten.length
  · exact macs_long A0 n0 c0 bs0 A1 n1 c1 ps1 v hr0 hnc0 hn0 hp1 hb1 hm1 hgl h2 hc
  · exact macs_short A0 n0 c0 bs0 A1 n1 c1 ps1 v hr0 hnc0 hn0 hp1 hb1 hm1 hgl h2 (by omega)
end Go.Proofs.YtgkfkfodeooogaaDoor
