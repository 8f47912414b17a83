/-
  Layer 11: Concat: the walk.
-/
import Derived.Test.YtialfoccalobpaaDoorWCXmB
namespace Go.Proofs.YtialfoccalobpaaDoor
set_option linter.unusedSimpArgs false
set_option linter.unusedVariables false
open Go.RowKit
attribute [local irreducible] wpL wpF fr Code.wp bodyPost
set_option maxRecDepth 100000 in
set_option maxHeartbeats 4000000 in
theorem x_concat (A0 : Option Addr) (n0 c0 : Nat) (ps0 : List (List Int)) (txt : List Int) (NL : Nat) (v : World) (hf : ps0.flatten = txt) (hL : txt.length = NL) (hp0 : Pieces v v.heap.size A0 n0 ps0) (h0 : 0 < NL ∧ n0 ≤ 1000000) (hN : NL ≤ 1000000) : RetsP 144 #[.slice A0 n0 c0] v 5 .u8 NL txt := by
  have hps : ps0.flatten.length = NL := by rw [hf, hL]
  refine calls_fr1 Tryd.func144 rfl (by rfl : _ = 36) (by rfl) ?_
  have hw := Hbl.nil v
  refine seq_plain hw [0] (by rfl) ?_
  refine L_val (.slice none 0 0) (by rfl) (by rfl) (gives_value _ fun _ => by rfl) ?_
  refine L_end ?_
  intro w1 hw1
  refine seq_plain hw1 [0] (by rfl) ?_
  refine L_val (.int .i64 0) (by rfl) (by rfl) (gives_value _ fun _ => by rfl) ?_
  refine L_end ?_
  intro w2 hw2
  refine wp_seq ?_
  refine seq_plain hw2 [0, 1, 2] (by rfl) ?_
  refine L_val (.slice A0 n0 c0) (by rfl) (by rfl) (gives_value _ fun _ => by rfl) ?_
  refine L_val (.int .i64 (n0 : Int)) (by rfl) (by rfl) (gives_len _ n0 c0 und_pss (by rfl)) ?_
  refine L_val (.int .i64 0) (by rfl) (by rfl) (gives_value _ fun _ => by rfl) ?_
  refine L_end ?_
  intro w3 hw3
  refine wp_block ?_
  refine loop_down (fun (r_ : Nat) a w => ∃ (i : Nat) (sn : Nat) (l_1 : List (Nat × Value)), n0 - i = r_ ∧ inFr 36 l_1 = true ∧ a = fr 36 ((0, .slice A0 n0 c0) :: (3, .int .i64 (sn : Int)) :: (9, .slice A0 n0 c0) :: (10, .int .i64 (n0 : Int)) :: (11, .int .i64 (i : Int)) :: l_1) ∧ (i ≤ n0) ∧ (sn = (ps0.take i).flatten.length) ∧ Hbl v [] w) ?_ _ _ _ ⟨0, 0, [(11, .int .i64 0), (10, .int .i64 (n0 : Int)), (9, .slice A0 n0 c0), (3, .int .i64 0), (2, .slice none 0 0), (0, .slice A0 n0 c0)], rfl, (by rfl), (Eq.trans (Eq.trans (Eq.trans (Eq.trans (fr_dup _ _ 11 _ (by rfl) (by rfl) (by rfl)).symm (fr_dup _ _ 10 _ (by rfl) (by rfl) (by rfl)).symm) (fr_dup _ _ 9 _ (by rfl) (by rfl) (by rfl)).symm) (fr_dup _ _ 3 _ (by rfl) (by rfl) (by rfl)).symm) (fr_dup _ _ 0 _ (by rfl) (by rfl) (by rfl)).symm), Nat.zero_le _, (by simp), hw3⟩
  rintro r_1 a0 w0_1 ⟨i, sn, l_1, hr_1, hl_1, rfl, hi, hsn, hw0_1⟩
  by_cases hlt : i < n0
  ·
    obtain ⟨b0, o0, Ai, mi, ci, bi, hA0, hq0, hce0, hnci, hri, htki⟩ := hp0.at_ (show i < n0 by omega)
    have hbli : bi.length = mi := by simpa using hri.1
    have hfli := flat_le ps0 (i + 1)
    have hfn := flat_next htki hbli hsn
    refine seq_plain hw0_1 [0] (by rfl) ?_
    refine L_val (.bool true) (by rfl) (by exact hl_1) (gives_lss (k := .i64) ((i : Int)) ((n0 : Int)) true (by rfl) (by rfl) (decide_eq_true (by omega))) ?_
    refine L_end ?_
    intro w4 hw4
    refine wp_seq ?_
    refine wp_cond_true (fr_at _ _ (by exact hl_1) _) ?_
    refine wp_skip ?_
    change Code.wp _ _ _ _ _
    refine wp_seq ?_
    refine wp_block ?_
    refine seq_plain hw4 [0, 1, 2] (by rfl) ?_
    refine L_val (.pointer (some ⟨b0, o0 + (i), none⟩)) (by rfl) (by exact hl_1) (gives_index_old A0 n0 c0 ((i : Int)) (i) _ _ hA0 (by rfl) (by rfl) und_pss slice_sz rfl (by omega)) ?_
    refine L_val (.slice Ai mi ci) (by rfl) (by exact hl_1) (gives_load_oldS _ (.slice Ai mi ci) (by rfl) (fun _ h => (h.below.cell (p := ⟨b0, _, none⟩) hq0).trans hce0) und_u8s) ?_
    refine L_val (.slice Ai mi ci) (by rfl) (by exact hl_1) (gives_value _ fun _ => by rfl) ?_
    refine L_end ?_
    intro w5 hw5
    refine seq_plain hw5 [0, 1, 2, 3, 4] (by rfl) ?_
    refine L_val (.int .i64 (sn : Int)) (by rfl) (by exact hl_1) (gives_value _ fun _ => by rfl) ?_
    refine L_val (.slice Ai mi ci) (by rfl) (by exact hl_1) (gives_value _ fun _ => by rfl) ?_
    refine L_val (.int .i64 (mi : Int)) (by rfl) (by exact hl_1) (gives_len _ mi ci und_u8s (by rfl)) ?_
    refine L_val (.int .i64 ((sn : Int) + (mi : Int))) (by rfl) (by exact hl_1) (gives_add (k := .i64) ((sn : Int)) ((mi : Int)) ((sn : Int) + (mi : Int)) (by rfl) (by rfl) (IntWalk.i64_in _ (by omega))) ?_
    refine L_val (.int .i64 ((sn : Int) + (mi : Int))) (by rfl) (by exact hl_1) (gives_value _ fun _ => by rfl) ?_
    refine L_end ?_
    intro w6 hw6
    refine seq_plain hw6 [0, 1] (by rfl) ?_
    refine L_val (.int .i64 ((sn : Int) + (mi : Int))) (by rfl) (by exact hl_1) (gives_value _ fun _ => by rfl) ?_
    refine L_val (.bool false) (by rfl) (by exact hl_1) (gives_lss (k := .i64) ((sn : Int) + (mi : Int)) (0) false (by rfl) (by rfl) (decide_eq_false (by omega))) ?_
    refine L_end ?_
    intro w7 hw7
    refine wp_cond_false (fr_at _ _ (by exact hl_1) _) ?_
    refine wp_skip ?_
    change Code.wp _ _ _ _ _
    refine one_plain hw7 [0, 1] (by rfl) ?_
    refine L_val (.int .i64 ((i : Int) + 1)) (by rfl) (by exact hl_1) (gives_add (k := .i64) ((i : Int)) (1) ((i : Int) + 1) (by rfl) (by rfl) (IntWalk.i64_in _ (by omega))) ?_
    refine L_val (.int .i64 ((i : Int) + 1)) (by rfl) (by exact hl_1) (gives_value _ fun _ => by rfl) ?_
    refine L_end ?_
    intro w8 hw8
    change ∃ r' : Nat, r' < r_1 ∧ _
    refine ⟨_, ?_, i + 1, sn + mi, ((11, .int .i64 ((i : Int) + 1)) :: (22, .int .i64 ((i : Int) + 1)) :: (20, .bool false) :: (19, .int .i64 ((sn : Int) + (mi : Int))) :: (3, .int .i64 ((sn : Int) + (mi : Int))) :: (18, .int .i64 ((sn : Int) + (mi : Int))) :: (17, .int .i64 (mi : Int)) :: (16, .slice Ai mi ci) :: (15, .int .i64 (sn : Int)) :: (5, .slice Ai mi ci) :: (14, .slice Ai mi ci) :: (13, .pointer (some ⟨b0, o0 + (i), none⟩)) :: (12, .bool true) :: (0, .slice A0 n0 c0) :: (3, .int .i64 (sn : Int)) :: (9, .slice A0 n0 c0) :: (10, .int .i64 (n0 : Int)) :: (11, .int .i64 (i : Int)) :: l_1), rfl, (by exact hl_1), (Eq.trans (Eq.trans (Eq.trans (Eq.trans (fr_dup _ _ 11 _ (by exact hl_1) (by rfl) (by rfl)).symm (fr_dup _ _ 10 _ (by exact hl_1) (by rfl) (by rfl)).symm) (fr_dup _ _ 9 _ (by exact hl_1) (by rfl) (by rfl)).symm) (fr_dup _ _ 3 _ (by exact hl_1) (by rfl) (by rfl)).symm) (fr_dup _ _ 0 _ (by exact hl_1) (by rfl) (by rfl)).symm), by omega, hfn, hw8⟩
    omega
  ·
    refine seq_plain hw0_1 [0] (by rfl) ?_
    refine L_val (.bool false) (by rfl) (by exact hl_1) (gives_lss (k := .i64) ((i : Int)) ((n0 : Int)) false (by rfl) (by rfl) (decide_eq_false (by omega))) ?_
    refine L_end ?_
    intro w9 hw9
    refine wp_seq ?_
    refine wp_cond_false (fr_at _ _ (by exact hl_1) _) ?_
    refine wp_exit ?_
    have hall : ps0.take i = ps0 := List.take_of_length_le (by rw [hp0.1]; omega)
    rw [hall, hf, hL] at hsn
    subst sn
    change Code.wp _ _ _ _ _
    change Code.wp _ _ _ _ _
    refine seq_plain hw9 [0, 1, 2] (by rfl) ?_
    refine L_val (.int .i64 (NL : Int)) (by rfl) (by exact hl_1) (gives_value _ fun _ => by rfl) ?_
    refine L_freshP (vl := [.slice none 0 0, .int .i64 (NL : Int)]) 5 .u8 0 ([]) (by rfl) (by exact hl_1) Want.none (by kernel_rfl) (by rfl) (fun w h => x_grow NL w (by omega) (by omega)) ?_; intro g1 cap_1 cs_1 hn_1
    refine L_val (.slice (some ⟨g1, 0, none⟩) 0 cap_1) (by rfl) (by exact hl_1) (gives_value _ fun _ => by rfl) ?_
    refine L_end ?_
    intro w10 hw10
    refine wp_seq ?_
    refine seq_plain hw10 [0, 1, 2] (by rfl) ?_
    refine L_val (.slice A0 n0 c0) (by rfl) (by exact hl_1) (gives_value _ fun _ => by rfl) ?_
    refine L_val (.int .i64 (n0 : Int)) (by rfl) (by exact hl_1) (gives_len _ n0 c0 und_pss (by rfl)) ?_
    refine L_val (.int .i64 0) (by rfl) (by exact hl_1) (gives_value _ fun _ => by rfl) ?_
    refine L_end ?_
    intro w11 hw11
    refine wp_block ?_
    refine loop_down (fun (r_ : Nat) a w => ∃ (j : Nat) (sm : Nat) (go : Nat) (co : Nat) (so : Array Value) (l_2 : List (Nat × Value)), n0 - j = r_ ∧ inFr 36 l_2 = true ∧ a = fr 36 ((6, .slice (some ⟨go, 0, none⟩) sm co) :: (25, .slice A0 n0 c0) :: (26, .int .i64 (n0 : Int)) :: (27, .int .i64 (j : Int)) :: l_2) ∧ (j ≤ n0) ∧ (sm = (ps0.take j).flatten.length) ∧ (Nms .u8 so co sm (ps0.take j).flatten) ∧ Hbl v [(go, 5, so)] w) ?_ _ _ _ ⟨0, 0, g1, cap_1, cs_1, ((27, .int .i64 0) :: (26, .int .i64 (n0 : Int)) :: (25, .slice A0 n0 c0) :: (6, .slice (some ⟨g1, 0, none⟩) 0 cap_1) :: (24, .slice (some ⟨g1, 0, none⟩) 0 cap_1) :: (23, .int .i64 (NL : Int)) :: (12, .bool false) :: (0, .slice A0 n0 c0) :: (3, .int .i64 (NL : Int)) :: (9, .slice A0 n0 c0) :: (10, .int .i64 (n0 : Int)) :: (11, .int .i64 (i : Int)) :: l_1), rfl, (by exact hl_1), (Eq.trans (Eq.trans (Eq.trans (fr_dup _ _ 27 _ (by exact hl_1) (by rfl) (by rfl)).symm (fr_dup _ _ 26 _ (by exact hl_1) (by rfl) (by rfl)).symm) (fr_dup _ _ 25 _ (by exact hl_1) (by rfl) (by rfl)).symm) (fr_dup _ _ 6 _ (by exact hl_1) (by rfl) (by rfl)).symm), Nat.zero_le _, (by simp), hn_1.list (by simp) rfl, hw11⟩
    rintro r_2 a0 w0_2 ⟨j, sm, go, co, so, l_2, hr_2, hl_2, rfl, hj, hsm, ho, hw0_2⟩
    by_cases hlt2 : j < n0
    ·
      obtain ⟨b0, o0, Aj, mj, cj, bj, hA0, hq0, hce0, hncj, hrj, htkj⟩ := hp0.at_ (show j < n0 by omega)
      have hblj : bj.length = mj := by simpa using hrj.1
      have hflj := flat_le ps0 (j + 1)
      have hfn := flat_next htkj hblj hsm
      refine seq_plain hw0_2 [0] (by rfl) ?_
      refine L_val (.bool true) (by rfl) (by exact hl_2) (gives_lss (k := .i64) ((j : Int)) ((n0 : Int)) true (by rfl) (by rfl) (decide_eq_true (by omega))) ?_
      refine L_end ?_
      intro w12 hw12
      refine wp_seq ?_
      refine wp_cond_true (fr_at _ _ (by exact hl_2) _) ?_
      refine wp_skip ?_
      change Code.wp _ _ _ _ _
      refine wp_seq ?_
      refine wp_block ?_
      refine seq_plain hw12 [0, 1, 2] (by rfl) ?_
      refine L_val (.pointer (some ⟨b0, o0 + (j), none⟩)) (by rfl) (by exact hl_2) (gives_index_old A0 n0 c0 ((j : Int)) (j) _ _ hA0 (by rfl) (by rfl) und_pss slice_sz rfl (by omega)) ?_
      refine L_val (.slice Aj mj cj) (by rfl) (by exact hl_2) (gives_load_oldS _ (.slice Aj mj cj) (by rfl) (fun _ h => (h.below.cell (p := ⟨b0, _, none⟩) hq0).trans hce0) und_u8s) ?_
      refine L_val (.slice Aj mj cj) (by rfl) (by exact hl_2) (gives_value _ fun _ => by rfl) ?_
      refine L_end ?_
      intro w13 hw13
      refine one_plain hw13 [0, 1, 2, 3] (by rfl) ?_
      refine L_val (.slice (some ⟨go, 0, none⟩) sm co) (by rfl) (by exact hl_2) (gives_value _ fun _ => by rfl) ?_
      refine L_val (.slice Aj mj cj) (by rfl) (by exact hl_2) (gives_value _ fun _ => by rfl) ?_
      refine L_push 0 go sm co mj cj 1 Aj .u8 (.int .u8 0) ((ps0.take j).flatten) bj so (by rfl) (by exact hl_2) Want.none und_u8s byte_info rfl (by rfl) (by rfl) (by rfl) ho (fun w h => ((hrj.below h.below).more h.below.size)) (by omega) (by rfl) [] (by rfl) ?_; intro g2 cap_2 cs_2 hn_2
      refine L_val (.slice (some ⟨g2, 0, none⟩) (sm + mj) cap_2) (by rfl) (by exact hl_2) (gives_value _ fun _ => by rfl) ?_
      refine L_end ?_
      intro w14 hw14
      change Code.wp _ _ _ _ _
      refine one_plain hw14 [0, 1] (by rfl) ?_
      refine L_val (.int .i64 ((j : Int) + 1)) (by rfl) (by exact hl_2) (gives_add (k := .i64) ((j : Int)) (1) ((j : Int) + 1) (by rfl) (by rfl) (IntWalk.i64_in _ (by omega))) ?_
      refine L_val (.int .i64 ((j : Int) + 1)) (by rfl) (by exact hl_2) (gives_value _ fun _ => by rfl) ?_
      refine L_end ?_
      intro w15 hw15
      change ∃ r' : Nat, r' < r_2 ∧ _
      refine ⟨_, ?_, j + 1, sm + mj, g2, cap_2, cs_2, ((27, .int .i64 ((j : Int) + 1)) :: (34, .int .i64 ((j : Int) + 1)) :: (6, .slice (some ⟨g2, 0, none⟩) (sm + mj) cap_2) :: (33, .slice (some ⟨g2, 0, none⟩) (sm + mj) cap_2) :: (32, .slice Aj mj cj) :: (31, .slice (some ⟨go, 0, none⟩) sm co) :: (8, .slice Aj mj cj) :: (30, .slice Aj mj cj) :: (29, .pointer (some ⟨b0, o0 + (j), none⟩)) :: (28, .bool true) :: (6, .slice (some ⟨go, 0, none⟩) sm co) :: (25, .slice A0 n0 c0) :: (26, .int .i64 (n0 : Int)) :: (27, .int .i64 (j : Int)) :: l_2), rfl, (by exact hl_2), (Eq.trans (Eq.trans (Eq.trans (fr_dup _ _ 27 _ (by exact hl_2) (by rfl) (by rfl)).symm (fr_dup _ _ 26 _ (by exact hl_2) (by rfl) (by rfl)).symm) (fr_dup _ _ 25 _ (by exact hl_2) (by rfl) (by rfl)).symm) (fr_dup _ _ 6 _ (by exact hl_2) (by rfl) (by rfl)).symm), by omega, hfn, hn_2.list (by rw [htkj, List.flatten_append]; simp) rfl, hw15⟩
      omega
    ·
      refine seq_plain hw0_2 [0] (by rfl) ?_
      refine L_val (.bool false) (by rfl) (by exact hl_2) (gives_lss (k := .i64) ((j : Int)) ((n0 : Int)) false (by rfl) (by rfl) (decide_eq_false (by omega))) ?_
      refine L_end ?_
      intro w16 hw16
      refine wp_seq ?_
      refine wp_cond_false (fr_at _ _ (by exact hl_2) _) ?_
      refine wp_exit ?_
      have hall2 : ps0.take j = ps0 := List.take_of_length_le (by rw [hp0.1]; omega)
      rw [hall2, hf] at ho hsm
      rw [hL] at hsm
      subst sm
      change Code.wp _ _ _ _ _
      change Code.wp _ _ _ _ _
      refine seq_plain hw16 [0, 1] (by rfl) ?_
      refine L_val (.slice (some ⟨go, 0, none⟩) NL co) (by rfl) (by exact hl_2) (gives_value _ fun _ => by rfl) ?_
      refine L_val (.slice (some ⟨go, 0, none⟩) NL co) (by rfl) (by exact hl_2) (gives_value _ fun _ => by rfl) ?_
      refine L_end ?_
      intro w17 hw17
      refine wp_ret ?_
      change bodyPost _ _ _ Exit.ret _ _
      refine (ret_tmp (by rfl) (by exact hl_2) (by rfl) ⟨go, co, so, rfl, ho, hw17.ge 0 (by rfl), hw17.blk 0 (by rfl), hw17.below⟩)
end Go.Proofs.YtialfoccalobpaaDoor
