/-
  Join: the walk.
-/
import Derived.Test.YtgkfkfodeooogaaDoorShV
namespace Go.Proofs.YtgkfkfodeooogaaDoor
set_option linter.unusedSimpArgs false
set_option linter.unusedVariables false
open Go.RowKit
attribute [local irreducible] wpL wpF fr Code.wp bodyPost
theorem Pieces.more {w : World} {B B' n : Nat} {A : Option Addr} {ps : List (List Int)} (h : Pieces w B A n ps) (hb : B ≤ B') : Pieces w B' A n ps :=
  ⟨h.1, fun hn => by
    obtain ⟨b, o, e, hB, hc⟩ := h.2 hn
    exact ⟨b, o, e, by omega, fun i hi => by obtain ⟨v, hv, hp⟩ := hc i hi; exact ⟨v, hv, hp.more hb⟩⟩⟩
theorem getD_of_take {ps : List (List Int)} {j : Nat} {b : List Int} (h : ps.take (j + 1) = ps.take j ++ [b]) (hj : j < ps.length) : ps.getD j [] = b := by
  rw [List.take_succ_eq_append_getElem hj] at h
  have := List.append_cancel_left h
  simp only [List.cons.injEq, and_true] at this
  simp [hj, this]
set_option maxRecDepth 100000 in
set_option maxHeartbeats 4000000 in
theorem join_own (A0 : Option Addr) (n0 c0 : Nat) (ps0 : List (List Int)) (v : World) (hp0 : Pieces v v.heap.size A0 n0 ps0) (hb0 : ps0.flatten.length ≤ 1048576) (hm0 : n0 ≤ 1048576) : RetsP 15 #[.slice A0 n0 c0] v 5 .u8 ps0.flatten.length ps0.flatten := by
  refine calls_fr1 Tryd.func15 rfl (by rfl : _ = 19) (by rfl) ?_
  have hw := Hbl.nil v
  refine seq_plain hw [0] (by rfl) ?_
  refine L_val (.slice none 0 0) (by rfl) (by rfl) (gives_value _ fun _ => by rfl) ?_
  refine L_end ?_
  intro w1 hw1
  refine seq_plain hw1 [0, 1] (by rfl) ?_
  refine L_build0 1 (by rfl) (by rfl) und_u8s u8_sz ?_; intro g1; have hn_1 := Nms.nil .u8
  refine L_val (.slice (some ⟨g1, 0, none⟩) 0 0) (by rfl) (by rfl) (gives_value _ fun _ => by rfl) ?_
  refine L_end ?_
  intro w2 hw2
  refine wp_seq ?_
  refine seq_plain hw2 [0, 1, 2] (by rfl) ?_
  refine L_val (.slice A0 n0 c0) (by rfl) (by rfl) (gives_value _ fun _ => by rfl) ?_
  refine L_val (.int .i64 (n0 : Int)) (by rfl) (by rfl) (gives_len _ n0 c0 und_pss (by rfl)) ?_
  refine L_val (.int .i64 0) (by rfl) (by rfl) (gives_value _ fun _ => by rfl) ?_
  refine L_end ?_
  intro w3 hw3
  refine wp_block ?_
  refine loop_down (fun (r_ : Nat) a w => ∃ (i : Nat) (sn : Nat) (go : Nat) (co : Nat) (so : Array Value) (l_1 : List (Nat × Value)), n0 - i = r_ ∧ inFr 19 l_1 = true ∧ a = fr 19 ((0, .slice A0 n0 c0) :: (3, .slice (some ⟨go, 0, none⟩) sn co) :: (7, .int .i64 (n0 : Int)) :: (8, .int .i64 (i : Int)) :: l_1) ∧ (i ≤ n0) ∧ (sn = (ps0.take i).flatten.length) ∧ (Nms .u8 so co sn (ps0.take i).flatten) ∧ Hbl v [(go, 5, so)] w) ?_ _ _ _ ⟨0, 0, g1, 0, #[], [(8, .int .i64 0), (7, .int .i64 (n0 : Int)), (6, .slice A0 n0 c0), (3, .slice (some ⟨g1, 0, none⟩) 0 0), (5, .slice (some ⟨g1, 0, none⟩) 0 0), (2, .slice none 0 0), (0, .slice A0 n0 c0)], rfl, (by rfl), (Eq.trans (Eq.trans (Eq.trans (fr_dup _ _ 8 _ (by rfl) (by rfl) (by rfl)).symm (fr_dup _ _ 7 _ (by rfl) (by rfl) (by rfl)).symm) (fr_dup _ _ 3 _ (by rfl) (by rfl) (by rfl)).symm) (fr_dup _ _ 0 _ (by rfl) (by rfl) (by rfl)).symm), Nat.zero_le _, (by simp), Nms.nil .u8, hw3⟩
  rintro r_1 a0 w0_1 ⟨i, sn, go, co, so, l_1, hr_1, hl_1, rfl, hi, hsn, ho, hw0_1⟩
  by_cases hlt : i < n0
  ·
    obtain ⟨b0, o0, Ai, mi, ci, bi, hA0, hq0, hce0, hnci, hri, htki⟩ := hp0.at_ (show i < n0 by omega)
    have hbli : bi.length = mi := by simpa using hri.1
    have hfli := flat_le ps0 (i + 1)
    have hfn := flat_next htki hbli hsn
    refine seq_plain hw0_1 [0] (by rfl) ?_
    refine L_val (.bool true) (by rfl) (by exact hl_1) (gives_lss (k := .i64) ((i : Int)) ((n0 : Int)) true (by rfl) (by rfl) (decide_eq_true (by omega))) ?_
    refine L_end ?_
    intro w4 hw4
    refine wp_seq ?_
    refine wp_cond_true (fr_at _ _ (by exact hl_1) _) ?_
    refine wp_skip ?_
    change Code.wp _ _ _ _ _
    refine wp_seq ?_
    refine wp_block ?_
    refine seq_plain hw4 [0, 1] (by rfl) ?_
    refine L_val (.int .i64 (i : Int)) (by rfl) (by exact hl_1) (gives_value _ fun _ => by rfl) ?_
    refine L_val (.int .i64 (i : Int)) (by rfl) (by exact hl_1) (gives_value _ fun _ => by rfl) ?_
    refine L_end ?_
    intro w5 hw5
    refine one_plain hw5 [0, 1, 2, 3, 4, 5, 6] (by rfl) ?_
    refine L_val (.slice (some ⟨go, 0, none⟩) sn co) (by rfl) (by exact hl_1) (gives_value _ fun _ => by rfl) ?_
    refine L_val (.slice A0 n0 c0) (by rfl) (by exact hl_1) (gives_value _ fun _ => by rfl) ?_
    refine L_val (.int .i64 (i : Int)) (by rfl) (by exact hl_1) (gives_value _ fun _ => by rfl) ?_
    refine L_val (.pointer (some ⟨b0, o0 + (i), none⟩)) (by rfl) (by exact hl_1) (gives_index_old A0 n0 c0 ((i : Int)) (i) _ _ hA0 (by rfl) (by rfl) und_pss slice_sz rfl (by omega)) ?_
    refine L_val (.slice Ai mi ci) (by rfl) (by exact hl_1) (gives_load_oldS _ (.slice Ai mi ci) (by rfl) (fun _ h => (h.below.cell (p := ⟨b0, _, none⟩) hq0).trans hce0) und_u8s) ?_
    refine L_push 0 go sn co mi ci 1 Ai .u8 (.int .u8 0) ((ps0.take i).flatten) bi so (by rfl) (by exact hl_1) Want.none und_u8s byte_info rfl (by rfl) (by rfl) (by rfl) ho (fun w h => ((hri.below h.below).more h.below.size)) (by omega) (by rfl) [] (by rfl) ?_; intro g2 cap_2 cs_2 hn_2
    refine L_val (.slice (some ⟨g2, 0, none⟩) (sn + mi) cap_2) (by rfl) (by exact hl_1) (gives_value _ fun _ => by rfl) ?_
    refine L_end ?_
    intro w6 hw6
    change Code.wp _ _ _ _ _
    refine one_plain hw6 [0, 1] (by rfl) ?_
    refine L_val (.int .i64 ((i : Int) + 1)) (by rfl) (by exact hl_1) (gives_add (k := .i64) ((i : Int)) (1) ((i : Int) + 1) (by rfl) (by rfl) (IntWalk.i64_in _ (by omega))) ?_
    refine L_val (.int .i64 ((i : Int) + 1)) (by rfl) (by exact hl_1) (gives_value _ fun _ => by rfl) ?_
    refine L_end ?_
    intro w7 hw7
    change ∃ r' : Nat, r' < r_1 ∧ _
    refine ⟨_, ?_, i + 1, sn + mi, g2, cap_2, cs_2, ((8, .int .i64 ((i : Int) + 1)) :: (17, .int .i64 ((i : Int) + 1)) :: (3, .slice (some ⟨g2, 0, none⟩) (sn + mi) cap_2) :: (16, .slice (some ⟨g2, 0, none⟩) (sn + mi) cap_2) :: (15, .slice Ai mi ci) :: (14, .pointer (some ⟨b0, o0 + (i), none⟩)) :: (13, .int .i64 (i : Int)) :: (12, .slice A0 n0 c0) :: (11, .slice (some ⟨go, 0, none⟩) sn co) :: (4, .int .i64 (i : Int)) :: (10, .int .i64 (i : Int)) :: (9, .bool true) :: (0, .slice A0 n0 c0) :: (3, .slice (some ⟨go, 0, none⟩) sn co) :: (7, .int .i64 (n0 : Int)) :: (8, .int .i64 (i : Int)) :: l_1), rfl, (by exact hl_1), (Eq.trans (Eq.trans (Eq.trans (fr_dup _ _ 8 _ (by exact hl_1) (by rfl) (by rfl)).symm (fr_dup _ _ 7 _ (by exact hl_1) (by rfl) (by rfl)).symm) (fr_dup _ _ 3 _ (by exact hl_1) (by rfl) (by rfl)).symm) (fr_dup _ _ 0 _ (by exact hl_1) (by rfl) (by rfl)).symm), by omega, hfn, hn_2.list (by rw [htki, List.flatten_append]; simp) rfl, (hw7.sub (List.Sublist.cons_cons _ (List.Sublist.refl _)))⟩
    omega
  ·
    refine seq_plain hw0_1 [0] (by rfl) ?_
    refine L_val (.bool false) (by rfl) (by exact hl_1) (gives_lss (k := .i64) ((i : Int)) ((n0 : Int)) false (by rfl) (by rfl) (decide_eq_false (by omega))) ?_
    refine L_end ?_
    intro w8 hw8
    refine wp_seq ?_
    refine wp_cond_false (fr_at _ _ (by exact hl_1) _) ?_
    refine wp_exit ?_
    have hin : i = n0 := by omega
    have hall : ps0.take i = ps0 := List.take_of_length_le (by rw [hp0.1]; omega)
    rw [hall] at hsn ho
    change Code.wp _ _ _ _ _
    change Code.wp _ _ _ _ _
    refine seq_plain hw8 [0, 1] (by rfl) ?_
    refine L_val (.slice (some ⟨go, 0, none⟩) sn co) (by rfl) (by exact hl_1) (gives_value _ fun _ => by rfl) ?_
    refine L_val (.slice (some ⟨go, 0, none⟩) sn co) (by rfl) (by exact hl_1) (gives_value _ fun _ => by rfl) ?_
    refine L_end ?_
    intro w9 hw9
    subst hsn
    refine wp_ret ?_
    change bodyPost _ _ _ Exit.ret _ _
    refine (ret_tmp (by rfl) (by exact hl_1) (by rfl) ⟨go, co, so, rfl, ho, hw9.ge 0 (by rfl), hw9.blk 0 (by rfl), hw9.below⟩)
end Go.Proofs.YtgkfkfodeooogaaDoor
