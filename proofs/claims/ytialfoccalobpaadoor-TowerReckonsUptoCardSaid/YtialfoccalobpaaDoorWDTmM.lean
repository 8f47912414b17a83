/-
  The reference's product of six numbers.
-/
import Derived.Test.YtialfoccalobpaaDoorWDTmB
namespace Go.Proofs.YtialfoccalobpaaDoor
set_option linter.unusedSimpArgs false
set_option linter.unusedVariables false
open Go.RowKit
attribute [local irreducible] wpL wpF fr Code.wp bodyPost
set_option maxRecDepth 100000 in
set_option maxHeartbeats 4000000 in
theorem m6_mul (cx cy : Nat → Array Value) (f φ : Nat → F2) (v : World) (hx : SixAt v cx f) (hy : SixAt v cy φ) : RetsM (QS (mall f φ 6)) 47 #[.agg (six cx), .agg (six cy)] v := by
  refine calls_fr2 Tryd.func47 rfl (by rfl : _ = 47) (by rfl) ?_
  have hw := Hbl.nil v
  refine seq_plain hw [0, 1, 2] (by rfl) ?_
  refine L_box (.agg (six cx)) (by rfl) (by rfl) (by rfl) (six cx) (by rfl) ?_; intro g1
  refine L_box (.agg (six cy)) (by rfl) (by rfl) (by rfl) (six cy) (by rfl) ?_; intro g2
  refine L_alloc _ (by rfl) (by rfl) z_aN (six nco) rfl ?_; intro g3
  refine L_end ?_
  intro w1 hw1
  refine seq_plain hw1 [0] (by rfl) ?_
  refine L_alloc _ (by rfl) (by rfl) z_aN (six nco) rfl ?_; intro g4
  refine L_end ?_
  intro w2 hw2
  refine wp_seq ?_
  refine seq_plain hw2 [0] (by rfl) ?_
  refine L_val (.int .i64 0) (by rfl) (by rfl) (gives_value _ fun _ => by rfl) ?_
  refine L_end ?_
  intro w3 hw3
  refine wp_block ?_
  refine loop_down (fun (r_ : Nat) a w => ∃ (i : Nat) (ai : Nat → F2) (ci : Nat → Array Value) (T : List (Nat × TypeId × Array Value)) (l_1 : List (Nat × Value)), 6 - i = r_ ∧ inFr 47 l_1 = true ∧ a = fr 47 ((6, .int .i64 (i : Int)) :: (2, .pointer (some ⟨g1, 0, none⟩)) :: (3, .pointer (some ⟨g2, 0, none⟩)) :: (4, .pointer (some ⟨g3, 0, none⟩)) :: (5, .pointer (some ⟨g4, 0, none⟩)) :: l_1) ∧ (i ≤ 6) ∧ (ai = mall f φ i) ∧ (SixIn T ci ai) ∧ Hbl v ((g4, 79, (six ci)) :: (g3, 79, (six nco)) :: (g2, 79, (six cy)) :: (g1, 79, (six cx)) :: T) w) ?_ _ _ _ ⟨0, fun _ => 0, nco, [], [(6, .int .i64 0), (5, .pointer (some ⟨g4, 0, none⟩)), (4, .pointer (some ⟨g3, 0, none⟩)), (3, .pointer (some ⟨g2, 0, none⟩)), (2, .pointer (some ⟨g1, 0, none⟩)), (1, .agg (six cy)), (0, .agg (six cx))], rfl, (by rfl), (Eq.trans (Eq.trans (Eq.trans (Eq.trans (fr_dup _ _ 5 _ (by rfl) (by rfl) (by rfl)).symm (fr_dup _ _ 4 _ (by rfl) (by rfl) (by rfl)).symm) (fr_dup _ _ 3 _ (by rfl) (by rfl) (by rfl)).symm) (fr_dup _ _ 2 _ (by rfl) (by rfl) (by rfl)).symm) (fr_dup _ _ 6 _ (by rfl) (by rfl) (by rfl)).symm), Nat.zero_le _, rfl, nco_in, hw3⟩
  rintro r_1 a0 w0_1 ⟨i, ai, ci, T, l_1, hr_1, hl_1, rfl, hi, hai, hci, hw0_1⟩
  rcases (by omega : i < 6 ∨ i = 6) with hil | hil
  ·
    refine wp_seq ?_
    refine seq_plain hw0_1 [0, 1] (by rfl) ?_
    refine L_val (.int .i64 (i : Int)) (by rfl) (by exact hl_1) (gives_value _ fun _ => by rfl) ?_
    refine L_val (.bool true) (by rfl) (by exact hl_1) (gives_lss (k := .i64) ((i : Int)) (6) true (by rfl) (by rfl) (decide_eq_true (by omega))) ?_
    refine L_end ?_
    intro w4 hw4
    refine wp_cond_true (fr_at _ _ (by exact hl_1) _) ?_
    refine wp_skip ?_
    change Code.wp _ _ _ _ _
    refine wp_seq ?_
    refine wp_block ?_
    refine seq_plain hw4 [0] (by rfl) ?_
    refine L_val (.int .i64 0) (by rfl) (by exact hl_1) (gives_value _ fun _ => by rfl) ?_
    refine L_end ?_
    intro w5 hw5
    refine wp_block ?_
    refine loop_down (fun (r_ : Nat) a w => ∃ (j : Nat) (aj : Nat → F2) (cj : Nat → Array Value) (Tj : List (Nat × TypeId × Array Value)) (l_2 : List (Nat × Value)), 6 - j = r_ ∧ inFr 47 l_2 = true ∧ a = fr 47 ((7, .int .i64 (j : Int)) :: (6, .int .i64 (i : Int)) :: (2, .pointer (some ⟨g1, 0, none⟩)) :: (3, .pointer (some ⟨g2, 0, none⟩)) :: (4, .pointer (some ⟨g3, 0, none⟩)) :: (5, .pointer (some ⟨g4, 0, none⟩)) :: l_2) ∧ (j ≤ 6) ∧ (aj = mrow f φ i (mall f φ i) j) ∧ (SixIn Tj cj aj) ∧ Hbl v ((g4, 79, (six cj)) :: (g3, 79, (six nco)) :: (g2, 79, (six cy)) :: (g1, 79, (six cx)) :: Tj) w) ?_ _ _ _ ⟨0, ai, ci, T, ((7, .int .i64 0) :: (10, .bool true) :: (9, .int .i64 (i : Int)) :: (6, .int .i64 (i : Int)) :: (2, .pointer (some ⟨g1, 0, none⟩)) :: (3, .pointer (some ⟨g2, 0, none⟩)) :: (4, .pointer (some ⟨g3, 0, none⟩)) :: (5, .pointer (some ⟨g4, 0, none⟩)) :: l_1), rfl, (by exact hl_1), (Eq.trans (Eq.trans (Eq.trans (Eq.trans (Eq.trans (fr_dup _ _ 5 _ (by exact hl_1) (by rfl) (by rfl)).symm (fr_dup _ _ 4 _ (by exact hl_1) (by rfl) (by rfl)).symm) (fr_dup _ _ 3 _ (by exact hl_1) (by rfl) (by rfl)).symm) (fr_dup _ _ 2 _ (by exact hl_1) (by rfl) (by rfl)).symm) (fr_dup _ _ 6 _ (by exact hl_1) (by rfl) (by rfl)).symm) (fr_dup _ _ 7 _ (by exact hl_1) (by rfl) (by rfl)).symm), Nat.zero_le _, hai, hci, hw5⟩
    rintro r_2 a0 w0_2 ⟨j, aj, cj, Tj, l_2, hr_2, hl_2, rfl, hj, haj, hcj, hw0_2⟩
    rcases (by omega : (j < 6 ∧ 6 ≤ i + j) ∨ (j < 6 ∧ i + j < 6) ∨ j = 6) with ⟨hlt, hge⟩ | ⟨hlt, hge⟩ | hlt
    ·
      obtain ⟨k, hk⟩ : ∃ k : Nat, k = (i + j) % 6 := ⟨_, rfl⟩
      have hk6 : k < 6 := hk ▸ Nat.mod_lt _ (by decide)
      have hkd : ((i : Int) + (j : Int)).tmod 6 = (k : Int) := by rw [Int.tmod_eq_emod_of_nonneg (by omega), hk, Int.natCast_emod]; rfl
      refine wp_seq ?_
      refine seq_plain hw0_2 [0, 1] (by rfl) ?_
      refine L_val (.int .i64 (j : Int)) (by rfl) (by exact hl_2) (gives_value _ fun _ => by rfl) ?_
      refine L_val (.bool true) (by rfl) (by exact hl_2) (gives_lss (k := .i64) ((j : Int)) (6) true (by rfl) (by rfl) (decide_eq_true (by omega))) ?_
      refine L_end ?_
      intro w6 hw6
      refine wp_cond_true (fr_at _ _ (by exact hl_2) _) ?_
      refine wp_skip ?_
      change Code.wp _ _ _ _ _
      refine wp_seq ?_
      refine wp_block ?_
      refine seq_flow_to (fun a w => ∃ (g : Nat) (u : Array Value) (T : List (Nat × TypeId × Array Value)), Tj.Sublist T ∧ PIn T u ((f i) * (φ j)) ∧ a = fr 47 ((8, .pointer (some ⟨g, 0, none⟩)) :: (23, .agg u) :: (22, .agg (cy j)) :: (21, .pointer (some ⟨g2, j * 2, none⟩)) :: (20, .int .i64 (j : Int)) :: (19, .agg (cx i)) :: (18, .pointer (some ⟨g1, i * 2, none⟩)) :: (17, .int .i64 (i : Int)) :: (14, .bool true) :: (13, .int .i64 (j : Int)) :: (7, .int .i64 (j : Int)) :: (6, .int .i64 (i : Int)) :: (2, .pointer (some ⟨g1, 0, none⟩)) :: (3, .pointer (some ⟨g2, 0, none⟩)) :: (4, .pointer (some ⟨g3, 0, none⟩)) :: (5, .pointer (some ⟨g4, 0, none⟩)) :: l_2) ∧ Hbl v ((g, 77, u) :: (g4, 79, (six cj)) :: (g3, 79, (six nco)) :: (g2, 79, (six cy)) :: (g1, 79, (six cx)) :: T) w) (by kernel_rfl) hw6 [] ((g4, 79, (six cj)) :: (g3, 79, (six nco)) :: (g2, 79, (six cy)) :: (g1, 79, (six cx)) :: Tj) 9 (by rfl) ?_ ?_
      ·
        refine flow_take (i := 0) (.int .i64 (i : Int)) (by rfl) (by kernel_rfl) (by kernel_rfl) (by kernel_rfl) (by exact hl_2) (by kernel_rfl) (List.Sublist.refl _) (gives_value _ fun _ => by rfl) ?_
        refine flow_take (i := 1) (.pointer (some ⟨g1, i * 2, none⟩)) (by rfl) (by kernel_rfl) (by kernel_rfl) (by kernel_rfl) (by exact hl_2) (by kernel_rfl) (List.Sublist.refl _) (gives_index_six g1 6 2 ((i : Int)) (i) (i * 2) (by rfl) (by rfl) Tryd.underlying79 (by kernel_rfl) rfl (by omega) rfl) ?_
        refine flow_take (i := 2) (.agg (cx i)) (by rfl) (by kernel_rfl) (by kernel_rfl) (by kernel_rfl) (by exact hl_2) (by kernel_rfl) (List.Sublist.refl _) (gives_load g1 (i * 2) 79 (six cx) (cx i) _ (by rfl) (fun _ h => h.blk 3 (by rfl)) (six_at cx hx.siz i (by omega)) Tryd.underlying77 (by rfl) (hi_P (hx.siz i (by omega)))) ?_
        refine flow_take (i := 3) (.int .i64 (j : Int)) (by rfl) (by kernel_rfl) (by kernel_rfl) (by kernel_rfl) (by exact hl_2) (by kernel_rfl) (List.Sublist.refl _) (gives_value _ fun _ => by rfl) ?_
        refine flow_take (i := 4) (.pointer (some ⟨g2, j * 2, none⟩)) (by rfl) (by kernel_rfl) (by kernel_rfl) (by kernel_rfl) (by exact hl_2) (by kernel_rfl) (List.Sublist.refl _) (gives_index_six g2 6 2 ((j : Int)) (j) (j * 2) (by rfl) (by rfl) Tryd.underlying79 (by kernel_rfl) rfl (by omega) rfl) ?_
        refine flow_take (i := 5) (.agg (cy j)) (by rfl) (by kernel_rfl) (by kernel_rfl) (by kernel_rfl) (by exact hl_2) (by kernel_rfl) (List.Sublist.refl _) (gives_load g2 (j * 2) 79 (six cy) (cy j) _ (by rfl) (fun _ h => h.blk 2 (by rfl)) (six_at cy hy.siz j (by omega)) Tryd.underlying77 (by rfl) (hi_P (hy.siz j (by omega)))) ?_
        refine flow_two 6 7 (by kernel_rfl) ?_ ?_
        ·
          refine F_freshM (vl := [.agg (cx i), .agg (cy j)]) (QP ((f i) * (φ j))) (fun T => (g4, 79, (six cj)) :: (g3, 79, (six nco)) :: (g2, 79, (six cy)) :: (g1, 79, (six cx)) :: T) [(g4, 79, (six cj)), (g3, 79, (six nco)), (g2, 79, (six cy)), (g1, 79, (six cx))] Tj (fun _ => rfl) QP.mono (by rfl) (by exact hl_2) Want.none (by kernel_rfl) (by rfl) (List.Sublist.refl _) (fun w h => m5_mul (f i) (φ j) _ _ w ((hx i (by omega)).of h) ((hy j (by omega)).of h)) ?_
          rintro _ T_1 hs_1 ⟨a_1, rfl, hp_1⟩
          refine flow_one 7 (by kernel_rfl) ?_
          refine F_alloc _ (by rfl) (by exact hl_2) z_N #[.slice none 0 0, .slice none 0 0] rfl (List.Sublist.cons_cons _ (List.Sublist.cons_cons _ (List.Sublist.cons_cons _ (List.Sublist.cons_cons _ hs_1)))) ?_; intro g5
          refine flow_one 8 (by kernel_rfl) ?_
          refine F_store (t := 77) 0 g5 #[.slice none 0 0, .slice none 0 0] a_1 (by rfl) (by exact hl_2) (by rfl) (by rfl) (by rfl) (hi_P hp_1.1) (PIn.nil.1.1.trans hp_1.1.1.symm) hp_1.1.2 (.inr (List.Sublist.cons _ (List.Sublist.cons_cons _ (List.Sublist.cons_cons _ (List.Sublist.cons_cons _ (List.Sublist.cons_cons _ hs_1)))))) ?_
          simp only [List.set_cons_zero, List.set_cons_succ]
          refine flow_done (by kernel_rfl) ?_
          intro wz hz
          exact ⟨g5, a_1, T_1, hs_1, hp_1, rfl, hz⟩
        ·
          refine F_alloc _ (by rfl) (by exact hl_2) z_N #[.slice none 0 0, .slice none 0 0] rfl (List.Sublist.refl _) ?_; intro g6
          refine flow_one 6 (by kernel_rfl) ?_
          refine F_freshM (vl := [.agg (cx i), .agg (cy j)]) (QP ((f i) * (φ j))) (fun T => (g6, 77, #[.slice none 0 0, .slice none 0 0]) :: (g4, 79, (six cj)) :: (g3, 79, (six nco)) :: (g2, 79, (six cy)) :: (g1, 79, (six cx)) :: T) [(g6, 77, #[.slice none 0 0, .slice none 0 0]), (g4, 79, (six cj)), (g3, 79, (six nco)), (g2, 79, (six cy)), (g1, 79, (six cx))] Tj (fun _ => rfl) QP.mono (by rfl) (by exact hl_2) Want.none (by kernel_rfl) (by rfl) (List.Sublist.cons _ (List.Sublist.cons_cons _ (List.Sublist.cons_cons _ (List.Sublist.cons_cons _ (List.Sublist.cons_cons _ (List.Sublist.refl _)))))) (fun w h => m5_mul (f i) (φ j) _ _ w ((hx i (by omega)).of h) ((hy j (by omega)).of h)) ?_
          rintro _ T_2 hs_2 ⟨a_2, rfl, hp_2⟩
          refine flow_one 8 (by kernel_rfl) ?_
          refine F_store (t := 77) 0 g6 #[.slice none 0 0, .slice none 0 0] a_2 (by rfl) (by exact hl_2) (by rfl) (by rfl) (by rfl) (hi_P hp_2.1) (PIn.nil.1.1.trans hp_2.1.1.symm) hp_2.1.2 (.inr (List.Sublist.cons _ (List.Sublist.cons_cons _ (List.Sublist.cons_cons _ (List.Sublist.cons_cons _ (List.Sublist.cons_cons _ hs_2)))))) ?_
          simp only [List.set_cons_zero, List.set_cons_succ]
          refine flow_done (by kernel_rfl) ?_
          intro wz hz
          exact ⟨g6, a_2, T_2, hs_2, hp_2, (fr_comm _ _ _ _ (by decide)), hz⟩
      ·
        rintro a0 w7 ⟨g7, a_3, T_3, hs_3, hp_3, rfl, hw7⟩
        refine wp_seq ?_
        refine seq_plain hw7 [0, 1, 2, 3] (by rfl) ?_
        refine L_val (.int .i64 (i : Int)) (by rfl) (by exact hl_2) (gives_value _ fun _ => by rfl) ?_
        refine L_val (.int .i64 (j : Int)) (by rfl) (by exact hl_2) (gives_value _ fun _ => by rfl) ?_
        refine L_val (.int .i64 ((i : Int) + (j : Int))) (by rfl) (by exact hl_2) (gives_add (k := .i64) ((i : Int)) ((j : Int)) ((i : Int) + (j : Int)) (by rfl) (by rfl) (IntWalk.i64_in _ (by omega))) ?_
        refine L_val (.bool true) (by rfl) (by exact hl_2) (gives_geq (k := .i64) ((i : Int) + (j : Int)) (6) true (by rfl) (by rfl) (decide_eq_true (by omega))) ?_
        refine L_end ?_
        intro w8 hw8
        refine wp_cond_true (fr_at _ _ (by exact hl_2) _) ?_
        refine one_plain hw8 [0, 1, 2, 3, 4, 5] (by rfl) ?_
        refine L_val (.agg a_3) (by rfl) (by exact hl_2) (gives_load g7 0 77 a_3 a_3 _ (by rfl) (fun _ h => h.blk 0 (by rfl)) (Sl.refl _) Tryd.underlying77 (by rfl) (hi_P hp_3.1)) ?_
        refine L_build1 (.int .u32 1) (.int .u32 0) (by rfl) (by exact hl_2) und_u32s u32_zs rfl (by rfl) rfl ?_; intro g8
        refine L_build1 (.int .u32 1) (.int .u32 0) (by rfl) (by exact hl_2) und_u32s u32_zs rfl (by rfl) rfl ?_; intro g9
        refine L_val (.agg (#[.slice (some ⟨g8, 0, none⟩) 1 1, .slice (some ⟨g9, 0, none⟩) 1 1])) (by rfl) (by exact hl_2) (gives_buildN (.slice (some ⟨g8, 0, none⟩) 1 1) (.slice (some ⟨g9, 0, none⟩) 1 1) (by rfl) (by rfl) (by rfl) (by rfl)) ?_
        refine L_freshM (vl := [.agg a_3, .agg (#[.slice (some ⟨g8, 0, none⟩) 1 1, .slice (some ⟨g9, 0, none⟩) 1 1])]) (QP (((f i) * (φ j)) * xi2)) (fun T => (g9, 100, #[.int .u32 1]) :: (g8, 100, #[.int .u32 1]) :: (g7, 77, a_3) :: (g4, 79, (six cj)) :: (g3, 79, (six nco)) :: (g2, 79, (six cy)) :: (g1, 79, (six cx)) :: T) [(g9, 100, #[.int .u32 1]), (g8, 100, #[.int .u32 1]), (g7, 77, a_3), (g4, 79, (six cj)), (g3, 79, (six nco)), (g2, 79, (six cy)), (g1, 79, (six cx))] T_3 (fun _ => rfl) QP.mono (by rfl) (by exact hl_2) Want.none (by kernel_rfl) (by rfl)  (fun w h => m5_mul ((f i) * (φ j)) xi2 _ _ w (hp_3.here h (List.Sublist.cons _ (List.Sublist.cons _ (List.Sublist.cons _ (List.Sublist.cons _ (List.Sublist.cons _ (List.Sublist.cons _ (List.Sublist.cons _ (List.Sublist.refl _))))))))) (xi_at (h.blk 1 (by rfl)) (h.blk 0 (by rfl)))) ?_
        rintro _ T_4 hs_4 ⟨a_4, rfl, hp_4⟩
        refine L_store (t := 77) 2 g7 a_3 a_4 (by rfl) (by exact hl_2) (by rfl) (by rfl) (by rfl) (hi_P hp_4.1) (hp_3.1.1.trans hp_4.1.1.symm) hp_4.1.2 ?_
        simp only [List.set_cons_zero, List.set_cons_succ]
        refine L_end ?_
        intro w9 hw9
        change Code.wp _ _ _ _ _
        refine one_flow (by kernel_rfl) hw9 [13] ((g9, 100, #[.int .u32 1]) :: (g8, 100, #[.int .u32 1]) :: (g7, 77, a_4) :: (g4, 79, (six cj)) :: (g3, 79, (six nco)) :: (g2, 79, (six cy)) :: (g1, 79, (six cx)) :: T_4) 14 (by rfl) ?_
        refine flow_take (i := 0) (.int .i64 (i : Int)) (by rfl) (by kernel_rfl) (by kernel_rfl) (by kernel_rfl) (by exact hl_2) (by kernel_rfl) (List.Sublist.refl _) (gives_value _ fun _ => by rfl) ?_
        refine flow_take (i := 1) (.int .i64 (j : Int)) (by rfl) (by kernel_rfl) (by kernel_rfl) (by kernel_rfl) (by exact hl_2) (by kernel_rfl) (List.Sublist.refl _) (gives_value _ fun _ => by rfl) ?_
        refine flow_take (i := 2) (.int .i64 ((i : Int) + (j : Int))) (by rfl) (by kernel_rfl) (by kernel_rfl) (by kernel_rfl) (by exact hl_2) (by kernel_rfl) (List.Sublist.refl _) (gives_add (k := .i64) ((i : Int)) ((j : Int)) ((i : Int) + (j : Int)) (by rfl) (by rfl) (IntWalk.i64_in _ (by omega))) ?_
        refine flow_take (i := 3) (.int .i64 (k : Int)) (by rfl) (by kernel_rfl) (by kernel_rfl) (by kernel_rfl) (by exact hl_2) (by kernel_rfl) (List.Sublist.refl _) (gives_rem (k := .i64) ((i : Int) + (j : Int)) (6) (k : Int) (by rfl) (by rfl) (by omega) hkd) ?_
        refine flow_take (i := 4) (.int .i64 (i : Int)) (by rfl) (by kernel_rfl) (by kernel_rfl) (by kernel_rfl) (by exact hl_2) (by kernel_rfl) (List.Sublist.refl _) (gives_value _ fun _ => by rfl) ?_
        refine flow_take (i := 5) (.int .i64 (j : Int)) (by rfl) (by kernel_rfl) (by kernel_rfl) (by kernel_rfl) (by exact hl_2) (by kernel_rfl) (List.Sublist.refl _) (gives_value _ fun _ => by rfl) ?_
        refine flow_take (i := 6) (.int .i64 ((i : Int) + (j : Int))) (by rfl) (by kernel_rfl) (by kernel_rfl) (by kernel_rfl) (by exact hl_2) (by kernel_rfl) (List.Sublist.refl _) (gives_add (k := .i64) ((i : Int)) ((j : Int)) ((i : Int) + (j : Int)) (by rfl) (by rfl) (IntWalk.i64_in _ (by omega))) ?_
        refine flow_take (i := 7) (.int .i64 (k : Int)) (by rfl) (by kernel_rfl) (by kernel_rfl) (by kernel_rfl) (by exact hl_2) (by kernel_rfl) (List.Sublist.refl _) (gives_rem (k := .i64) ((i : Int) + (j : Int)) (6) (k : Int) (by rfl) (by rfl) (by omega) hkd) ?_
        refine flow_take (i := 8) (.pointer (some ⟨g4, k * 2, none⟩)) (by rfl) (by kernel_rfl) (by kernel_rfl) (by kernel_rfl) (by exact hl_2) (by kernel_rfl) (List.Sublist.refl _) (gives_index_six g4 6 2 ((k : Int)) (k) (k * 2) (by rfl) (by rfl) Tryd.underlying79 (by kernel_rfl) rfl (by omega) rfl) ?_
        refine flow_take (i := 9) (.agg (cj k)) (by rfl) (by kernel_rfl) (by kernel_rfl) (by kernel_rfl) (by exact hl_2) (by kernel_rfl) (List.Sublist.refl _) (gives_load g4 (k * 2) 79 (six cj) (cj k) _ (by rfl) (fun _ h => h.blk 3 (by rfl)) (six_at cj hcj.siz k (by omega)) Tryd.underlying77 (by rfl) (hi_P (hcj.siz k (by omega)))) ?_
        refine flow_take (i := 10) (.agg a_4) (by rfl) (by kernel_rfl) (by kernel_rfl) (by kernel_rfl) (by exact hl_2) (by kernel_rfl) (List.Sublist.refl _) (gives_load g7 0 77 a_4 a_4 _ (by rfl) (fun _ h => h.blk 2 (by rfl)) (Sl.refl _) Tryd.underlying77 (by rfl) (hi_P hp_4.1)) ?_
        refine flow_one 11 (by kernel_rfl) ?_
        refine F_freshM (vl := [.agg (cj k), .agg a_4]) (QP ((aj k) + (((f i) * (φ j)) * xi2))) (fun T => (g9, 100, #[.int .u32 1]) :: (g8, 100, #[.int .u32 1]) :: (g7, 77, a_4) :: (g4, 79, (six cj)) :: (g3, 79, (six nco)) :: (g2, 79, (six cy)) :: (g1, 79, (six cx)) :: T) [(g9, 100, #[.int .u32 1]), (g8, 100, #[.int .u32 1]), (g7, 77, a_4), (g4, 79, (six cj)), (g3, 79, (six nco)), (g2, 79, (six cy)), (g1, 79, (six cx))] T_4 (fun _ => rfl) QP.mono (by rfl) (by exact hl_2) Want.none (by kernel_rfl) (by rfl) (List.Sublist.refl _) (fun w h => m5_add (aj k) (((f i) * (φ j)) * xi2) _ _ w ((hcj k (by omega)).here h (List.Sublist.cons _ (List.Sublist.cons _ (List.Sublist.cons _ (List.Sublist.cons _ (List.Sublist.cons _ (List.Sublist.cons _ (List.Sublist.cons _ (hs_3.trans hs_4))))))))) (hp_4.here h (List.Sublist.cons _ (List.Sublist.cons _ (List.Sublist.cons _ (List.Sublist.cons _ (List.Sublist.cons _ (List.Sublist.cons _ (List.Sublist.cons _ (List.Sublist.refl _)))))))))) ?_
        rintro _ T_5 hs_5 ⟨a_5, rfl, hp_5⟩
        refine flow_take (i := 12) (.pointer (some ⟨g4, k * 2, none⟩)) (by rfl) (by kernel_rfl) (by kernel_rfl) (by kernel_rfl) (by exact hl_2) (by kernel_rfl) (List.Sublist.cons_cons _ (List.Sublist.cons_cons _ (List.Sublist.cons_cons _ (List.Sublist.cons_cons _ (List.Sublist.cons_cons _ (List.Sublist.cons_cons _ (List.Sublist.cons_cons _ hs_5))))))) (gives_index_six g4 6 2 ((k : Int)) (k) (k * 2) (by rfl) (by rfl) Tryd.underlying79 (by kernel_rfl) rfl (by omega) rfl) ?_
        refine flow_one 13 (by kernel_rfl) ?_
        have hz_6 : Siz (upd cj k a_5) := upd_siz hcj.siz k hp_5.1
        refine F_storeS (t := 79) 3 g4 (k * 2) (six cj) a_5 (six (upd cj k a_5)) (by rfl) (by exact hl_2) (by rfl) (by rfl) (by rfl) (hi_P hp_5.1) (by rw [six_size hcj.siz, hp_5.1.1]; omega) hp_5.1.2 (six_splice cj hcj.siz k (by omega) _ hp_5.1) (.inl (by decide)) ?_
        simp only [List.set_cons_zero, List.set_cons_succ]
        refine flow_done (by kernel_rfl) ?_
        intro w10 hw10
        change Code.wp _ _ _ _ _
        refine one_plain hw10 [0, 1, 2] (by rfl) ?_
        refine L_val (.int .i64 (j : Int)) (by rfl) (by exact hl_2) (gives_value _ fun _ => by rfl) ?_
        refine L_val (.int .i64 ((j : Int) + 1)) (by rfl) (by exact hl_2) (gives_add (k := .i64) ((j : Int)) (1) ((j : Int) + 1) (by rfl) (by rfl) (IntWalk.i64_in _ (by omega))) ?_
        refine L_val (.int .i64 ((j : Int) + 1)) (by rfl) (by exact hl_2) (gives_value _ fun _ => by rfl) ?_
        refine L_end ?_
        intro w11 hw11
        change ∃ r' : Nat, r' < r_2 ∧ _
        refine ⟨_, ?_, j + 1, mstep f φ i j aj, (upd cj k a_5), T_5, ((7, .int .i64 ((j : Int) + 1)) :: (16, .int .i64 ((j : Int) + 1)) :: (15, .int .i64 (j : Int)) :: (45, .pointer (some ⟨g4, k * 2, none⟩)) :: (44, .agg a_5) :: (43, .agg a_4) :: (42, .agg (cj k)) :: (41, .pointer (some ⟨g4, k * 2, none⟩)) :: (40, .int .i64 (k : Int)) :: (39, .int .i64 ((i : Int) + (j : Int))) :: (38, .int .i64 (j : Int)) :: (37, .int .i64 (i : Int)) :: (36, .int .i64 (k : Int)) :: (35, .int .i64 ((i : Int) + (j : Int))) :: (34, .int .i64 (j : Int)) :: (33, .int .i64 (i : Int)) :: (32, .agg a_4) :: (31, .agg (#[.slice (some ⟨g8, 0, none⟩) 1 1, .slice (some ⟨g9, 0, none⟩) 1 1])) :: (30, .slice (some ⟨g9, 0, none⟩) 1 1) :: (29, .slice (some ⟨g8, 0, none⟩) 1 1) :: (28, .agg a_3) :: (27, .bool true) :: (26, .int .i64 ((i : Int) + (j : Int))) :: (25, .int .i64 (j : Int)) :: (24, .int .i64 (i : Int)) :: (8, .pointer (some ⟨g7, 0, none⟩)) :: (23, .agg a_3) :: (22, .agg (cy j)) :: (21, .pointer (some ⟨g2, j * 2, none⟩)) :: (20, .int .i64 (j : Int)) :: (19, .agg (cx i)) :: (18, .pointer (some ⟨g1, i * 2, none⟩)) :: (17, .int .i64 (i : Int)) :: (14, .bool true) :: (13, .int .i64 (j : Int)) :: (7, .int .i64 (j : Int)) :: (6, .int .i64 (i : Int)) :: (2, .pointer (some ⟨g1, 0, none⟩)) :: (3, .pointer (some ⟨g2, 0, none⟩)) :: (4, .pointer (some ⟨g3, 0, none⟩)) :: (5, .pointer (some ⟨g4, 0, none⟩)) :: l_2), rfl, (by exact hl_2), (Eq.trans (Eq.trans (Eq.trans (Eq.trans (Eq.trans (fr_dup _ _ 5 _ (by exact hl_2) (by rfl) (by rfl)).symm (fr_dup _ _ 4 _ (by exact hl_2) (by rfl) (by rfl)).symm) (fr_dup _ _ 3 _ (by exact hl_2) (by rfl) (by rfl)).symm) (fr_dup _ _ 2 _ (by exact hl_2) (by rfl) (by rfl)).symm) (fr_dup _ _ 6 _ (by exact hl_2) (by rfl) (by rfl)).symm) (fr_dup _ _ 7 _ (by exact hl_2) (by rfl) (by rfl)).symm), by omega, by rw [haj]; rfl, (SixIn.upd (k := k) (hcj.mono ((hs_3.trans hs_4).trans hs_5)) (hp_5.mono (List.Sublist.refl _)) (by unfold mstep; rw [if_pos hk, if_pos (by omega)]) (fun q hq hne => by unfold mstep; rw [if_neg (by rw [← hk]; exact hne)])), (hw11.sub (List.Sublist.cons _ (List.Sublist.cons _ (List.Sublist.cons _ (List.Sublist.refl _)))))⟩
        omega
    ·
      obtain ⟨k, hk⟩ : ∃ k : Nat, k = (i + j) % 6 := ⟨_, rfl⟩
      have hk6 : k < 6 := hk ▸ Nat.mod_lt _ (by decide)
      have hkd : ((i : Int) + (j : Int)).tmod 6 = (k : Int) := by rw [Int.tmod_eq_emod_of_nonneg (by omega), hk, Int.natCast_emod]; rfl
      refine wp_seq ?_
      refine seq_plain hw0_2 [0, 1] (by rfl) ?_
      refine L_val (.int .i64 (j : Int)) (by rfl) (by exact hl_2) (gives_value _ fun _ => by rfl) ?_
      refine L_val (.bool true) (by rfl) (by exact hl_2) (gives_lss (k := .i64) ((j : Int)) (6) true (by rfl) (by rfl) (decide_eq_true (by omega))) ?_
      refine L_end ?_
      intro w12 hw12
      refine wp_cond_true (fr_at _ _ (by exact hl_2) _) ?_
      refine wp_skip ?_
      change Code.wp _ _ _ _ _
      refine wp_seq ?_
      refine wp_block ?_
      refine seq_flow_to (fun a w => ∃ (g : Nat) (u : Array Value) (T : List (Nat × TypeId × Array Value)), Tj.Sublist T ∧ PIn T u ((f i) * (φ j)) ∧ a = fr 47 ((8, .pointer (some ⟨g, 0, none⟩)) :: (23, .agg u) :: (22, .agg (cy j)) :: (21, .pointer (some ⟨g2, j * 2, none⟩)) :: (20, .int .i64 (j : Int)) :: (19, .agg (cx i)) :: (18, .pointer (some ⟨g1, i * 2, none⟩)) :: (17, .int .i64 (i : Int)) :: (14, .bool true) :: (13, .int .i64 (j : Int)) :: (7, .int .i64 (j : Int)) :: (6, .int .i64 (i : Int)) :: (2, .pointer (some ⟨g1, 0, none⟩)) :: (3, .pointer (some ⟨g2, 0, none⟩)) :: (4, .pointer (some ⟨g3, 0, none⟩)) :: (5, .pointer (some ⟨g4, 0, none⟩)) :: l_2) ∧ Hbl v ((g, 77, u) :: (g4, 79, (six cj)) :: (g3, 79, (six nco)) :: (g2, 79, (six cy)) :: (g1, 79, (six cx)) :: T) w) (by kernel_rfl) hw12 [] ((g4, 79, (six cj)) :: (g3, 79, (six nco)) :: (g2, 79, (six cy)) :: (g1, 79, (six cx)) :: Tj) 9 (by rfl) ?_ ?_
      ·
        refine flow_take (i := 0) (.int .i64 (i : Int)) (by rfl) (by kernel_rfl) (by kernel_rfl) (by kernel_rfl) (by exact hl_2) (by kernel_rfl) (List.Sublist.refl _) (gives_value _ fun _ => by rfl) ?_
        refine flow_take (i := 1) (.pointer (some ⟨g1, i * 2, none⟩)) (by rfl) (by kernel_rfl) (by kernel_rfl) (by kernel_rfl) (by exact hl_2) (by kernel_rfl) (List.Sublist.refl _) (gives_index_six g1 6 2 ((i : Int)) (i) (i * 2) (by rfl) (by rfl) Tryd.underlying79 (by kernel_rfl) rfl (by omega) rfl) ?_
        refine flow_take (i := 2) (.agg (cx i)) (by rfl) (by kernel_rfl) (by kernel_rfl) (by kernel_rfl) (by exact hl_2) (by kernel_rfl) (List.Sublist.refl _) (gives_load g1 (i * 2) 79 (six cx) (cx i) _ (by rfl) (fun _ h => h.blk 3 (by rfl)) (six_at cx hx.siz i (by omega)) Tryd.underlying77 (by rfl) (hi_P (hx.siz i (by omega)))) ?_
        refine flow_take (i := 3) (.int .i64 (j : Int)) (by rfl) (by kernel_rfl) (by kernel_rfl) (by kernel_rfl) (by exact hl_2) (by kernel_rfl) (List.Sublist.refl _) (gives_value _ fun _ => by rfl) ?_
        refine flow_take (i := 4) (.pointer (some ⟨g2, j * 2, none⟩)) (by rfl) (by kernel_rfl) (by kernel_rfl) (by kernel_rfl) (by exact hl_2) (by kernel_rfl) (List.Sublist.refl _) (gives_index_six g2 6 2 ((j : Int)) (j) (j * 2) (by rfl) (by rfl) Tryd.underlying79 (by kernel_rfl) rfl (by omega) rfl) ?_
        refine flow_take (i := 5) (.agg (cy j)) (by rfl) (by kernel_rfl) (by kernel_rfl) (by kernel_rfl) (by exact hl_2) (by kernel_rfl) (List.Sublist.refl _) (gives_load g2 (j * 2) 79 (six cy) (cy j) _ (by rfl) (fun _ h => h.blk 2 (by rfl)) (six_at cy hy.siz j (by omega)) Tryd.underlying77 (by rfl) (hi_P (hy.siz j (by omega)))) ?_
        refine flow_two 6 7 (by kernel_rfl) ?_ ?_
        ·
          refine F_freshM (vl := [.agg (cx i), .agg (cy j)]) (QP ((f i) * (φ j))) (fun T => (g4, 79, (six cj)) :: (g3, 79, (six nco)) :: (g2, 79, (six cy)) :: (g1, 79, (six cx)) :: T) [(g4, 79, (six cj)), (g3, 79, (six nco)), (g2, 79, (six cy)), (g1, 79, (six cx))] Tj (fun _ => rfl) QP.mono (by rfl) (by exact hl_2) Want.none (by kernel_rfl) (by rfl) (List.Sublist.refl _) (fun w h => m5_mul (f i) (φ j) _ _ w ((hx i (by omega)).of h) ((hy j (by omega)).of h)) ?_
          rintro _ T_7 hs_7 ⟨a_7, rfl, hp_7⟩
          refine flow_one 7 (by kernel_rfl) ?_
          refine F_alloc _ (by rfl) (by exact hl_2) z_N #[.slice none 0 0, .slice none 0 0] rfl (List.Sublist.cons_cons _ (List.Sublist.cons_cons _ (List.Sublist.cons_cons _ (List.Sublist.cons_cons _ hs_7)))) ?_; intro g10
          refine flow_one 8 (by kernel_rfl) ?_
          refine F_store (t := 77) 0 g10 #[.slice none 0 0, .slice none 0 0] a_7 (by rfl) (by exact hl_2) (by rfl) (by rfl) (by rfl) (hi_P hp_7.1) (PIn.nil.1.1.trans hp_7.1.1.symm) hp_7.1.2 (.inr (List.Sublist.cons _ (List.Sublist.cons_cons _ (List.Sublist.cons_cons _ (List.Sublist.cons_cons _ (List.Sublist.cons_cons _ hs_7)))))) ?_
          simp only [List.set_cons_zero, List.set_cons_succ]
          refine flow_done (by kernel_rfl) ?_
          intro wz hz
          exact ⟨g10, a_7, T_7, hs_7, hp_7, rfl, hz⟩
        ·
          refine F_alloc _ (by rfl) (by exact hl_2) z_N #[.slice none 0 0, .slice none 0 0] rfl (List.Sublist.refl _) ?_; intro g11
          refine flow_one 6 (by kernel_rfl) ?_
          refine F_freshM (vl := [.agg (cx i), .agg (cy j)]) (QP ((f i) * (φ j))) (fun T => (g11, 77, #[.slice none 0 0, .slice none 0 0]) :: (g4, 79, (six cj)) :: (g3, 79, (six nco)) :: (g2, 79, (six cy)) :: (g1, 79, (six cx)) :: T) [(g11, 77, #[.slice none 0 0, .slice none 0 0]), (g4, 79, (six cj)), (g3, 79, (six nco)), (g2, 79, (six cy)), (g1, 79, (six cx))] Tj (fun _ => rfl) QP.mono (by rfl) (by exact hl_2) Want.none (by kernel_rfl) (by rfl) (List.Sublist.cons _ (List.Sublist.cons_cons _ (List.Sublist.cons_cons _ (List.Sublist.cons_cons _ (List.Sublist.cons_cons _ (List.Sublist.refl _)))))) (fun w h => m5_mul (f i) (φ j) _ _ w ((hx i (by omega)).of h) ((hy j (by omega)).of h)) ?_
          rintro _ T_8 hs_8 ⟨a_8, rfl, hp_8⟩
          refine flow_one 8 (by kernel_rfl) ?_
          refine F_store (t := 77) 0 g11 #[.slice none 0 0, .slice none 0 0] a_8 (by rfl) (by exact hl_2) (by rfl) (by rfl) (by rfl) (hi_P hp_8.1) (PIn.nil.1.1.trans hp_8.1.1.symm) hp_8.1.2 (.inr (List.Sublist.cons _ (List.Sublist.cons_cons _ (List.Sublist.cons_cons _ (List.Sublist.cons_cons _ (List.Sublist.cons_cons _ hs_8)))))) ?_
          simp only [List.set_cons_zero, List.set_cons_succ]
          refine flow_done (by kernel_rfl) ?_
          intro wz hz
          exact ⟨g11, a_8, T_8, hs_8, hp_8, (fr_comm _ _ _ _ (by decide)), hz⟩
      ·
        rintro a0 w13 ⟨g12, a_9, T_9, hs_9, hp_9, rfl, hw13⟩
        refine wp_seq ?_
        refine seq_plain hw13 [0, 1, 2, 3] (by rfl) ?_
        refine L_val (.int .i64 (i : Int)) (by rfl) (by exact hl_2) (gives_value _ fun _ => by rfl) ?_
        refine L_val (.int .i64 (j : Int)) (by rfl) (by exact hl_2) (gives_value _ fun _ => by rfl) ?_
        refine L_val (.int .i64 ((i : Int) + (j : Int))) (by rfl) (by exact hl_2) (gives_add (k := .i64) ((i : Int)) ((j : Int)) ((i : Int) + (j : Int)) (by rfl) (by rfl) (IntWalk.i64_in _ (by omega))) ?_
        refine L_val (.bool false) (by rfl) (by exact hl_2) (gives_geq (k := .i64) ((i : Int) + (j : Int)) (6) false (by rfl) (by rfl) (decide_eq_false (by omega))) ?_
        refine L_end ?_
        intro w14 hw14
        refine wp_cond_false (fr_at _ _ (by exact hl_2) _) ?_
        refine wp_skip ?_
        change Code.wp _ _ _ _ _
        refine one_flow (by kernel_rfl) hw14 [13] ((g12, 77, a_9) :: (g4, 79, (six cj)) :: (g3, 79, (six nco)) :: (g2, 79, (six cy)) :: (g1, 79, (six cx)) :: T_9) 14 (by rfl) ?_
        refine flow_take (i := 0) (.int .i64 (i : Int)) (by rfl) (by kernel_rfl) (by kernel_rfl) (by kernel_rfl) (by exact hl_2) (by kernel_rfl) (List.Sublist.refl _) (gives_value _ fun _ => by rfl) ?_
        refine flow_take (i := 1) (.int .i64 (j : Int)) (by rfl) (by kernel_rfl) (by kernel_rfl) (by kernel_rfl) (by exact hl_2) (by kernel_rfl) (List.Sublist.refl _) (gives_value _ fun _ => by rfl) ?_
        refine flow_take (i := 2) (.int .i64 ((i : Int) + (j : Int))) (by rfl) (by kernel_rfl) (by kernel_rfl) (by kernel_rfl) (by exact hl_2) (by kernel_rfl) (List.Sublist.refl _) (gives_add (k := .i64) ((i : Int)) ((j : Int)) ((i : Int) + (j : Int)) (by rfl) (by rfl) (IntWalk.i64_in _ (by omega))) ?_
        refine flow_take (i := 3) (.int .i64 (k : Int)) (by rfl) (by kernel_rfl) (by kernel_rfl) (by kernel_rfl) (by exact hl_2) (by kernel_rfl) (List.Sublist.refl _) (gives_rem (k := .i64) ((i : Int) + (j : Int)) (6) (k : Int) (by rfl) (by rfl) (by omega) hkd) ?_
        refine flow_take (i := 4) (.int .i64 (i : Int)) (by rfl) (by kernel_rfl) (by kernel_rfl) (by kernel_rfl) (by exact hl_2) (by kernel_rfl) (List.Sublist.refl _) (gives_value _ fun _ => by rfl) ?_
        refine flow_take (i := 5) (.int .i64 (j : Int)) (by rfl) (by kernel_rfl) (by kernel_rfl) (by kernel_rfl) (by exact hl_2) (by kernel_rfl) (List.Sublist.refl _) (gives_value _ fun _ => by rfl) ?_
        refine flow_take (i := 6) (.int .i64 ((i : Int) + (j : Int))) (by rfl) (by kernel_rfl) (by kernel_rfl) (by kernel_rfl) (by exact hl_2) (by kernel_rfl) (List.Sublist.refl _) (gives_add (k := .i64) ((i : Int)) ((j : Int)) ((i : Int) + (j : Int)) (by rfl) (by rfl) (IntWalk.i64_in _ (by omega))) ?_
        refine flow_take (i := 7) (.int .i64 (k : Int)) (by rfl) (by kernel_rfl) (by kernel_rfl) (by kernel_rfl) (by exact hl_2) (by kernel_rfl) (List.Sublist.refl _) (gives_rem (k := .i64) ((i : Int) + (j : Int)) (6) (k : Int) (by rfl) (by rfl) (by omega) hkd) ?_
        refine flow_take (i := 8) (.pointer (some ⟨g4, k * 2, none⟩)) (by rfl) (by kernel_rfl) (by kernel_rfl) (by kernel_rfl) (by exact hl_2) (by kernel_rfl) (List.Sublist.refl _) (gives_index_six g4 6 2 ((k : Int)) (k) (k * 2) (by rfl) (by rfl) Tryd.underlying79 (by kernel_rfl) rfl (by omega) rfl) ?_
        refine flow_take (i := 9) (.agg (cj k)) (by rfl) (by kernel_rfl) (by kernel_rfl) (by kernel_rfl) (by exact hl_2) (by kernel_rfl) (List.Sublist.refl _) (gives_load g4 (k * 2) 79 (six cj) (cj k) _ (by rfl) (fun _ h => h.blk 1 (by rfl)) (six_at cj hcj.siz k (by omega)) Tryd.underlying77 (by rfl) (hi_P (hcj.siz k (by omega)))) ?_
        refine flow_take (i := 10) (.agg a_9) (by rfl) (by kernel_rfl) (by kernel_rfl) (by kernel_rfl) (by exact hl_2) (by kernel_rfl) (List.Sublist.refl _) (gives_load g12 0 77 a_9 a_9 _ (by rfl) (fun _ h => h.blk 0 (by rfl)) (Sl.refl _) Tryd.underlying77 (by rfl) (hi_P hp_9.1)) ?_
        refine flow_one 11 (by kernel_rfl) ?_
        refine F_freshM (vl := [.agg (cj k), .agg a_9]) (QP ((aj k) + ((f i) * (φ j)))) (fun T => (g12, 77, a_9) :: (g4, 79, (six cj)) :: (g3, 79, (six nco)) :: (g2, 79, (six cy)) :: (g1, 79, (six cx)) :: T) [(g12, 77, a_9), (g4, 79, (six cj)), (g3, 79, (six nco)), (g2, 79, (six cy)), (g1, 79, (six cx))] T_9 (fun _ => rfl) QP.mono (by rfl) (by exact hl_2) Want.none (by kernel_rfl) (by rfl) (List.Sublist.refl _) (fun w h => m5_add (aj k) ((f i) * (φ j)) _ _ w ((hcj k (by omega)).here h (List.Sublist.cons _ (List.Sublist.cons _ (List.Sublist.cons _ (List.Sublist.cons _ (List.Sublist.cons _ hs_9)))))) (hp_9.here h (List.Sublist.cons _ (List.Sublist.cons _ (List.Sublist.cons _ (List.Sublist.cons _ (List.Sublist.cons _ (List.Sublist.refl _)))))))) ?_
        rintro _ T_10 hs_10 ⟨a_10, rfl, hp_10⟩
        refine flow_take (i := 12) (.pointer (some ⟨g4, k * 2, none⟩)) (by rfl) (by kernel_rfl) (by kernel_rfl) (by kernel_rfl) (by exact hl_2) (by kernel_rfl) (List.Sublist.cons_cons _ (List.Sublist.cons_cons _ (List.Sublist.cons_cons _ (List.Sublist.cons_cons _ (List.Sublist.cons_cons _ hs_10))))) (gives_index_six g4 6 2 ((k : Int)) (k) (k * 2) (by rfl) (by rfl) Tryd.underlying79 (by kernel_rfl) rfl (by omega) rfl) ?_
        refine flow_one 13 (by kernel_rfl) ?_
        have hz_11 : Siz (upd cj k a_10) := upd_siz hcj.siz k hp_10.1
        refine F_storeS (t := 79) 1 g4 (k * 2) (six cj) a_10 (six (upd cj k a_10)) (by rfl) (by exact hl_2) (by rfl) (by rfl) (by rfl) (hi_P hp_10.1) (by rw [six_size hcj.siz, hp_10.1.1]; omega) hp_10.1.2 (six_splice cj hcj.siz k (by omega) _ hp_10.1) (.inl (by decide)) ?_
        simp only [List.set_cons_zero, List.set_cons_succ]
        refine flow_done (by kernel_rfl) ?_
        intro w15 hw15
        change Code.wp _ _ _ _ _
        refine one_plain hw15 [0, 1, 2] (by rfl) ?_
        refine L_val (.int .i64 (j : Int)) (by rfl) (by exact hl_2) (gives_value _ fun _ => by rfl) ?_
        refine L_val (.int .i64 ((j : Int) + 1)) (by rfl) (by exact hl_2) (gives_add (k := .i64) ((j : Int)) (1) ((j : Int) + 1) (by rfl) (by rfl) (IntWalk.i64_in _ (by omega))) ?_
        refine L_val (.int .i64 ((j : Int) + 1)) (by rfl) (by exact hl_2) (gives_value _ fun _ => by rfl) ?_
        refine L_end ?_
        intro w16 hw16
        change ∃ r' : Nat, r' < r_2 ∧ _
        refine ⟨_, ?_, j + 1, mstep f φ i j aj, (upd cj k a_10), T_10, ((7, .int .i64 ((j : Int) + 1)) :: (16, .int .i64 ((j : Int) + 1)) :: (15, .int .i64 (j : Int)) :: (45, .pointer (some ⟨g4, k * 2, none⟩)) :: (44, .agg a_10) :: (43, .agg a_9) :: (42, .agg (cj k)) :: (41, .pointer (some ⟨g4, k * 2, none⟩)) :: (40, .int .i64 (k : Int)) :: (39, .int .i64 ((i : Int) + (j : Int))) :: (38, .int .i64 (j : Int)) :: (37, .int .i64 (i : Int)) :: (36, .int .i64 (k : Int)) :: (35, .int .i64 ((i : Int) + (j : Int))) :: (34, .int .i64 (j : Int)) :: (33, .int .i64 (i : Int)) :: (27, .bool false) :: (26, .int .i64 ((i : Int) + (j : Int))) :: (25, .int .i64 (j : Int)) :: (24, .int .i64 (i : Int)) :: (8, .pointer (some ⟨g12, 0, none⟩)) :: (23, .agg a_9) :: (22, .agg (cy j)) :: (21, .pointer (some ⟨g2, j * 2, none⟩)) :: (20, .int .i64 (j : Int)) :: (19, .agg (cx i)) :: (18, .pointer (some ⟨g1, i * 2, none⟩)) :: (17, .int .i64 (i : Int)) :: (14, .bool true) :: (13, .int .i64 (j : Int)) :: (7, .int .i64 (j : Int)) :: (6, .int .i64 (i : Int)) :: (2, .pointer (some ⟨g1, 0, none⟩)) :: (3, .pointer (some ⟨g2, 0, none⟩)) :: (4, .pointer (some ⟨g3, 0, none⟩)) :: (5, .pointer (some ⟨g4, 0, none⟩)) :: l_2), rfl, (by exact hl_2), (Eq.trans (Eq.trans (Eq.trans (Eq.trans (Eq.trans (fr_dup _ _ 5 _ (by exact hl_2) (by rfl) (by rfl)).symm (fr_dup _ _ 4 _ (by exact hl_2) (by rfl) (by rfl)).symm) (fr_dup _ _ 3 _ (by exact hl_2) (by rfl) (by rfl)).symm) (fr_dup _ _ 2 _ (by exact hl_2) (by rfl) (by rfl)).symm) (fr_dup _ _ 6 _ (by exact hl_2) (by rfl) (by rfl)).symm) (fr_dup _ _ 7 _ (by exact hl_2) (by rfl) (by rfl)).symm), by omega, by rw [haj]; rfl, (SixIn.upd (k := k) (hcj.mono (hs_9.trans hs_10)) (hp_10.mono (List.Sublist.refl _)) (by unfold mstep; rw [if_pos hk, if_neg (by omega)]) (fun q hq hne => by unfold mstep; rw [if_neg (by rw [← hk]; exact hne)])), (hw16.sub (List.Sublist.cons _ (List.Sublist.refl _)))⟩
        omega
    ·
      refine wp_seq ?_
      refine seq_plain hw0_2 [0, 1] (by rfl) ?_
      refine L_val (.int .i64 (j : Int)) (by rfl) (by exact hl_2) (gives_value _ fun _ => by rfl) ?_
      refine L_val (.bool false) (by rfl) (by exact hl_2) (gives_lss (k := .i64) ((j : Int)) (6) false (by rfl) (by rfl) (decide_eq_false (by omega))) ?_
      refine L_end ?_
      intro w17 hw17
      refine wp_cond_false (fr_at _ _ (by exact hl_2) _) ?_
      refine wp_exit ?_
      rw [hlt] at haj
      change Code.wp _ _ _ _ _
      change Code.wp _ _ _ _ _
      refine one_plain hw17 [0, 1, 2] (by rfl) ?_
      refine L_val (.int .i64 (i : Int)) (by rfl) (by exact hl_2) (gives_value _ fun _ => by rfl) ?_
      refine L_val (.int .i64 ((i : Int) + 1)) (by rfl) (by exact hl_2) (gives_add (k := .i64) ((i : Int)) (1) ((i : Int) + 1) (by rfl) (by rfl) (IntWalk.i64_in _ (by omega))) ?_
      refine L_val (.int .i64 ((i : Int) + 1)) (by rfl) (by exact hl_2) (gives_value _ fun _ => by rfl) ?_
      refine L_end ?_
      intro w18 hw18
      change ∃ r' : Nat, r' < r_1 ∧ _
      refine ⟨_, ?_, i + 1, aj, cj, Tj, ((6, .int .i64 ((i : Int) + 1)) :: (12, .int .i64 ((i : Int) + 1)) :: (11, .int .i64 (i : Int)) :: (14, .bool false) :: (13, .int .i64 (j : Int)) :: (7, .int .i64 (j : Int)) :: (6, .int .i64 (i : Int)) :: (2, .pointer (some ⟨g1, 0, none⟩)) :: (3, .pointer (some ⟨g2, 0, none⟩)) :: (4, .pointer (some ⟨g3, 0, none⟩)) :: (5, .pointer (some ⟨g4, 0, none⟩)) :: l_2), rfl, (by exact hl_2), (Eq.trans (Eq.trans (Eq.trans (Eq.trans (fr_dup _ _ 5 _ (by exact hl_2) (by rfl) (by rfl)).symm (fr_dup _ _ 4 _ (by exact hl_2) (by rfl) (by rfl)).symm) (fr_dup _ _ 3 _ (by exact hl_2) (by rfl) (by rfl)).symm) (fr_dup _ _ 2 _ (by exact hl_2) (by rfl) (by rfl)).symm) (fr_dup _ _ 6 _ (by exact hl_2) (by rfl) (by rfl)).symm), by omega, haj, hcj, hw18⟩
      omega
  ·
    refine wp_seq ?_
    refine seq_plain hw0_1 [0, 1] (by rfl) ?_
    refine L_val (.int .i64 (i : Int)) (by rfl) (by exact hl_1) (gives_value _ fun _ => by rfl) ?_
    refine L_val (.bool false) (by rfl) (by exact hl_1) (gives_lss (k := .i64) ((i : Int)) (6) false (by rfl) (by rfl) (decide_eq_false (by omega))) ?_
    refine L_end ?_
    intro w19 hw19
    refine wp_cond_false (fr_at _ _ (by exact hl_1) _) ?_
    refine wp_exit ?_
    rw [hil] at hai
    subst hai
    change Code.wp _ _ _ _ _
    change Code.wp _ _ _ _ _
    refine seq_plain hw19 [0, 1] (by rfl) ?_
    refine L_val (.agg (six ci)) (by rfl) (by exact hl_1) (gives_load g4 0 79 (six ci) (six ci) _ (by rfl) (fun _ h => h.blk 0 (by rfl)) (Sl.refl _) Tryd.underlying79 (by rfl) (hi_six hci.siz)) ?_
    refine L_store (t := 79) 1 g3 (six nco) (six ci) (by rfl) (by exact hl_1) (by rfl) (by rfl) (by rfl) (hi_six hci.siz) (sz_six nco_siz hci.siz) (six_one hci.siz) ?_
    simp only [List.set_cons_zero, List.set_cons_succ]
    refine L_end ?_
    intro w20 hw20
    refine wp_ret ?_
    change bodyPost _ _ _ Exit.ret _ _
    refine (ret_cell (by rfl) (by exact hl_1) (by rfl) (hw20.blk 1 (by rfl)) Tryd.underlying79 (by rfl) (hi_six hci.siz) ⟨_, _, rfl, ⟨ci, rfl, hci⟩, hw20.sub (List.Sublist.cons _ (List.Sublist.cons _ (List.Sublist.cons _ (List.Sublist.cons _ (List.Sublist.refl _)))))⟩)
end Go.Proofs.YtialfoccalobpaaDoor
