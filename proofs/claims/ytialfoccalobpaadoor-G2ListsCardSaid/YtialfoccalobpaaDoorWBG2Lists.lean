/-
  The law G2Lists.
-/
import Derived.Test.YtialfoccalobpaaDoorWBGl
namespace Go.Proofs.YtialfoccalobpaaDoor
set_option linter.unusedSimpArgs false
set_option linter.unusedVariables false
open Go.RowKit
attribute [local irreducible] wpL wpF fr Code.wp bodyPost
set_option maxRecDepth 100000 in
set_option maxHeartbeats 4000000 in
theorem g2_lists_long (A0 : Option Addr) (n0 c0 : Nat) (ps0 : List (List Int)) (a1 : Int) (v : World) (hG : Glo v) (hR : GloR v) (hH : GSh v) (hp0 : Scls v v.heap.size A0 n0 ps0) (hl : 6 < n0) : Rets 6 #[.slice A0 n0 c0, .int .i64 a1] v (.bool true) := by
  refine calls_fr2 Tryd.func6 rfl (by rfl : _ = 103) (by rfl) ?_
  have hw := Hbl.nil v
  refine seq_plain hw [0] (by rfl) ?_
  refine lv (.bool false) (h := ?_)
  refine L_end ?_
  intro w1 hw1
  refine wp_seq ?_
  refine seq_plain hw1 [0, 1] (by rfl) ?_
  refine L_val (.bool true) (by rfl) (by rfl) (gives_call (vl := []) (by kernel_rfl) (by rfl) (fun w h => k2_head w (hG.keep h.below))) ?_
  refine lv (.bool false) (h := ?_)
  refine L_end ?_
  intro w2 hw2
  refine wp_cond_false (fr_at _ _ (by rfl) _) ?_
  refine wp_skip ?_
  change Code.wp _ _ _ _ _
  refine wp_seq ?_
  refine seq_plain hw2 [0, 1, 2] (by rfl) ?_
  refine lv (.slice A0 n0 c0) (h := ?_)
  refine L_val (.int .i64 (n0 : Int)) (by rfl) (by rfl) (gives_len _ n0 c0 und_psg (by rfl)) ?_
  refine L_val (.bool true) (by rfl) (by rfl) (gives_gtr (k := .i64) ((n0 : Int)) (6) true (by rfl) (by rfl) (decide_eq_true (by omega))) ?_
  refine L_end ?_
  intro w3 hw3
  refine wp_cond_true (fr_at _ _ (by rfl) _) ?_
  refine seq_plain hw3 [0] (by rfl) ?_
  refine lv (.bool true) (h := ?_)
  refine L_end ?_
  intro w4 hw4
  refine wp_ret ?_
  change bodyPost _ _ _ Exit.ret _ _
  refine (ret_tmp (by rfl) (by rfl) (by rfl) ⟨rfl, hw4.below⟩)
set_option maxRecDepth 100000 in
set_option maxHeartbeats 4000000 in
theorem g2_lists_short (A0 : Option Addr) (n0 c0 : Nat) (ps0 : List (List Int)) (a1 : Int) (v : World) (hG : Glo v) (hR : GloR v) (hH : GSh v) (hp0 : Scls v v.heap.size A0 n0 ps0) (hl : n0 ≤ 6) : Rets 6 #[.slice A0 n0 c0, .int .i64 a1] v (.bool true) := by
  obtain ⟨k0, hk0⟩ : ∃ k : Pt F2, k = gen2 := ⟨_, rfl⟩
  refine calls_fr2 Tryd.func6 rfl (by rfl : _ = 103) (by rfl) ?_
  have hw := Hbl.nil v
  refine seq_plain hw [0] (by rfl) ?_
  refine lv (.bool false) (h := ?_)
  refine L_end ?_
  intro w1 hw1
  refine wp_seq ?_
  refine seq_plain hw1 [0, 1] (by rfl) ?_
  refine L_val (.bool true) (by rfl) (by rfl) (gives_call (vl := []) (by kernel_rfl) (by rfl) (fun w h => k2_head w (hG.keep h.below))) ?_
  refine lv (.bool false) (h := ?_)
  refine L_end ?_
  intro w2 hw2
  refine wp_cond_false (fr_at _ _ (by rfl) _) ?_
  refine wp_skip ?_
  change Code.wp _ _ _ _ _
  refine wp_seq ?_
  refine seq_plain hw2 [0, 1, 2] (by rfl) ?_
  refine lv (.slice A0 n0 c0) (h := ?_)
  refine L_val (.int .i64 (n0 : Int)) (by rfl) (by rfl) (gives_len _ n0 c0 und_psg (by rfl)) ?_
  refine L_val (.bool false) (by rfl) (by rfl) (gives_gtr (k := .i64) ((n0 : Int)) (6) false (by rfl) (by rfl) (decide_eq_false (by omega))) ?_
  refine L_end ?_
  intro w3 hw3
  refine wp_cond_false (fr_at _ _ (by rfl) _) ?_
  refine wp_skip ?_
  change Code.wp _ _ _ _ _
  refine seq_plain hw3 [0, 1] (by rfl) ?_
  refine L_build0 24 (by rfl) (by rfl) Tryd.underlying69 sz_g2 ?_; intro g1; have hp_1 := Pso.nil (n := 24) (c := cg2)
  refine lv (.slice (some ⟨g1, 0, none⟩) 0 0) (h := ?_)
  refine L_end ?_
  intro w4 hw4
  refine seq_plain hw4 [0, 1, 2] (by rfl) ?_
  refine L_val (.agg (cg2 (0 : Pt F2))) (by rfl) (by rfl) (gb_g2 [] trivial (by rfl) (cg2 (0 : Pt F2)) (by rfl)) ?_
  refine L_alloc _ (by rfl) (by rfl) z_g2 (cg2 (0 : Pt F2)) rfl ?_; intro g2
  refine L_store (t := 71) 0 g2 _ _ (by rfl) (by rfl) (by rfl) (by rfl) (by rfl) (hi_g2 _) ((cg2_size _).trans (cg2_size _).symm) (cg2_one _) ?_
  simp only [List.set_cons_zero, List.set_cons_succ]
  refine L_end ?_
  intro w5 hw5
  refine seq_plain hw5 [0, 1, 2] (by rfl) ?_
  refine L_val (.agg (frc (0))) (by rfl) (by rfl) gb0_fr ?_
  refine L_alloc _ (by rfl) (by rfl) z_fr (frc (0 : Int)) rfl ?_; intro g3
  refine L_store (t := 60) 0 g3 _ _ (by rfl) (by rfl) (by rfl) (by rfl) (by rfl) (hi_fr _) ((frc_size _).trans (frc_size _).symm) (frc_one _) ?_
  simp only [List.set_cons_zero, List.set_cons_succ]
  refine L_end ?_
  intro w6 hw6
  refine wp_seq ?_
  refine seq_plain hw6 [0, 1, 2] (by rfl) ?_
  refine lv (.slice A0 n0 c0) (h := ?_)
  refine L_val (.int .i64 (n0 : Int)) (by rfl) (by rfl) (gives_len _ n0 c0 und_psg (by rfl)) ?_
  refine lv (.int .i64 0) (h := ?_)
  refine L_end ?_
  intro w7 hw7
  refine wp_block ?_
  refine loop_down (fun (r_ : Nat) a w => ∃ (i : Nat) (gp_ : Nat) (cp : Nat) (csp : Array Value) (qs : List (Pt F2)) (sm : Pt F2) (tot : Int) (l_1 : List (Nat × Value)), n0 - i = r_ ∧ inFr 103 l_1 = true ∧ a = fr 103 ((0, .slice A0 n0 c0) :: (1, .int .i64 a1) :: (5, .slice (some ⟨gp_, 0, none⟩) i cp) :: (6, .pointer (some ⟨g2, 0, none⟩)) :: (7, .pointer (some ⟨g3, 0, none⟩)) :: (23, .slice A0 n0 c0) :: (24, .int .i64 (n0 : Int)) :: (25, .int .i64 (i : Int)) :: l_1) ∧ (i ≤ n0) ∧ (Pso 24 cg2 csp cp i qs) ∧ (∀ P ∈ qs, OnC (F2.sm 4 4) P) ∧ (sm = EC.sums F2.inv qs) ∧ (sm = gMul F2.inv k0 tot) ∧ Hbl v [(gp_, 71, csp), (g3, 60, (frc tot)), (g2, 71, (cg2 sm))] w) ?_ _ _ _ ⟨0, g1, 0, #[], [], 0, 0, [(25, .int .i64 0), (24, .int .i64 (n0 : Int)), (23, .slice A0 n0 c0), (7, .pointer (some ⟨g3, 0, none⟩)), (22, .agg (frc (0))), (6, .pointer (some ⟨g2, 0, none⟩)), (21, .agg (cg2 (0 : Pt F2))), (5, .slice (some ⟨g1, 0, none⟩) 0 0), (20, .slice (some ⟨g1, 0, none⟩) 0 0), (19, .bool false), (18, .int .i64 (n0 : Int)), (17, .slice A0 n0 c0), (16, .bool false), (15, .bool true), (4, .bool false), (1, .int .i64 a1), (0, .slice A0 n0 c0)], rfl, (by rfl), (Eq.trans (Eq.trans (Eq.trans (Eq.trans (Eq.trans (Eq.trans (Eq.trans (fr_dup _ _ 25 _ (by rfl) (by rfl) (by rfl)).symm (fr_dup _ _ 24 _ (by rfl) (by rfl) (by rfl)).symm) (fr_dup _ _ 23 _ (by rfl) (by rfl) (by rfl)).symm) (fr_dup _ _ 7 _ (by rfl) (by rfl) (by rfl)).symm) (fr_dup _ _ 6 _ (by rfl) (by rfl) (by rfl)).symm) (fr_dup _ _ 5 _ (by rfl) (by rfl) (by rfl)).symm) (fr_dup _ _ 1 _ (by rfl) (by rfl) (by rfl)).symm) (fr_dup _ _ 0 _ (by rfl) (by rfl) (by rfl)).symm), Nat.zero_le _, Pso.nil, (fun P hP => by cases hP), rfl, (mul_zero ec2 F2.inv_zero (show InG F2.inv (F2.sm 4 4) k0 by rw [hk0]; exact ing_gen2).1).symm, (hw7.perm (List.perm_append_comm (l₁ := [_, _]) (l₂ := [_])))⟩
  rintro r_1 a0 w0_1 ⟨i, gp_, cp, csp, qs, sm, tot, l_1, hr_1, hl_1, rfl, hi, hq, hon, hsm, htot, hw0_1⟩
  rcases hp0.ways i a1 with ⟨b0, o0, Ai, mi, ci, bi, hlt, hA0, hq0, hce0, hnci, hri, hoi, hlong⟩ | ⟨b0, o0, Ai, mi, ci, bi, hlt, hA0, hq0, hce0, hnci, hri, hoi, hs, hbit⟩ | ⟨b0, o0, Ai, mi, ci, bi, hlt, hA0, hq0, hce0, hnci, hri, hoi, hs, hbit⟩ | hlt
  ·
    have hbli : bi.length = mi := by simpa using hri.1
    refine seq_plain hw0_1 [0] (by rfl) ?_
    refine L_val (.bool true) (by rfl) (by exact hl_1) (gives_lss (k := .i64) ((i : Int)) ((n0 : Int)) true (by rfl) (by rfl) (decide_eq_true (by omega))) ?_
    refine L_end ?_
    intro w8 hw8
    refine wp_seq ?_
    refine wp_cond_true (fr_at _ _ (by exact hl_1) _) ?_
    refine wp_skip ?_
    change Code.wp _ _ _ _ _
    refine wp_seq ?_
    refine wp_block ?_
    refine seq_plain hw8 [0, 1, 2, 3, 4] (by rfl) ?_
    refine L_val (.int .i64 (i : Int)) (by rfl) (by exact hl_1) gv ?_
    refine L_val (.pointer (some ⟨b0, o0 + (i), none⟩)) (by rfl) (by exact hl_1) (gives_index_old A0 n0 c0 ((i : Int)) (i) _ _ hA0 (by rfl) (by rfl) und_psg slice_szg rfl (by omega)) ?_
    refine L_val (.slice Ai mi ci) (by rfl) (by exact hl_1) (gives_load_oldSg _ (.slice Ai mi ci) (by rfl) (fun _ h => (h.below.cell (p := ⟨b0, _, none⟩) hq0).trans hce0) und_u8s) ?_
    refine L_val (.int .i64 (i : Int)) (by rfl) (by exact hl_1) gv ?_
    refine L_val (.slice Ai mi ci) (by rfl) (by exact hl_1) gv ?_
    refine L_end ?_
    intro w9 hw9
    refine wp_seq ?_
    refine seq_plain hw9 [0, 1, 2] (by rfl) ?_
    refine L_val (.slice Ai mi ci) (by rfl) (by exact hl_1) gv ?_
    refine L_val (.int .i64 (mi : Int)) (by rfl) (by exact hl_1) (gives_len _ mi ci und_u8s (by rfl)) ?_
    refine L_val (.bool true) (by rfl) (by exact hl_1) (gives_gtr (k := .i64) ((mi : Int)) (100) true (by rfl) (by rfl) (decide_eq_true (by omega))) ?_
    refine L_end ?_
    intro w10 hw10
    refine wp_cond_true (fr_at _ _ (by exact hl_1) _) ?_
    refine seq_plain hw10 [0] (by rfl) ?_
    refine L_val (.bool true) (by rfl) (by exact hl_1) gv ?_
    refine L_end ?_
    intro w11 hw11
    refine wp_ret ?_
    change bodyPost _ _ _ Exit.ret _ _
    refine (ret_tmp (by rfl) (by exact hl_1) (by rfl) ⟨rfl, hw11.below⟩)
  ·
    have hbli : bi.length = mi := by simpa using hri.1
    refine seq_plain hw0_1 [0] (by rfl) ?_
    refine L_val (.bool true) (by rfl) (by exact hl_1) (gives_lss (k := .i64) ((i : Int)) ((n0 : Int)) true (by rfl) (by rfl) (decide_eq_true (by omega))) ?_
    refine L_end ?_
    intro w12 hw12
    refine wp_seq ?_
    refine wp_cond_true (fr_at _ _ (by exact hl_1) _) ?_
    refine wp_skip ?_
    change Code.wp _ _ _ _ _
    refine wp_seq ?_
    refine wp_block ?_
    refine seq_plain hw12 [0, 1, 2, 3, 4] (by rfl) ?_
    refine L_val (.int .i64 (i : Int)) (by rfl) (by exact hl_1) gv ?_
    refine L_val (.pointer (some ⟨b0, o0 + (i), none⟩)) (by rfl) (by exact hl_1) (gives_index_old A0 n0 c0 ((i : Int)) (i) _ _ hA0 (by rfl) (by rfl) und_psg slice_szg rfl (by omega)) ?_
    refine L_val (.slice Ai mi ci) (by rfl) (by exact hl_1) (gives_load_oldSg _ (.slice Ai mi ci) (by rfl) (fun _ h => (h.below.cell (p := ⟨b0, _, none⟩) hq0).trans hce0) und_u8s) ?_
    refine L_val (.int .i64 (i : Int)) (by rfl) (by exact hl_1) gv ?_
    refine L_val (.slice Ai mi ci) (by rfl) (by exact hl_1) gv ?_
    refine L_end ?_
    intro w13 hw13
    refine wp_seq ?_
    refine seq_plain hw13 [0, 1, 2] (by rfl) ?_
    refine L_val (.slice Ai mi ci) (by rfl) (by exact hl_1) gv ?_
    refine L_val (.int .i64 (mi : Int)) (by rfl) (by exact hl_1) (gives_len _ mi ci und_u8s (by rfl)) ?_
    refine L_val (.bool false) (by rfl) (by exact hl_1) (gives_gtr (k := .i64) ((mi : Int)) (100) false (by rfl) (by rfl) (decide_eq_false (by omega))) ?_
    refine L_end ?_
    intro w14 hw14
    refine wp_cond_false (fr_at _ _ (by exact hl_1) _) ?_
    refine wp_skip ?_
    change Code.wp _ _ _ _ _
    refine seq_plain hw14 [0, 1, 2, 3] (by rfl) ?_
    refine L_val (.slice Ai mi ci) (by rfl) (by exact hl_1) gv ?_
    refine L_val (.agg (frc (num bi))) (by rfl) (by exact hl_1) (gives_call (vl := [.slice Ai mi ci]) (by kernel_rfl) (by rfl) (fun w h => k2_scalar Ai mi ci bi w (hR.keep h.below) (hH.keep h.below) ((hri.below h.below).more h.below.size) hoi (by omega))) ?_
    refine L_alloc _ (by rfl) (by exact hl_1) z_fr (frc (0 : Int)) rfl ?_; intro g4
    refine L_store (t := 60) 0 g4 _ _ (by rfl) (by exact hl_1) (by rfl) (by rfl) (by rfl) (hi_fr _) ((frc_size _).trans (frc_size _).symm) (frc_one _) ?_
    simp only [List.set_cons_zero, List.set_cons_succ]
    refine L_end ?_
    intro w15 hw15
    refine seq_flow (by kernel_rfl) hw15 [] [(g4, 60, (frc (num bi))), (gp_, 71, csp), (g3, 60, (frc tot)), (g2, 71, (cg2 sm))] 5 (by rfl) ?_
    refine fT (i := 0) (u := (.agg (cg2 (k0)))) (hl := by exact hl_1) (g := (gives_call (vl := []) (by kernel_rfl) (by rfl) (fun w h => by rw [hk0]; exact k2_gen w (hG.keep h.below)))) (h := ?_)
    refine fT (i := 1) (hl := by exact hl_1) (g := (gL g4 60 (frc (num bi)) 0 Tryd.underlying60 (hi_fr _))) (h := ?_)
    refine fT (i := 2) (hl := by exact hl_1) (g := (gives_call (vl := [.agg (cg2 (k0)), .agg (frc (num bi))]) (by kernel_rfl) (by rfl) (fun w h => k2_gmul _ _ w (hG.keep h.below) (hR.keep h.below)))) (h := ?_)
    refine flow_one 3 (by kernel_rfl) ?_
    refine F_alloc _ (by rfl) (by exact hl_1) z_g2 (cg2 (0 : Pt F2)) rfl (List.Sublist.refl _) ?_; intro g5
    refine flow_one 4 (by kernel_rfl) ?_
    refine F_store (t := 71) 0 g5 _ _ (by rfl) (by exact hl_1) (by rfl) (by rfl) (by rfl) (hi_g2 _) ((cg2_size _).trans (cg2_size _).symm) (cg2_one _) (.inr (List.Sublist.cons _ (List.Sublist.refl _))) ?_
    simp only [List.set_cons_zero, List.set_cons_succ]
    refine flow_done (by kernel_rfl) ?_
    intro w16 hw16
    refine wp_seq ?_
    refine seq_plain hw16 [0, 1, 2, 3, 4, 5, 6] (by rfl) ?_
    refine L_val (.int .i64 a1) (by rfl) (by exact hl_1) gv ?_
    refine L_val (.int .i64 (i : Int)) (by rfl) (by exact hl_1) gv ?_
    refine L_val (.int .i64 (bandI (i : Int) 7)) (by rfl) (by exact hl_1) (gives_and (k := .i64) ((i : Int)) (7) (bandI (i : Int) 7) (by rfl) (by rfl) rfl) ?_
    refine L_val (.int .u64 (byI (i : Int))) (by rfl) (by exact hl_1) (gives_conv (k2 := .u64) (bandI (i : Int) 7) (byI (i : Int)) (by rfl) und_int und_uint rfl) ?_
    refine L_val (.int .i64 (shI a1 (i : Int))) (by rfl) (by exact hl_1) (gives_shr (k := .i64) (k2 := .u64) (a1) (byI (i : Int)) (shI a1 (i : Int)) (by rfl) (by rfl) (byI_nonneg _) rfl) ?_
    refine L_val (.int .i64 (bandI (shI a1 (i : Int)) 1)) (by rfl) (by exact hl_1) (gives_and (k := .i64) (shI a1 (i : Int)) (1) (bandI (shI a1 (i : Int)) 1) (by rfl) (by rfl) rfl) ?_
    refine L_val (.bool true) (by rfl) (by exact hl_1) (gives_ieq (k := .i64) (bandI (shI a1 (i : Int)) 1) (1) true (by rfl) (by rfl) (decide_eq_true hbit)) ?_
    refine L_end ?_
    intro w17 hw17
    refine wp_cond_true (fr_at _ _ (by exact hl_1) _) ?_
    refine seq_plain hw17 [0, 1, 2] (by rfl) ?_
    refine L_val (.agg (cg2 (gMul F2.inv (k0) (num bi)))) (by rfl) (by exact hl_1) (gL g5 71 (cg2 (gMul F2.inv (k0) (num bi))) 0 Tryd.underlying71 (hi_g2 _)) ?_
    refine L_val (.agg (cg2 (-(gMul F2.inv (k0) (num bi))))) (by rfl) (by exact hl_1) (gives_call (vl := [.agg (cg2 (gMul F2.inv (k0) (num bi)))]) (by kernel_rfl) (by rfl) (fun w h => k2_neg _ w (hG.keep h.below))) ?_
    refine L_store (t := 71) 0 g5 _ _ (by rfl) (by exact hl_1) (by rfl) (by rfl) (by rfl) (hi_g2 _) ((cg2_size _).trans (cg2_size _).symm) (cg2_one _) ?_
    simp only [List.set_cons_zero, List.set_cons_succ]
    refine L_end ?_
    intro w18 hw18
    refine one_plain hw18 [0, 1, 2] (by rfl) ?_
    refine L_val (.agg (frc (num bi))) (by rfl) (by exact hl_1) (gL g4 60 (frc (num bi)) 1 Tryd.underlying60 (hi_fr _)) ?_
    refine L_val (.agg (frc (-(num bi)))) (by rfl) (by exact hl_1) (gives_call (vl := [.agg (frc (num bi))]) (by kernel_rfl) (by rfl) (fun w h => u_neg _ w (hR.keep h.below))) ?_
    refine L_store (t := 60) 1 g4 _ _ (by rfl) (by exact hl_1) (by rfl) (by rfl) (by rfl) (hi_fr _) ((frc_size _).trans (frc_size _).symm) (frc_one _) ?_
    simp only [List.set_cons_zero, List.set_cons_succ]
    refine L_end ?_
    intro w19 hw19
    change Code.wp _ _ _ _ _
    refine seq_plain hw19 [0, 1, 2, 3, 4] (by rfl) ?_
    refine L_val (.slice (some ⟨gp_, 0, none⟩) i cp) (by rfl) (by exact hl_1) gv ?_
    refine L_val (.agg (cg2 (-(gMul F2.inv (k0) (num bi))))) (by rfl) (by exact hl_1) (gL g5 71 (cg2 (-(gMul F2.inv (k0) (num bi)))) 0 Tryd.underlying71 (hi_g2 _)) ?_
    refine L_buildP 1 24 (cg2 0) [(0, (cg2 (-(gMul F2.inv (k0) (num bi)))))] (joinA [(cg2 (-(gMul F2.inv (k0) (num bi))))]) (by rfl) (by exact hl_1) Tryd.underlying69 (zs_g2) (zr_g2_1) (cg2_size _) (by decide) (by decide) (by simp [fits, cg2_size]) (by rfl) (by rfl) ?_; intro g6; have hp_2 := Pso.one cg2_size (-(gMul F2.inv (k0) (num bi)))
    refine L_appendN 3 0 gp_ g6 i cp 1 1 24 192 (.agg (cg2 0)) csp (joinA [(cg2 (-(gMul F2.inv (k0) (num bi))))]) (joinA ([-(gMul F2.inv (k0) (num bi))].map cg2)).toList (by rfl) (by exact hl_1) Tryd.underlying69 info_g2 (cg2_size 0) (by omega) (by rfl) (by rfl) (by rfl) (by rfl) hp_2.tk hp_2.q (hp_2.ones g2_ones) hq.le hq.size hq.max (by omega) (by omega) [(g6, 71, (joinA [(cg2 (-(gMul F2.inv (k0) (num bi))))])), (g5, 71, (cg2 (-(gMul F2.inv (k0) (num bi))))), (g4, 60, (frc (-(num bi)))), (g3, 60, (frc tot)), (g2, 71, (cg2 sm))] (by rfl) ?_; intro g7 cap_3 cs_3 ha_3 hb_3 hc_3 hd_3
    have hp_3 := hq.push hp_2.len ha_3 hb_3 hc_3 hd_3
    refine L_val (.slice (some ⟨g7, 0, none⟩) (i + 1) cap_3) (by rfl) (by exact hl_1) gv ?_
    refine L_end ?_
    intro w20 hw20
    refine seq_plain hw20 [0, 1, 2, 3] (by rfl) ?_
    refine L_val (.agg (cg2 (sm))) (by rfl) (by exact hl_1) (gives_load g2 0 71 (cg2 sm) (cg2 (sm)) _ (by rfl) (fun _ h => h.blk 5 (by rfl)) (Sl.refl _) Tryd.underlying71 (by rfl) (hi_g2 _)) ?_
    refine L_val (.agg (cg2 (-(gMul F2.inv (k0) (num bi))))) (by rfl) (by exact hl_1) (gL g5 71 (cg2 (-(gMul F2.inv (k0) (num bi)))) 2 Tryd.underlying71 (hi_g2 _)) ?_
    refine L_val (.agg (cg2 (gAdd F2.inv (sm) (-(gMul F2.inv (k0) (num bi)))))) (by rfl) (by exact hl_1) (gives_call (vl := [.agg (cg2 (sm)), .agg (cg2 (-(gMul F2.inv (k0) (num bi))))]) (by kernel_rfl) (by rfl) (fun w h => k2_gadd _ _ w (hG.keep h.below))) ?_
    refine L_store (t := 71) 5 g2 _ _ (by rfl) (by exact hl_1) (by rfl) (by rfl) (by rfl) (hi_g2 _) ((cg2_size _).trans (cg2_size _).symm) (cg2_one _) ?_
    simp only [List.set_cons_zero, List.set_cons_succ]
    refine L_end ?_
    intro w21 hw21
    refine one_plain hw21 [0, 1, 2, 3] (by rfl) ?_
    refine L_val (.agg (frc (tot))) (by rfl) (by exact hl_1) (gives_load g3 0 60 (frc tot) (frc (tot)) _ (by rfl) (fun _ h => h.blk 4 (by rfl)) (Sl.refl _) Tryd.underlying60 (by rfl) (hi_fr _)) ?_
    refine L_val (.agg (frc (-(num bi)))) (by rfl) (by exact hl_1) (gL g4 60 (frc (-(num bi))) 3 Tryd.underlying60 (hi_fr _)) ?_
    refine L_val (.agg (frc ((tot) + (-(num bi))))) (by rfl) (by exact hl_1) (gives_call (vl := [.agg (frc (tot)), .agg (frc (-(num bi)))]) (by kernel_rfl) (by rfl) (fun w h => u_add _ _ w (hR.keep h.below))) ?_
    refine L_store (t := 60) 4 g3 _ _ (by rfl) (by exact hl_1) (by rfl) (by rfl) (by rfl) (hi_fr _) ((frc_size _).trans (frc_size _).symm) (frc_one _) ?_
    simp only [List.set_cons_zero, List.set_cons_succ]
    refine L_end ?_
    intro w22 hw22
    change Code.wp _ _ _ _ _
    refine one_plain hw22 [0, 1] (by rfl) ?_
    refine L_val (.int .i64 ((i : Int) + 1)) (by rfl) (by exact hl_1) (gives_add (k := .i64) ((i : Int)) (1) ((i : Int) + 1) (by rfl) (by rfl) (IntWalk.i64_in _ (by omega))) ?_
    refine L_val (.int .i64 ((i : Int) + 1)) (by rfl) (by exact hl_1) gv ?_
    refine L_end ?_
    intro w23 hw23
    change ∃ r' : Nat, r' < r_1 ∧ _
    refine ⟨_, ?_, i + 1, g7, cap_3, cs_3, (qs ++ [-(gMul F2.inv (k0) (num bi))]), gAdd F2.inv (sm) (-(gMul F2.inv (k0) (num bi))), (tot) + (-(num bi)), ((25, .int .i64 ((i : Int) + 1)) :: (59, .int .i64 ((i : Int) + 1)) :: (58, .agg (frc ((tot) + (-(num bi))))) :: (57, .agg (frc (-(num bi)))) :: (56, .agg (frc (tot))) :: (55, .agg (cg2 (gAdd F2.inv (sm) (-(gMul F2.inv (k0) (num bi)))))) :: (54, .agg (cg2 (-(gMul F2.inv (k0) (num bi))))) :: (53, .agg (cg2 (sm))) :: (5, .slice (some ⟨g7, 0, none⟩) (i + 1) cap_3) :: (52, .slice (some ⟨g7, 0, none⟩) (i + 1) cap_3) :: (51, .slice (some ⟨g6, 0, none⟩) 1 1) :: (50, .agg (cg2 (-(gMul F2.inv (k0) (num bi))))) :: (49, .slice (some ⟨gp_, 0, none⟩) i cp) :: (48, .agg (frc (-(num bi)))) :: (47, .agg (frc (num bi))) :: (46, .agg (cg2 (-(gMul F2.inv (k0) (num bi))))) :: (45, .agg (cg2 (gMul F2.inv (k0) (num bi)))) :: (44, .bool true) :: (43, .int .i64 (bandI (shI a1 (i : Int)) 1)) :: (42, .int .i64 (shI a1 (i : Int))) :: (41, .int .u64 (byI (i : Int))) :: (40, .int .i64 (bandI (i : Int) 7)) :: (39, .int .i64 (i : Int)) :: (38, .int .i64 a1) :: (11, .pointer (some ⟨g5, 0, none⟩)) :: (37, .agg (cg2 (gMul F2.inv (k0) (num bi)))) :: (36, .agg (frc (num bi))) :: (35, .agg (cg2 (k0))) :: (10, .pointer (some ⟨g4, 0, none⟩)) :: (34, .agg (frc (num bi))) :: (33, .slice Ai mi ci) :: (32, .bool false) :: (31, .int .i64 (mi : Int)) :: (30, .slice Ai mi ci) :: (9, .slice Ai mi ci) :: (8, .int .i64 (i : Int)) :: (29, .slice Ai mi ci) :: (28, .pointer (some ⟨b0, o0 + (i), none⟩)) :: (27, .int .i64 (i : Int)) :: (26, .bool true) :: (0, .slice A0 n0 c0) :: (1, .int .i64 a1) :: (5, .slice (some ⟨gp_, 0, none⟩) i cp) :: (6, .pointer (some ⟨g2, 0, none⟩)) :: (7, .pointer (some ⟨g3, 0, none⟩)) :: (23, .slice A0 n0 c0) :: (24, .int .i64 (n0 : Int)) :: (25, .int .i64 (i : Int)) :: l_1), rfl, (by exact hl_1), (Eq.trans (Eq.trans (Eq.trans (Eq.trans (Eq.trans (Eq.trans (Eq.trans (fr_dup _ _ 25 _ (by exact hl_1) (by rfl) (by rfl)).symm (fr_dup _ _ 24 _ (by exact hl_1) (by rfl) (by rfl)).symm) (fr_dup _ _ 23 _ (by exact hl_1) (by rfl) (by rfl)).symm) (fr_dup _ _ 7 _ (by exact hl_1) (by rfl) (by rfl)).symm) (fr_dup _ _ 6 _ (by exact hl_1) (by rfl) (by rfl)).symm) (fr_dup _ _ 5 _ (by exact hl_1) (by rfl) (by rfl)).symm) (fr_dup _ _ 1 _ (by exact hl_1) (by rfl) (by rfl)).symm) (fr_dup _ _ 0 _ (by exact hl_1) (by rfl) (by rfl)).symm), by omega, hp_3, gl_on hon (ec2.on_neg (on_mul ec2 F2.inv_zero (by rw [hk0]; exact on_gen2) _)), (gl_sum ec2 F2.inv_zero hon hsm (ec2.on_neg (on_mul ec2 F2.inv_zero (by rw [hk0]; exact on_gen2) _))), (by rw [mul_neg ec2 F2.inv_zero (by rw [hk0]; exact ing_gen2), htot]; exact mul_sum ec2 F2.inv_zero (by rw [hk0]; exact ing_gen2) _ _), (hw23.sub (List.Sublist.cons_cons _ (List.Sublist.cons _ (List.Sublist.cons _ (List.Sublist.cons _ (List.Sublist.cons_cons _ (List.Sublist.cons_cons _ (List.Sublist.refl _))))))))⟩
    omega
  ·
    have hbli : bi.length = mi := by simpa using hri.1
    refine seq_plain hw0_1 [0] (by rfl) ?_
    refine L_val (.bool true) (by rfl) (by exact hl_1) (gives_lss (k := .i64) ((i : Int)) ((n0 : Int)) true (by rfl) (by rfl) (decide_eq_true (by omega))) ?_
    refine L_end ?_
    intro w24 hw24
    refine wp_seq ?_
    refine wp_cond_true (fr_at _ _ (by exact hl_1) _) ?_
    refine wp_skip ?_
    change Code.wp _ _ _ _ _
    refine wp_seq ?_
    refine wp_block ?_
    refine seq_plain hw24 [0, 1, 2, 3, 4] (by rfl) ?_
    refine L_val (.int .i64 (i : Int)) (by rfl) (by exact hl_1) gv ?_
    refine L_val (.pointer (some ⟨b0, o0 + (i), none⟩)) (by rfl) (by exact hl_1) (gives_index_old A0 n0 c0 ((i : Int)) (i) _ _ hA0 (by rfl) (by rfl) und_psg slice_szg rfl (by omega)) ?_
    refine L_val (.slice Ai mi ci) (by rfl) (by exact hl_1) (gives_load_oldSg _ (.slice Ai mi ci) (by rfl) (fun _ h => (h.below.cell (p := ⟨b0, _, none⟩) hq0).trans hce0) und_u8s) ?_
    refine L_val (.int .i64 (i : Int)) (by rfl) (by exact hl_1) gv ?_
    refine L_val (.slice Ai mi ci) (by rfl) (by exact hl_1) gv ?_
    refine L_end ?_
    intro w25 hw25
    refine wp_seq ?_
    refine seq_plain hw25 [0, 1, 2] (by rfl) ?_
    refine L_val (.slice Ai mi ci) (by rfl) (by exact hl_1) gv ?_
    refine L_val (.int .i64 (mi : Int)) (by rfl) (by exact hl_1) (gives_len _ mi ci und_u8s (by rfl)) ?_
    refine L_val (.bool false) (by rfl) (by exact hl_1) (gives_gtr (k := .i64) ((mi : Int)) (100) false (by rfl) (by rfl) (decide_eq_false (by omega))) ?_
    refine L_end ?_
    intro w26 hw26
    refine wp_cond_false (fr_at _ _ (by exact hl_1) _) ?_
    refine wp_skip ?_
    change Code.wp _ _ _ _ _
    refine seq_plain hw26 [0, 1, 2, 3] (by rfl) ?_
    refine L_val (.slice Ai mi ci) (by rfl) (by exact hl_1) gv ?_
    refine L_val (.agg (frc (num bi))) (by rfl) (by exact hl_1) (gives_call (vl := [.slice Ai mi ci]) (by kernel_rfl) (by rfl) (fun w h => k2_scalar Ai mi ci bi w (hR.keep h.below) (hH.keep h.below) ((hri.below h.below).more h.below.size) hoi (by omega))) ?_
    refine L_alloc _ (by rfl) (by exact hl_1) z_fr (frc (0 : Int)) rfl ?_; intro g8
    refine L_store (t := 60) 0 g8 _ _ (by rfl) (by exact hl_1) (by rfl) (by rfl) (by rfl) (hi_fr _) ((frc_size _).trans (frc_size _).symm) (frc_one _) ?_
    simp only [List.set_cons_zero, List.set_cons_succ]
    refine L_end ?_
    intro w27 hw27
    refine seq_flow (by kernel_rfl) hw27 [] [(g8, 60, (frc (num bi))), (gp_, 71, csp), (g3, 60, (frc tot)), (g2, 71, (cg2 sm))] 5 (by rfl) ?_
    refine fT (i := 0) (u := (.agg (cg2 (k0)))) (hl := by exact hl_1) (g := (gives_call (vl := []) (by kernel_rfl) (by rfl) (fun w h => by rw [hk0]; exact k2_gen w (hG.keep h.below)))) (h := ?_)
    refine fT (i := 1) (hl := by exact hl_1) (g := (gL g8 60 (frc (num bi)) 0 Tryd.underlying60 (hi_fr _))) (h := ?_)
    refine fT (i := 2) (hl := by exact hl_1) (g := (gives_call (vl := [.agg (cg2 (k0)), .agg (frc (num bi))]) (by kernel_rfl) (by rfl) (fun w h => k2_gmul _ _ w (hG.keep h.below) (hR.keep h.below)))) (h := ?_)
    refine flow_one 3 (by kernel_rfl) ?_
    refine F_alloc _ (by rfl) (by exact hl_1) z_g2 (cg2 (0 : Pt F2)) rfl (List.Sublist.refl _) ?_; intro g9
    refine flow_one 4 (by kernel_rfl) ?_
    refine F_store (t := 71) 0 g9 _ _ (by rfl) (by exact hl_1) (by rfl) (by rfl) (by rfl) (hi_g2 _) ((cg2_size _).trans (cg2_size _).symm) (cg2_one _) (.inr (List.Sublist.cons _ (List.Sublist.refl _))) ?_
    simp only [List.set_cons_zero, List.set_cons_succ]
    refine flow_done (by kernel_rfl) ?_
    intro w28 hw28
    refine wp_seq ?_
    refine seq_plain hw28 [0, 1, 2, 3, 4, 5, 6] (by rfl) ?_
    refine L_val (.int .i64 a1) (by rfl) (by exact hl_1) gv ?_
    refine L_val (.int .i64 (i : Int)) (by rfl) (by exact hl_1) gv ?_
    refine L_val (.int .i64 (bandI (i : Int) 7)) (by rfl) (by exact hl_1) (gives_and (k := .i64) ((i : Int)) (7) (bandI (i : Int) 7) (by rfl) (by rfl) rfl) ?_
    refine L_val (.int .u64 (byI (i : Int))) (by rfl) (by exact hl_1) (gives_conv (k2 := .u64) (bandI (i : Int) 7) (byI (i : Int)) (by rfl) und_int und_uint rfl) ?_
    refine L_val (.int .i64 (shI a1 (i : Int))) (by rfl) (by exact hl_1) (gives_shr (k := .i64) (k2 := .u64) (a1) (byI (i : Int)) (shI a1 (i : Int)) (by rfl) (by rfl) (byI_nonneg _) rfl) ?_
    refine L_val (.int .i64 (bandI (shI a1 (i : Int)) 1)) (by rfl) (by exact hl_1) (gives_and (k := .i64) (shI a1 (i : Int)) (1) (bandI (shI a1 (i : Int)) 1) (by rfl) (by rfl) rfl) ?_
    refine L_val (.bool false) (by rfl) (by exact hl_1) (gives_ieq (k := .i64) (bandI (shI a1 (i : Int)) 1) (1) false (by rfl) (by rfl) (decide_eq_false hbit)) ?_
    refine L_end ?_
    intro w29 hw29
    refine wp_cond_false (fr_at _ _ (by exact hl_1) _) ?_
    refine wp_skip ?_
    change Code.wp _ _ _ _ _
    refine seq_plain hw29 [0, 1, 2, 3, 4] (by rfl) ?_
    refine L_val (.slice (some ⟨gp_, 0, none⟩) i cp) (by rfl) (by exact hl_1) gv ?_
    refine L_val (.agg (cg2 (gMul F2.inv (k0) (num bi)))) (by rfl) (by exact hl_1) (gL g9 71 (cg2 (gMul F2.inv (k0) (num bi))) 0 Tryd.underlying71 (hi_g2 _)) ?_
    refine L_buildP 1 24 (cg2 0) [(0, (cg2 (gMul F2.inv (k0) (num bi))))] (joinA [(cg2 (gMul F2.inv (k0) (num bi)))]) (by rfl) (by exact hl_1) Tryd.underlying69 (zs_g2) (zr_g2_1) (cg2_size _) (by decide) (by decide) (by simp [fits, cg2_size]) (by rfl) (by rfl) ?_; intro g10; have hp_4 := Pso.one cg2_size (gMul F2.inv (k0) (num bi))
    refine L_appendN 3 0 gp_ g10 i cp 1 1 24 192 (.agg (cg2 0)) csp (joinA [(cg2 (gMul F2.inv (k0) (num bi)))]) (joinA ([gMul F2.inv (k0) (num bi)].map cg2)).toList (by rfl) (by exact hl_1) Tryd.underlying69 info_g2 (cg2_size 0) (by omega) (by rfl) (by rfl) (by rfl) (by rfl) hp_4.tk hp_4.q (hp_4.ones g2_ones) hq.le hq.size hq.max (by omega) (by omega) [(g10, 71, (joinA [(cg2 (gMul F2.inv (k0) (num bi)))])), (g9, 71, (cg2 (gMul F2.inv (k0) (num bi)))), (g8, 60, (frc (num bi))), (g3, 60, (frc tot)), (g2, 71, (cg2 sm))] (by rfl) ?_; intro g11 cap_5 cs_5 ha_5 hb_5 hc_5 hd_5
    have hp_5 := hq.push hp_4.len ha_5 hb_5 hc_5 hd_5
    refine L_val (.slice (some ⟨g11, 0, none⟩) (i + 1) cap_5) (by rfl) (by exact hl_1) gv ?_
    refine L_end ?_
    intro w30 hw30
    refine seq_plain hw30 [0, 1, 2, 3] (by rfl) ?_
    refine L_val (.agg (cg2 (sm))) (by rfl) (by exact hl_1) (gives_load g2 0 71 (cg2 sm) (cg2 (sm)) _ (by rfl) (fun _ h => h.blk 5 (by rfl)) (Sl.refl _) Tryd.underlying71 (by rfl) (hi_g2 _)) ?_
    refine L_val (.agg (cg2 (gMul F2.inv (k0) (num bi)))) (by rfl) (by exact hl_1) (gL g9 71 (cg2 (gMul F2.inv (k0) (num bi))) 2 Tryd.underlying71 (hi_g2 _)) ?_
    refine L_val (.agg (cg2 (gAdd F2.inv (sm) (gMul F2.inv (k0) (num bi))))) (by rfl) (by exact hl_1) (gives_call (vl := [.agg (cg2 (sm)), .agg (cg2 (gMul F2.inv (k0) (num bi)))]) (by kernel_rfl) (by rfl) (fun w h => k2_gadd _ _ w (hG.keep h.below))) ?_
    refine L_store (t := 71) 5 g2 _ _ (by rfl) (by exact hl_1) (by rfl) (by rfl) (by rfl) (hi_g2 _) ((cg2_size _).trans (cg2_size _).symm) (cg2_one _) ?_
    simp only [List.set_cons_zero, List.set_cons_succ]
    refine L_end ?_
    intro w31 hw31
    refine one_plain hw31 [0, 1, 2, 3] (by rfl) ?_
    refine L_val (.agg (frc (tot))) (by rfl) (by exact hl_1) (gives_load g3 0 60 (frc tot) (frc (tot)) _ (by rfl) (fun _ h => h.blk 4 (by rfl)) (Sl.refl _) Tryd.underlying60 (by rfl) (hi_fr _)) ?_
    refine L_val (.agg (frc (num bi))) (by rfl) (by exact hl_1) (gL g8 60 (frc (num bi)) 3 Tryd.underlying60 (hi_fr _)) ?_
    refine L_val (.agg (frc ((tot) + (num bi)))) (by rfl) (by exact hl_1) (gives_call (vl := [.agg (frc (tot)), .agg (frc (num bi))]) (by kernel_rfl) (by rfl) (fun w h => u_add _ _ w (hR.keep h.below))) ?_
    refine L_store (t := 60) 4 g3 _ _ (by rfl) (by exact hl_1) (by rfl) (by rfl) (by rfl) (hi_fr _) ((frc_size _).trans (frc_size _).symm) (frc_one _) ?_
    simp only [List.set_cons_zero, List.set_cons_succ]
    refine L_end ?_
    intro w32 hw32
    change Code.wp _ _ _ _ _
    refine one_plain hw32 [0, 1] (by rfl) ?_
    refine L_val (.int .i64 ((i : Int) + 1)) (by rfl) (by exact hl_1) (gives_add (k := .i64) ((i : Int)) (1) ((i : Int) + 1) (by rfl) (by rfl) (IntWalk.i64_in _ (by omega))) ?_
    refine L_val (.int .i64 ((i : Int) + 1)) (by rfl) (by exact hl_1) gv ?_
    refine L_end ?_
    intro w33 hw33
    change ∃ r' : Nat, r' < r_1 ∧ _
    refine ⟨_, ?_, i + 1, g11, cap_5, cs_5, (qs ++ [gMul F2.inv (k0) (num bi)]), gAdd F2.inv (sm) (gMul F2.inv (k0) (num bi)), (tot) + (num bi), ((25, .int .i64 ((i : Int) + 1)) :: (59, .int .i64 ((i : Int) + 1)) :: (58, .agg (frc ((tot) + (num bi)))) :: (57, .agg (frc (num bi))) :: (56, .agg (frc (tot))) :: (55, .agg (cg2 (gAdd F2.inv (sm) (gMul F2.inv (k0) (num bi))))) :: (54, .agg (cg2 (gMul F2.inv (k0) (num bi)))) :: (53, .agg (cg2 (sm))) :: (5, .slice (some ⟨g11, 0, none⟩) (i + 1) cap_5) :: (52, .slice (some ⟨g11, 0, none⟩) (i + 1) cap_5) :: (51, .slice (some ⟨g10, 0, none⟩) 1 1) :: (50, .agg (cg2 (gMul F2.inv (k0) (num bi)))) :: (49, .slice (some ⟨gp_, 0, none⟩) i cp) :: (44, .bool false) :: (43, .int .i64 (bandI (shI a1 (i : Int)) 1)) :: (42, .int .i64 (shI a1 (i : Int))) :: (41, .int .u64 (byI (i : Int))) :: (40, .int .i64 (bandI (i : Int) 7)) :: (39, .int .i64 (i : Int)) :: (38, .int .i64 a1) :: (11, .pointer (some ⟨g9, 0, none⟩)) :: (37, .agg (cg2 (gMul F2.inv (k0) (num bi)))) :: (36, .agg (frc (num bi))) :: (35, .agg (cg2 (k0))) :: (10, .pointer (some ⟨g8, 0, none⟩)) :: (34, .agg (frc (num bi))) :: (33, .slice Ai mi ci) :: (32, .bool false) :: (31, .int .i64 (mi : Int)) :: (30, .slice Ai mi ci) :: (9, .slice Ai mi ci) :: (8, .int .i64 (i : Int)) :: (29, .slice Ai mi ci) :: (28, .pointer (some ⟨b0, o0 + (i), none⟩)) :: (27, .int .i64 (i : Int)) :: (26, .bool true) :: (0, .slice A0 n0 c0) :: (1, .int .i64 a1) :: (5, .slice (some ⟨gp_, 0, none⟩) i cp) :: (6, .pointer (some ⟨g2, 0, none⟩)) :: (7, .pointer (some ⟨g3, 0, none⟩)) :: (23, .slice A0 n0 c0) :: (24, .int .i64 (n0 : Int)) :: (25, .int .i64 (i : Int)) :: l_1), rfl, (by exact hl_1), (Eq.trans (Eq.trans (Eq.trans (Eq.trans (Eq.trans (Eq.trans (Eq.trans (fr_dup _ _ 25 _ (by exact hl_1) (by rfl) (by rfl)).symm (fr_dup _ _ 24 _ (by exact hl_1) (by rfl) (by rfl)).symm) (fr_dup _ _ 23 _ (by exact hl_1) (by rfl) (by rfl)).symm) (fr_dup _ _ 7 _ (by exact hl_1) (by rfl) (by rfl)).symm) (fr_dup _ _ 6 _ (by exact hl_1) (by rfl) (by rfl)).symm) (fr_dup _ _ 5 _ (by exact hl_1) (by rfl) (by rfl)).symm) (fr_dup _ _ 1 _ (by exact hl_1) (by rfl) (by rfl)).symm) (fr_dup _ _ 0 _ (by exact hl_1) (by rfl) (by rfl)).symm), by omega, hp_5, gl_on hon (on_mul ec2 F2.inv_zero (by rw [hk0]; exact on_gen2) _), (gl_sum ec2 F2.inv_zero hon hsm (on_mul ec2 F2.inv_zero (by rw [hk0]; exact on_gen2) _)), (by rw [htot]; exact mul_sum ec2 F2.inv_zero (by rw [hk0]; exact ing_gen2) _ _), (hw33.sub (List.Sublist.cons_cons _ (List.Sublist.cons _ (List.Sublist.cons _ (List.Sublist.cons _ (List.Sublist.cons_cons _ (List.Sublist.cons_cons _ (List.Sublist.refl _))))))))⟩
    omega
  ·
    refine seq_plain hw0_1 [0] (by rfl) ?_
    refine L_val (.bool false) (by rfl) (by exact hl_1) (gives_lss (k := .i64) ((i : Int)) ((n0 : Int)) false (by rfl) (by rfl) (decide_eq_false (by omega))) ?_
    refine L_end ?_
    intro w34 hw34
    refine wp_seq ?_
    refine wp_cond_false (fr_at _ _ (by exact hl_1) _) ?_
    refine wp_exit ?_
    have hin : i = n0 := by omega
    subst i
    change Code.wp _ _ _ _ _
    change Code.wp _ _ _ _ _
    refine seq_plain hw34 [0, 1, 2] (by rfl) ?_
    refine L_val (.agg (cg2 (0 : Pt F2))) (by rfl) (by exact hl_1) (gb_g2 [] trivial (by rfl) (cg2 (0 : Pt F2)) (by rfl)) ?_
    refine L_alloc _ (by rfl) (by exact hl_1) z_g2 (cg2 (0 : Pt F2)) rfl ?_; intro g12
    refine L_store (t := 71) 0 g12 _ _ (by rfl) (by exact hl_1) (by rfl) (by rfl) (by rfl) (hi_g2 _) ((cg2_size _).trans (cg2_size _).symm) (cg2_one _) ?_
    simp only [List.set_cons_zero, List.set_cons_succ]
    refine L_end ?_
    intro w35 hw35
    refine wp_seq ?_
    refine seq_plain hw35 [0, 1, 2, 3] (by rfl) ?_
    refine L_val (.slice (some ⟨gp_, 0, none⟩) n0 cp) (by rfl) (by exact hl_1) gv ?_
    refine L_val (.int .i64 (n0 : Int)) (by rfl) (by exact hl_1) (gives_len _ n0 cp Tryd.underlying69 (by rfl)) ?_
    refine L_val (.int .i64 ((n0 : Int) - 1)) (by rfl) (by exact hl_1) (gives_sub (k := .i64) ((n0 : Int)) (1) ((n0 : Int) - 1) (by rfl) (by rfl) (IntWalk.i64_in _ (by omega))) ?_
    refine L_val (.int .i64 ((n0 : Int) - 1)) (by rfl) (by exact hl_1) gv ?_
    refine L_end ?_
    intro w36 hw36
    refine wp_block ?_
    refine loop_down (fun (r_ : Nat) a w => ∃ (j : Nat) (bk : Pt F2) (l_2 : List (Nat × Value)), j = r_ ∧ inFr 103 l_2 = true ∧ a = fr 103 ((5, .slice (some ⟨gp_, 0, none⟩) n0 cp) :: (6, .pointer (some ⟨g2, 0, none⟩)) :: (7, .pointer (some ⟨g3, 0, none⟩)) :: (12, .pointer (some ⟨g12, 0, none⟩)) :: (13, .int .i64 ((j : Int) - 1)) :: l_2) ∧ (j ≤ n0) ∧ (bk = EC.sums F2.inv (qs.drop j)) ∧ Hbl v [(g12, 71, (cg2 bk)), (gp_, 71, csp), (g3, 60, (frc tot)), (g2, 71, (cg2 sm))] w) ?_ _ _ _ ⟨n0, 0, ((13, .int .i64 ((n0 : Int) - 1)) :: (63, .int .i64 ((n0 : Int) - 1)) :: (62, .int .i64 (n0 : Int)) :: (61, .slice (some ⟨gp_, 0, none⟩) n0 cp) :: (12, .pointer (some ⟨g12, 0, none⟩)) :: (60, .agg (cg2 (0 : Pt F2))) :: (26, .bool false) :: (0, .slice A0 n0 c0) :: (1, .int .i64 a1) :: (5, .slice (some ⟨gp_, 0, none⟩) n0 cp) :: (6, .pointer (some ⟨g2, 0, none⟩)) :: (7, .pointer (some ⟨g3, 0, none⟩)) :: (23, .slice A0 n0 c0) :: (24, .int .i64 (n0 : Int)) :: (25, .int .i64 (n0 : Int)) :: l_1), rfl, (by exact hl_1), (Eq.trans (Eq.trans (Eq.trans (Eq.trans (fr_dup _ _ 13 _ (by exact hl_1) (by rfl) (by rfl)).symm (fr_dup _ _ 12 _ (by exact hl_1) (by rfl) (by rfl)).symm) (fr_dup _ _ 7 _ (by exact hl_1) (by rfl) (by rfl)).symm) (fr_dup _ _ 6 _ (by exact hl_1) (by rfl) (by rfl)).symm) (fr_dup _ _ 5 _ (by exact hl_1) (by rfl) (by rfl)).symm), Nat.le_refl _, gl_start hq.len, hw36⟩
    rintro r_2 a0 w0_2 ⟨j, bk, l_2, hr_2, hl_2, rfl, hj, hbk, hw0_2⟩
    by_cases hlt2 : 0 < j
    ·
      obtain ⟨k, hk⟩ : ∃ k, j = k + 1 := ⟨j - 1, by omega⟩
      have hkq : k < qs.length := by rw [hq.len]; omega
      refine wp_seq ?_
      refine seq_plain hw0_2 [0, 1] (by rfl) ?_
      refine L_val (.int .i64 ((j : Int) - 1)) (by rfl) (by exact hl_2) gv ?_
      refine L_val (.bool true) (by rfl) (by exact hl_2) (gives_geq (k := .i64) ((j : Int) - 1) (0) true (by rfl) (by rfl) (decide_eq_true (by omega))) ?_
      refine L_end ?_
      intro w37 hw37
      refine wp_cond_true (fr_at _ _ (by exact hl_2) _) ?_
      refine wp_skip ?_
      change Code.wp _ _ _ _ _
      refine wp_seq ?_
      refine wp_block ?_
      refine one_flow (by kernel_rfl) hw37 [6] [(g12, 71, (cg2 bk)), (gp_, 71, csp), (g3, 60, (frc tot)), (g2, 71, (cg2 sm))] 7 (by rfl) ?_
      refine fT (i := 0) (hl := by exact hl_2) (g := (gives_load g12 0 71 (cg2 bk) (cg2 (bk)) _ (by rfl) (fun _ h => h.blk 0 (by rfl)) (Sl.refl _) Tryd.underlying71 (by rfl) (hi_g2 _))) (h := ?_)
      refine fV (i := 1) (u := (.slice (some ⟨gp_, 0, none⟩) n0 cp)) (hl := by exact hl_2) (h := ?_)
      refine fV (i := 2) (u := (.int .i64 ((j : Int) - 1))) (hl := by exact hl_2) (h := ?_)
      refine fT (i := 3) (u := (.pointer (some ⟨gp_, 0 + k * 24, none⟩))) (hl := by exact hl_2) (g := (gives_index_sl (some ⟨gp_, 0, none⟩) gp_ 0 n0 cp 24 ((j : Int) - 1) k (0 + k * 24) rfl (by rfl) (by rfl) Tryd.underlying69 (by kernel_rfl) (by omega) (by omega) rfl)) (h := ?_)
      refine fT (i := 4) (hl := by exact hl_2) (g := (gives_load gp_ (0 + k * 24) 71 csp (cg2 (gp qs k)) _ (by rfl) (fun _ h => h.blk 1 (by rfl)) (hq.sl cg2_size (by omega)) Tryd.underlying71 (by rfl) (hi_g2 _))) (h := ?_)
      refine fT (i := 5) (hl := by exact hl_2) (g := (gives_call (vl := [.agg (cg2 (bk)), .agg (cg2 (gp qs k))]) (by kernel_rfl) (by rfl) (fun w h => k2_gadd _ _ w (hG.keep h.below)))) (h := ?_)
      refine flow_one 6 (by kernel_rfl) ?_
      refine F_store (t := 71) 0 g12 _ _ (by rfl) (by exact hl_2) (by rfl) (by rfl) (by rfl) (hi_g2 _) ((cg2_size _).trans (cg2_size _).symm) (cg2_one _) (.inl (by decide)) ?_
      simp only [List.set_cons_zero, List.set_cons_succ]
      refine flow_done (by kernel_rfl) ?_
      intro w38 hw38
      change Code.wp _ _ _ _ _
      refine one_plain hw38 [0, 1, 2] (by rfl) ?_
      refine L_val (.int .i64 ((j : Int) - 1)) (by rfl) (by exact hl_2) gv ?_
      refine L_val (.int .i64 (((j : Int) - 1) - 1)) (by rfl) (by exact hl_2) (gives_sub (k := .i64) ((j : Int) - 1) (1) (((j : Int) - 1) - 1) (by rfl) (by rfl) (IntWalk.i64_in _ (by omega))) ?_
      refine L_val (.int .i64 (((j : Int) - 1) - 1)) (by rfl) (by exact hl_2) gv ?_
      refine L_end ?_
      intro w39 hw39
      change ∃ r' : Nat, r' < r_2 ∧ _
      refine ⟨_, ?_, k, gAdd F2.inv (bk) (gp qs k), ((13, .int .i64 (((j : Int) - 1) - 1)) :: (67, .int .i64 (((j : Int) - 1) - 1)) :: (66, .int .i64 ((j : Int) - 1)) :: (73, .agg (cg2 (gAdd F2.inv (bk) (gp qs k)))) :: (72, .agg (cg2 (gp qs k))) :: (71, .pointer (some ⟨gp_, 0 + k * 24, none⟩)) :: (70, .int .i64 ((j : Int) - 1)) :: (69, .slice (some ⟨gp_, 0, none⟩) n0 cp) :: (68, .agg (cg2 (bk))) :: (65, .bool true) :: (64, .int .i64 ((j : Int) - 1)) :: (5, .slice (some ⟨gp_, 0, none⟩) n0 cp) :: (6, .pointer (some ⟨g2, 0, none⟩)) :: (7, .pointer (some ⟨g3, 0, none⟩)) :: (12, .pointer (some ⟨g12, 0, none⟩)) :: (13, .int .i64 ((j : Int) - 1)) :: l_2), rfl, (by exact hl_2), (Eq.trans (Eq.trans (Eq.trans (Eq.trans (fr_dup _ _ 13 _ (by exact hl_2) (by rfl) (by exact (congrArg (Value.int .i64) (by omega)))).symm (fr_dup _ _ 12 _ (by exact hl_2) (by rfl) (by rfl)).symm) (fr_dup _ _ 7 _ (by exact hl_2) (by rfl) (by rfl)).symm) (fr_dup _ _ 6 _ (by exact hl_2) (by rfl) (by rfl)).symm) (fr_dup _ _ 5 _ (by exact hl_2) (by rfl) (by rfl)).symm), by omega, (gl_back ec2 F2.inv_zero hon hkq (by rw [hbk, hk])), (hw39.sub (List.Sublist.cons_cons _ (List.Sublist.cons_cons _ (List.Sublist.cons_cons _ (List.Sublist.cons_cons _ (List.Sublist.refl _))))))⟩
      omega
    ·
      refine wp_seq ?_
      refine seq_plain hw0_2 [0, 1] (by rfl) ?_
      refine L_val (.int .i64 ((j : Int) - 1)) (by rfl) (by exact hl_2) gv ?_
      refine L_val (.bool false) (by rfl) (by exact hl_2) (gives_geq (k := .i64) ((j : Int) - 1) (0) false (by rfl) (by rfl) (decide_eq_false (by omega))) ?_
      refine L_end ?_
      intro w40 hw40
      refine wp_cond_false (fr_at _ _ (by exact hl_2) _) ?_
      refine wp_exit ?_
      have hj0 : j = 0 := by omega
      rw [hj0] at hbk
      change Code.wp _ _ _ _ _
      change Code.wp _ _ _ _ _
      refine seq_flow (by kernel_rfl) hw40 [] [(g12, 71, (cg2 bk)), (gp_, 71, csp), (g3, 60, (frc tot)), (g2, 71, (cg2 sm))] 8 (by rfl) ?_
      refine fV (i := 1) (u := (.slice (some ⟨gp_, 0, none⟩) n0 cp)) (hl := by exact hl_2) (h := ?_)
      refine fT (i := 3) (hl := by exact hl_2) (g := (gives_load g2 0 71 (cg2 sm) (cg2 (sm)) _ (by rfl) (fun _ h => h.blk 3 (by rfl)) (Sl.refl _) Tryd.underlying71 (by rfl) (hi_g2 _))) (h := ?_)
      refine flow_one 0 (by kernel_rfl) ?_
      refine F_build0 24 (by rfl) (by exact hl_2) Tryd.underlying69 sz_g2 (List.Sublist.refl _) ?_; intro g13; have hp_6 := Pso.nil (n := 24) (c := cg2)
      refine flow_one 2 (by kernel_rfl) ?_
      refine F_appendN 0 2 g13 gp_ 0 0 n0 cp 24 192 (.agg (cg2 0)) #[] csp (joinA (qs.map cg2)).toList (by rfl) (by exact hl_2) Tryd.underlying69 info_g2 (cg2_size 0) (by omega) (by rfl) (by rfl) (by rfl) (by rfl) hq.tk hq.q (hq.ones g2_ones) hp_6.le hp_6.size hp_6.max (by omega) (by omega) [(g12, 71, (cg2 bk)), (gp_, 71, csp), (g3, 60, (frc tot)), (g2, 71, (cg2 sm))] (by rfl) (List.Sublist.refl _) ?_; intro g14 cap_7 cs_7 ha_7 hb_7 hc_7 hd_7
      have hp_7 := hp_6.push hq.len ha_7 hb_7 hc_7 hd_7
      refine fTs (i := 4) (hl := by exact hl_2) (e := (List.Sublist.cons _ (List.Sublist.refl _))) (g := (gives_call (vl := [.agg (cg2 (sm))]) (by kernel_rfl) (by rfl) (fun w h => k2_neg _ w (hG.keep h.below)))) (h := ?_)
      refine flow_one 5 (by kernel_rfl) ?_
      refine F_buildP 1 24 (cg2 0) [(0, (cg2 (-sm)))] (joinA [(cg2 (-sm))]) (by rfl) (by exact hl_2) Want.none Tryd.underlying69 (zs_g2) (zr_g2_1) (cg2_size _) (by decide) (by decide) (by simp [fits, cg2_size]) (by rfl) (by rfl) (List.Sublist.cons _ (List.Sublist.refl _)) ?_; intro g15; have hp_8 := Pso.one cg2_size (-sm)
      refine flow_one 6 (by kernel_rfl) ?_
      refine F_appendN 1 0 g14 g15 (0 + n0) cap_7 1 1 24 192 (.agg (cg2 0)) cs_7 (joinA [(cg2 (-sm))]) (joinA ([-sm].map cg2)).toList (by rfl) (by exact hl_2) Tryd.underlying69 info_g2 (cg2_size 0) (by omega) (by rfl) (by rfl) (by rfl) (by rfl) hp_8.tk hp_8.q (hp_8.ones g2_ones) hp_7.le hp_7.size hp_7.max (by omega) (by omega) [(g15, 71, (joinA [(cg2 (-sm))])), (g12, 71, (cg2 bk)), (gp_, 71, csp), (g3, 60, (frc tot)), (g2, 71, (cg2 sm))] (by rfl) (List.Sublist.cons _ (List.Sublist.refl _)) ?_; intro g16 cap_9 cs_9 ha_9 hb_9 hc_9 hd_9
      have hp_9 := hp_7.push hp_8.len ha_9 hb_9 hc_9 hd_9
      refine fTs (i := 7) (u := (.slice (some ⟨g16, 0, none⟩) ((0 + n0) + 1) cap_9)) (hl := by exact hl_2) (e := (List.Sublist.cons _ (List.Sublist.cons _ (List.Sublist.refl _)))) (g := gv) (h := ?_)
      refine flow_done (by kernel_rfl) ?_
      intro w41 hw41
      refine seq_flow (by kernel_rfl) hw41 [] [(g16, 71, cs_9), (g15, 71, (joinA [(cg2 (-sm))])), (g12, 71, (cg2 bk)), (gp_, 71, csp), (g3, 60, (frc tot)), (g2, 71, (cg2 sm))] 23 (by rfl) ?_
      refine fV (i := 0) (u := (.slice (some ⟨gp_, 0, none⟩) n0 cp)) (hl := by exact hl_2) (h := ?_)
      refine fT (i := 1) (hl := by exact hl_2) (g := (gives_call (vl := [.slice (some ⟨gp_, 0, none⟩) n0 cp]) (by kernel_rfl) (by rfl) (fun w h => k2_gsum _ _ _ qs w (hG.keep h.below) (hq.pts cg2_size (h.blk 3 (by rfl))) (by omega)))) (h := ?_)
      refine fT (i := 2) (hl := by exact hl_2) (g := (gives_load g2 0 71 (cg2 sm) (cg2 (sm)) _ (by rfl) (fun _ h => h.blk 5 (by rfl)) (Sl.refl _) Tryd.underlying71 (by rfl) (hi_g2 _))) (h := ?_)
      refine fT (i := 3) (u := (.bool true)) (hl := by exact hl_2) (g := (gives_eql (cg2 (gSum F2.inv qs)) (cg2 (sm)) true (by rfl) (by rfl) (by kernel_rfl) (fun w => eq_g2_t (d := 9995) w (gl_whole ec2 F2.inv_zero hon hsm)))) (h := ?_)
      refine fV (i := 4) (u := (.bool true)) (hl := by exact hl_2) (h := ?_)
      refine fG (i := 5) (dj := 85) (hl := by exact hl_2) (g := (gives_load g12 0 71 (cg2 bk) (cg2 (bk)) _ (by rfl) (fun _ h => h.blk 2 (by rfl)) (Sl.refl _) Tryd.underlying71 (by rfl) (hi_g2 _))) (h := ?_)
      refine fG (i := 6) (dj := 85) (hl := by exact hl_2) (g := (gives_load g2 0 71 (cg2 sm) (cg2 (sm)) _ (by rfl) (fun _ h => h.blk 5 (by rfl)) (Sl.refl _) Tryd.underlying71 (by rfl) (hi_g2 _))) (h := ?_)
      refine fG (i := 7) (dj := 85) (u := (.bool true)) (hl := by exact hl_2) (g := (gives_eql (cg2 (bk)) (cg2 (sm)) true (by rfl) (by rfl) (by kernel_rfl) (fun w => eq_g2_t (d := 9995) w (gl_bend hbk hsm)))) (h := ?_)
      refine fV (i := 8) (u := (.bool true)) (hl := by exact hl_2) (h := ?_)
      refine fV (i := 9) (u := (.bool true)) (hl := by exact hl_2) (h := ?_)
      refine fG (i := 10) (dj := 90) (hl := by exact hl_2) (g := (gives_load g2 0 71 (cg2 sm) (cg2 (sm)) _ (by rfl) (fun _ h => h.blk 5 (by rfl)) (Sl.refl _) Tryd.underlying71 (by rfl) (hi_g2 _))) (h := ?_)
      refine fG (i := 11) (dj := 90) (u := (.agg (cg2 (k0)))) (hl := by exact hl_2) (g := (gives_call (vl := []) (by kernel_rfl) (by rfl) (fun w h => by rw [hk0]; exact k2_gen w (hG.keep h.below)))) (h := ?_)
      refine fG (i := 12) (dj := 90) (hl := by exact hl_2) (g := (gives_load g3 0 60 (frc tot) (frc (tot)) _ (by rfl) (fun _ h => h.blk 4 (by rfl)) (Sl.refl _) Tryd.underlying60 (by rfl) (hi_fr _))) (h := ?_)
      refine fG (i := 13) (dj := 90) (hl := by exact hl_2) (g := (gives_call (vl := [.agg (cg2 (k0)), .agg (frc (tot))]) (by kernel_rfl) (by rfl) (fun w h => k2_gmul _ _ w (hG.keep h.below) (hR.keep h.below)))) (h := ?_)
      refine fG (i := 14) (dj := 90) (u := (.bool true)) (hl := by exact hl_2) (g := (gives_eql (cg2 (sm)) (cg2 (gMul F2.inv (k0) (tot))) true (by rfl) (by rfl) (by kernel_rfl) (fun w => eq_g2_t (d := 9995) w htot))) (h := ?_)
      refine fV (i := 15) (u := (.bool true)) (hl := by exact hl_2) (h := ?_)
      refine fV (i := 16) (u := (.bool true)) (hl := by exact hl_2) (h := ?_)
      refine fG (i := 17) (dj := 97) (u := (.slice (some ⟨g16, 0, none⟩) ((0 + n0) + 1) cap_9)) (hl := by exact hl_2) (g := gv) (h := ?_)
      refine fG (i := 18) (dj := 97) (hl := by exact hl_2) (g := (gives_call (vl := [.slice (some ⟨g16, 0, none⟩) ((0 + n0) + 1) cap_9]) (by kernel_rfl) (by rfl) (fun w h => k2_gsum _ _ _ (([] ++ qs) ++ [-sm]) w (hG.keep h.below) (hp_9.pts cg2_size (h.blk 0 (by rfl))) (by omega)))) (h := ?_)
      refine fG (i := 19) (dj := 97) (u := (.agg (cg2 (0 : Pt F2)))) (hl := by exact hl_2) (g := (gb_g2 [] trivial (by rfl) (cg2 (0 : Pt F2)) (by rfl))) (h := ?_)
      refine fG (i := 20) (dj := 97) (u := (.bool true)) (hl := by exact hl_2) (g := (gives_eql (cg2 (gSum F2.inv (([] ++ qs) ++ [-sm]))) (cg2 (0 : Pt F2)) true (by rfl) (by rfl) (by kernel_rfl) (fun w => eq_g2_t (d := 9995) w (gl_all ec2 F2.inv_zero hon hsm)))) (h := ?_)
      refine fV (i := 21) (u := (.bool true)) (hl := by exact hl_2) (h := ?_)
      refine fV (i := 22) (u := (.bool true)) (hl := by exact hl_2) (h := ?_)
      refine flow_done (by kernel_rfl) ?_
      intro w42 hw42
      refine wp_ret ?_
      change bodyPost _ _ _ Exit.ret _ _
      refine (ret_tmp (by rfl) (by exact hl_2) (by rfl) ⟨rfl, hw42.below⟩)
theorem g2_lists_any (A0 : Option Addr) (n0 c0 : Nat) (ps0 : List (List Int)) (a1 : Int) (v : World) (hG : Glo v) (hR : GloR v) (hH : GSh v) (hp0 : Scls v v.heap.size A0 n0 ps0) : Rets 6 #[.slice A0 n0 c0, .int .i64 a1] v (.bool true) := by
  by_cases hl : 6 < n0
  · exact g2_lists_long A0 n0 c0 ps0 a1 v hG hR hH hp0 hl
  · exact g2_lists_short A0 n0 c0 ps0 a1 v hG hR hH hp0 (by omega)
end Go.Proofs.YtialfoccalobpaaDoor
