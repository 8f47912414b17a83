/-
  fp2: the contracts.
-/
import Derived.Test.YtialfoccalobpaaDoorWDFlowE
namespace Go.Proofs.YtialfoccalobpaaDoor
set_option linter.unusedSimpArgs false
set_option linter.unusedVariables false
open Go.RowKit
attribute [local irreducible] wpL wpF fr Code.wp bodyPost
set_option maxRecDepth 100000 in
set_option maxHeartbeats 4000000 in
theorem q_add (x y : F2) (v : World) (hG : Glo0 v) : Rets 104 #[.agg (c2 (x)), .agg (c2 (y))] v (.agg (c2 (x + y))) := by
  refine calls_fr2 Tryd.func104 rfl (by rfl : _ = 16) (by rfl) ?_
  have hw := Hbl.nil v
  refine seq_plain hw [0, 1, 2] (by rfl) ?_
  refine L_box (.agg (c2 (x))) (by rfl) (by rfl) (by rfl) (c2 (x)) (by rfl) ?_; intro g1
  refine L_box (.agg (c2 (y))) (by rfl) (by rfl) (by rfl) (c2 (y)) (by rfl) ?_; intro g2
  refine L_alloc _ (by rfl) (by rfl) z_2 (c2 (0 : F2)) rfl ?_; intro g3
  refine L_end ?_
  intro w1 hw1
  refine seq_flow (by kernel_rfl) hw1 [] [(g2, 37, (c2 (y))), (g1, 37, (c2 (x)))] 12 (by rfl) ?_
  refine flow_take (i := 0) (.pointer (some ⟨g1, 0, none⟩)) (by rfl) (by kernel_rfl) (by kernel_rfl) (by kernel_rfl) (by rfl) (by kernel_rfl) (List.Sublist.cons _ (List.Sublist.refl _)) (gives_value _ fun _ => by kernel_rfl) ?_
  refine flow_take (i := 1) (.agg (pc ((x).a))) (by rfl) (by kernel_rfl) (by kernel_rfl) (by kernel_rfl) (by rfl) (by kernel_rfl) (List.Sublist.cons _ (List.Sublist.refl _)) (gives_load g1 0 37 (c2 (x)) (pc ((x).a)) _ (by rfl) (fun _ h => h.blk 1 (by rfl)) (sl_2a (x) _ _ (Sl.refl _)) Tryd.underlying35 (by rfl) (hi_1 _)) ?_
  refine flow_take (i := 2) (.pointer (some ⟨g2, 0, none⟩)) (by rfl) (by kernel_rfl) (by kernel_rfl) (by kernel_rfl) (by rfl) (by kernel_rfl) (List.Sublist.cons _ (List.Sublist.refl _)) (gives_value _ fun _ => by kernel_rfl) ?_
  refine flow_take (i := 3) (.agg (pc ((y).a))) (by rfl) (by kernel_rfl) (by kernel_rfl) (by kernel_rfl) (by rfl) (by kernel_rfl) (List.Sublist.cons _ (List.Sublist.refl _)) (gives_load g2 0 37 (c2 (y)) (pc ((y).a)) _ (by rfl) (fun _ h => h.blk 0 (by rfl)) (sl_2a (y) _ _ (Sl.refl _)) Tryd.underlying35 (by rfl) (hi_1 _)) ?_
  refine flow_take (i := 4) (.agg (pc (((x).a) + ((y).a)))) (by rfl) (by kernel_rfl) (by kernel_rfl) (by kernel_rfl) (by rfl) (by kernel_rfl) (List.Sublist.cons _ (List.Sublist.refl _)) (gives_call (vl := [.agg (pc ((x).a)), .agg (pc ((y).a))]) (by kernel_rfl) (by rfl) (fun w h => v_add _ _ w (hG.keep h.below))) ?_
  refine flow_take (i := 5) (.pointer (some ⟨g1, 6, none⟩)) (by rfl) (by kernel_rfl) (by kernel_rfl) (by kernel_rfl) (by rfl) (by kernel_rfl) (List.Sublist.cons _ (List.Sublist.refl _)) (gives_value _ fun _ => by kernel_rfl) ?_
  refine flow_take (i := 6) (.agg (pc ((x).b))) (by rfl) (by kernel_rfl) (by kernel_rfl) (by kernel_rfl) (by rfl) (by kernel_rfl) (List.Sublist.cons _ (List.Sublist.refl _)) (gives_load g1 6 37 (c2 (x)) (pc ((x).b)) _ (by rfl) (fun _ h => h.blk 1 (by rfl)) (sl_2b (x) _ _ 6 (Sl.refl _) (by rfl)) Tryd.underlying35 (by rfl) (hi_1 _)) ?_
  refine flow_take (i := 7) (.pointer (some ⟨g2, 6, none⟩)) (by rfl) (by kernel_rfl) (by kernel_rfl) (by kernel_rfl) (by rfl) (by kernel_rfl) (List.Sublist.cons _ (List.Sublist.refl _)) (gives_value _ fun _ => by kernel_rfl) ?_
  refine flow_take (i := 8) (.agg (pc ((y).b))) (by rfl) (by kernel_rfl) (by kernel_rfl) (by kernel_rfl) (by rfl) (by kernel_rfl) (List.Sublist.cons _ (List.Sublist.refl _)) (gives_load g2 6 37 (c2 (y)) (pc ((y).b)) _ (by rfl) (fun _ h => h.blk 0 (by rfl)) (sl_2b (y) _ _ 6 (Sl.refl _) (by rfl)) Tryd.underlying35 (by rfl) (hi_1 _)) ?_
  refine flow_take (i := 9) (.agg (pc (((x).b) + ((y).b)))) (by rfl) (by kernel_rfl) (by kernel_rfl) (by kernel_rfl) (by rfl) (by kernel_rfl) (List.Sublist.cons _ (List.Sublist.refl _)) (gives_call (vl := [.agg (pc ((x).b)), .agg (pc ((y).b))]) (by kernel_rfl) (by rfl) (fun w h => v_add _ _ w (hG.keep h.below))) ?_
  refine flow_take (i := 10) (.agg (c2 (⟨((x).a) + ((y).a), ((x).b) + ((y).b)⟩ : F2))) (by rfl) (by kernel_rfl) (by kernel_rfl) (by kernel_rfl) (by rfl) (by kernel_rfl) (List.Sublist.cons _ (List.Sublist.refl _)) (gb_fp2 [(0, (pc (((x).a) + ((y).a)))), (1, (pc (((x).b) + ((y).b))))] ⟨congrArg some (pc_size _).symm, congrArg some (pc_size _).symm, trivial⟩ (by rfl) (c2 (⟨((x).a) + ((y).a), ((x).b) + ((y).b)⟩ : F2)) (by rfl)) ?_
  refine flow_one 11 (by kernel_rfl) ?_
  refine F_store (t := 37) 0 g3 (c2 (0 : F2)) (c2 (⟨((x).a) + ((y).a), ((x).b) + ((y).b)⟩ : F2)) (by rfl) (by rfl) (by rfl) (by rfl) (by rfl) (hi_2 _) ((c2_size _).trans (c2_size _).symm) (c2_one _) (.inr (List.Sublist.cons _ (List.Sublist.refl _))) ?_
  simp only [List.set_cons_zero, List.set_cons_succ]
  refine flow_done (by kernel_rfl) ?_
  intro w2 hw2
  refine wp_ret ?_
  change bodyPost _ _ _ Exit.ret _ _
  refine (ret_cell (by rfl) (by rfl) (by rfl) (hw2.blk 0 (by rfl)) Tryd.underlying37 (by rfl) (hi_2 _) ⟨?_, hw2.below⟩)
  exact rfl
set_option maxRecDepth 100000 in
set_option maxHeartbeats 4000000 in
theorem q_sub (x y : F2) (v : World) (hG : Glo0 v) : Rets 139 #[.agg (c2 (x)), .agg (c2 (y))] v (.agg (c2 (x - y))) := by
  refine calls_fr2 Tryd.func139 rfl (by rfl : _ = 16) (by rfl) ?_
  have hw := Hbl.nil v
  refine seq_plain hw [0, 1, 2] (by rfl) ?_
  refine L_box (.agg (c2 (x))) (by rfl) (by rfl) (by rfl) (c2 (x)) (by rfl) ?_; intro g1
  refine L_box (.agg (c2 (y))) (by rfl) (by rfl) (by rfl) (c2 (y)) (by rfl) ?_; intro g2
  refine L_alloc _ (by rfl) (by rfl) z_2 (c2 (0 : F2)) rfl ?_; intro g3
  refine L_end ?_
  intro w1 hw1
  refine seq_flow (by kernel_rfl) hw1 [] [(g2, 37, (c2 (y))), (g1, 37, (c2 (x)))] 12 (by rfl) ?_
  refine flow_take (i := 0) (.pointer (some ⟨g1, 0, none⟩)) (by rfl) (by kernel_rfl) (by kernel_rfl) (by kernel_rfl) (by rfl) (by kernel_rfl) (List.Sublist.cons _ (List.Sublist.refl _)) (gives_value _ fun _ => by kernel_rfl) ?_
  refine flow_take (i := 1) (.agg (pc ((x).a))) (by rfl) (by kernel_rfl) (by kernel_rfl) (by kernel_rfl) (by rfl) (by kernel_rfl) (List.Sublist.cons _ (List.Sublist.refl _)) (gives_load g1 0 37 (c2 (x)) (pc ((x).a)) _ (by rfl) (fun _ h => h.blk 1 (by rfl)) (sl_2a (x) _ _ (Sl.refl _)) Tryd.underlying35 (by rfl) (hi_1 _)) ?_
  refine flow_take (i := 2) (.pointer (some ⟨g2, 0, none⟩)) (by rfl) (by kernel_rfl) (by kernel_rfl) (by kernel_rfl) (by rfl) (by kernel_rfl) (List.Sublist.cons _ (List.Sublist.refl _)) (gives_value _ fun _ => by kernel_rfl) ?_
  refine flow_take (i := 3) (.agg (pc ((y).a))) (by rfl) (by kernel_rfl) (by kernel_rfl) (by kernel_rfl) (by rfl) (by kernel_rfl) (List.Sublist.cons _ (List.Sublist.refl _)) (gives_load g2 0 37 (c2 (y)) (pc ((y).a)) _ (by rfl) (fun _ h => h.blk 0 (by rfl)) (sl_2a (y) _ _ (Sl.refl _)) Tryd.underlying35 (by rfl) (hi_1 _)) ?_
  refine flow_take (i := 4) (.agg (pc (((x).a) - ((y).a)))) (by rfl) (by kernel_rfl) (by kernel_rfl) (by kernel_rfl) (by rfl) (by kernel_rfl) (List.Sublist.cons _ (List.Sublist.refl _)) (gives_call (vl := [.agg (pc ((x).a)), .agg (pc ((y).a))]) (by kernel_rfl) (by rfl) (fun w h => v_sub _ _ w (hG.keep h.below))) ?_
  refine flow_take (i := 5) (.pointer (some ⟨g1, 6, none⟩)) (by rfl) (by kernel_rfl) (by kernel_rfl) (by kernel_rfl) (by rfl) (by kernel_rfl) (List.Sublist.cons _ (List.Sublist.refl _)) (gives_value _ fun _ => by kernel_rfl) ?_
  refine flow_take (i := 6) (.agg (pc ((x).b))) (by rfl) (by kernel_rfl) (by kernel_rfl) (by kernel_rfl) (by rfl) (by kernel_rfl) (List.Sublist.cons _ (List.Sublist.refl _)) (gives_load g1 6 37 (c2 (x)) (pc ((x).b)) _ (by rfl) (fun _ h => h.blk 1 (by rfl)) (sl_2b (x) _ _ 6 (Sl.refl _) (by rfl)) Tryd.underlying35 (by rfl) (hi_1 _)) ?_
  refine flow_take (i := 7) (.pointer (some ⟨g2, 6, none⟩)) (by rfl) (by kernel_rfl) (by kernel_rfl) (by kernel_rfl) (by rfl) (by kernel_rfl) (List.Sublist.cons _ (List.Sublist.refl _)) (gives_value _ fun _ => by kernel_rfl) ?_
  refine flow_take (i := 8) (.agg (pc ((y).b))) (by rfl) (by kernel_rfl) (by kernel_rfl) (by kernel_rfl) (by rfl) (by kernel_rfl) (List.Sublist.cons _ (List.Sublist.refl _)) (gives_load g2 6 37 (c2 (y)) (pc ((y).b)) _ (by rfl) (fun _ h => h.blk 0 (by rfl)) (sl_2b (y) _ _ 6 (Sl.refl _) (by rfl)) Tryd.underlying35 (by rfl) (hi_1 _)) ?_
  refine flow_take (i := 9) (.agg (pc (((x).b) - ((y).b)))) (by rfl) (by kernel_rfl) (by kernel_rfl) (by kernel_rfl) (by rfl) (by kernel_rfl) (List.Sublist.cons _ (List.Sublist.refl _)) (gives_call (vl := [.agg (pc ((x).b)), .agg (pc ((y).b))]) (by kernel_rfl) (by rfl) (fun w h => v_sub _ _ w (hG.keep h.below))) ?_
  refine flow_take (i := 10) (.agg (c2 (⟨((x).a) - ((y).a), ((x).b) - ((y).b)⟩ : F2))) (by rfl) (by kernel_rfl) (by kernel_rfl) (by kernel_rfl) (by rfl) (by kernel_rfl) (List.Sublist.cons _ (List.Sublist.refl _)) (gb_fp2 [(0, (pc (((x).a) - ((y).a)))), (1, (pc (((x).b) - ((y).b))))] ⟨congrArg some (pc_size _).symm, congrArg some (pc_size _).symm, trivial⟩ (by rfl) (c2 (⟨((x).a) - ((y).a), ((x).b) - ((y).b)⟩ : F2)) (by rfl)) ?_
  refine flow_one 11 (by kernel_rfl) ?_
  refine F_store (t := 37) 0 g3 (c2 (0 : F2)) (c2 (⟨((x).a) - ((y).a), ((x).b) - ((y).b)⟩ : F2)) (by rfl) (by rfl) (by rfl) (by rfl) (by rfl) (hi_2 _) ((c2_size _).trans (c2_size _).symm) (c2_one _) (.inr (List.Sublist.cons _ (List.Sublist.refl _))) ?_
  simp only [List.set_cons_zero, List.set_cons_succ]
  refine flow_done (by kernel_rfl) ?_
  intro w2 hw2
  refine wp_ret ?_
  change bodyPost _ _ _ Exit.ret _ _
  refine (ret_cell (by rfl) (by rfl) (by rfl) (hw2.blk 0 (by rfl)) Tryd.underlying37 (by rfl) (hi_2 _) ⟨?_, hw2.below⟩)
  exact rfl
set_option maxRecDepth 100000 in
set_option maxHeartbeats 4000000 in
theorem q_mul (x y : F2) (v : World) (hG : Glo0 v) : Rets 133 #[.agg (c2 (x)), .agg (c2 (y))] v (.agg (c2 (x * y))) := by
  refine calls_fr2 Tryd.func133 rfl (by rfl : _ = 38) (by rfl) ?_
  have hw := Hbl.nil v
  refine seq_plain hw [0, 1, 2] (by rfl) ?_
  refine L_box (.agg (c2 (x))) (by rfl) (by rfl) (by rfl) (c2 (x)) (by rfl) ?_; intro g1
  refine L_box (.agg (c2 (y))) (by rfl) (by rfl) (by rfl) (c2 (y)) (by rfl) ?_; intro g2
  refine L_alloc _ (by rfl) (by rfl) z_2 (c2 (0 : F2)) rfl ?_; intro g3
  refine L_end ?_
  intro w1 hw1
  refine seq_flow_to (fun a w => ∃ g_5 g_6, a = fr 38 [(5, .pointer (some ⟨g_5, 0, none⟩)), (6, .pointer (some ⟨g_6, 0, none⟩)), (17, .agg (pc (((x).b) * ((y).b)))), (16, .agg (pc ((y).b))), (15, .pointer (some ⟨g2, 6, none⟩)), (14, .agg (pc ((x).b))), (13, .pointer (some ⟨g1, 6, none⟩)), (12, .agg (pc (((x).a) * ((y).a)))), (11, .agg (pc ((y).a))), (10, .pointer (some ⟨g2, 0, none⟩)), (9, .agg (pc ((x).a))), (8, .pointer (some ⟨g1, 0, none⟩)), (4, .pointer (some ⟨g3, 0, none⟩)), (3, .pointer (some ⟨g2, 0, none⟩)), (2, .pointer (some ⟨g1, 0, none⟩)), (1, .agg (c2 (y))), (0, .agg (c2 (x)))] ∧ Hbl v [(g_5, 35, (pc (((x).a) * ((y).a)))), (g_6, 35, (pc (((x).b) * ((y).b)))), (g3, 37, (c2 (0 : F2))), (g2, 37, (c2 (y))), (g1, 37, (c2 (x)))] w) (by kernel_rfl) hw1 [] [(g3, 37, (c2 (0 : F2))), (g2, 37, (c2 (y))), (g1, 37, (c2 (x)))] 14 (by rfl) ?_ ?_
  ·
    refine flow_take (i := 0) (.pointer (some ⟨g1, 0, none⟩)) (by rfl) (by kernel_rfl) (by kernel_rfl) (by kernel_rfl) (by rfl) (by kernel_rfl) (List.Sublist.refl _) (gives_value _ fun _ => by kernel_rfl) ?_
    refine flow_take (i := 1) (.agg (pc ((x).a))) (by rfl) (by kernel_rfl) (by kernel_rfl) (by kernel_rfl) (by rfl) (by kernel_rfl) (List.Sublist.refl _) (gives_load g1 0 37 (c2 (x)) (pc ((x).a)) _ (by rfl) (fun _ h => h.blk 2 (by rfl)) (sl_2a (x) _ _ (Sl.refl _)) Tryd.underlying35 (by rfl) (hi_1 _)) ?_
    refine flow_take (i := 2) (.pointer (some ⟨g2, 0, none⟩)) (by rfl) (by kernel_rfl) (by kernel_rfl) (by kernel_rfl) (by rfl) (by kernel_rfl) (List.Sublist.refl _) (gives_value _ fun _ => by kernel_rfl) ?_
    refine flow_take (i := 3) (.agg (pc ((y).a))) (by rfl) (by kernel_rfl) (by kernel_rfl) (by kernel_rfl) (by rfl) (by kernel_rfl) (List.Sublist.refl _) (gives_load g2 0 37 (c2 (y)) (pc ((y).a)) _ (by rfl) (fun _ h => h.blk 1 (by rfl)) (sl_2a (y) _ _ (Sl.refl _)) Tryd.underlying35 (by rfl) (hi_1 _)) ?_
    refine flow_take (i := 4) (.agg (pc (((x).a) * ((y).a)))) (by rfl) (by kernel_rfl) (by kernel_rfl) (by kernel_rfl) (by rfl) (by kernel_rfl) (List.Sublist.refl _) (gives_call (vl := [.agg (pc ((x).a)), .agg (pc ((y).a))]) (by kernel_rfl) (by rfl) (fun w h => v_mul _ _ w (hG.keep h.below))) ?_
    refine flow_take (i := 5) (.pointer (some ⟨g1, 6, none⟩)) (by rfl) (by kernel_rfl) (by kernel_rfl) (by kernel_rfl) (by rfl) (by kernel_rfl) (List.Sublist.refl _) (gives_value _ fun _ => by kernel_rfl) ?_
    refine flow_take (i := 6) (.agg (pc ((x).b))) (by rfl) (by kernel_rfl) (by kernel_rfl) (by kernel_rfl) (by rfl) (by kernel_rfl) (List.Sublist.refl _) (gives_load g1 6 37 (c2 (x)) (pc ((x).b)) _ (by rfl) (fun _ h => h.blk 2 (by rfl)) (sl_2b (x) _ _ 6 (Sl.refl _) (by rfl)) Tryd.underlying35 (by rfl) (hi_1 _)) ?_
    refine flow_take (i := 7) (.pointer (some ⟨g2, 6, none⟩)) (by rfl) (by kernel_rfl) (by kernel_rfl) (by kernel_rfl) (by rfl) (by kernel_rfl) (List.Sublist.refl _) (gives_value _ fun _ => by kernel_rfl) ?_
    refine flow_take (i := 8) (.agg (pc ((y).b))) (by rfl) (by kernel_rfl) (by kernel_rfl) (by kernel_rfl) (by rfl) (by kernel_rfl) (List.Sublist.refl _) (gives_load g2 6 37 (c2 (y)) (pc ((y).b)) _ (by rfl) (fun _ h => h.blk 1 (by rfl)) (sl_2b (y) _ _ 6 (Sl.refl _) (by rfl)) Tryd.underlying35 (by rfl) (hi_1 _)) ?_
    refine flow_take (i := 9) (.agg (pc (((x).b) * ((y).b)))) (by rfl) (by kernel_rfl) (by kernel_rfl) (by kernel_rfl) (by rfl) (by kernel_rfl) (List.Sublist.refl _) (gives_call (vl := [.agg (pc ((x).b)), .agg (pc ((y).b))]) (by kernel_rfl) (by rfl) (fun w h => v_mul _ _ w (hG.keep h.below))) ?_
    refine flow_two 10 11 (by kernel_rfl) ?_ ?_
    ·
      refine F_alloc _ (by rfl) (by rfl) z_1 (pc (0 : Fp)) rfl (List.Sublist.refl _) ?_; intro g_5
      refine flow_one 11 (by kernel_rfl) ?_
      refine F_alloc _ (by rfl) (by rfl) z_1 (pc (0 : Fp)) rfl (List.Sublist.cons _ (List.Sublist.refl _)) ?_; intro g_6
      refine flow_one 12 (by kernel_rfl) ?_
      refine F_store (t := 35) 1 g_5 (pc (0 : Fp)) (pc (((x).a) * ((y).a))) (by rfl) (by rfl) (by rfl) (by rfl) (by rfl) (hi_1 _) ((pc_size _).trans (pc_size _).symm) (pc_one _) (.inr (List.Sublist.cons _ (List.Sublist.cons _ (List.Sublist.refl _)))) ?_
      simp only [List.set_cons_zero, List.set_cons_succ]
      refine flow_one 13 (by kernel_rfl) ?_
      refine F_store (t := 35) 0 g_6 (pc (0 : Fp)) (pc (((x).b) * ((y).b))) (by rfl) (by rfl) (by rfl) (by rfl) (by rfl) (hi_1 _) ((pc_size _).trans (pc_size _).symm) (pc_one _) (.inr (List.Sublist.cons _ (List.Sublist.cons _ (List.Sublist.refl _)))) ?_
      simp only [List.set_cons_zero, List.set_cons_succ]
      refine flow_done (by kernel_rfl) ?_
      intro wz hz
      exact ⟨g_5, g_6, ((fr_comm _ _ _ _ (by decide))), hz.perm (List.Perm.swap _ _ _)⟩
    ·
      refine F_alloc _ (by rfl) (by rfl) z_1 (pc (0 : Fp)) rfl (List.Sublist.refl _) ?_; intro g_6
      refine flow_one 10 (by kernel_rfl) ?_
      refine F_alloc _ (by rfl) (by rfl) z_1 (pc (0 : Fp)) rfl (List.Sublist.cons _ (List.Sublist.refl _)) ?_; intro g_5
      refine flow_one 12 (by kernel_rfl) ?_
      refine F_store (t := 35) 0 g_5 (pc (0 : Fp)) (pc (((x).a) * ((y).a))) (by rfl) (by rfl) (by rfl) (by rfl) (by rfl) (hi_1 _) ((pc_size _).trans (pc_size _).symm) (pc_one _) (.inr (List.Sublist.cons _ (List.Sublist.cons _ (List.Sublist.refl _)))) ?_
      simp only [List.set_cons_zero, List.set_cons_succ]
      refine flow_one 13 (by kernel_rfl) ?_
      refine F_store (t := 35) 1 g_6 (pc (0 : Fp)) (pc (((x).b) * ((y).b))) (by rfl) (by rfl) (by rfl) (by rfl) (by rfl) (hi_1 _) ((pc_size _).trans (pc_size _).symm) (pc_one _) (.inr (List.Sublist.cons _ (List.Sublist.cons _ (List.Sublist.refl _)))) ?_
      simp only [List.set_cons_zero, List.set_cons_succ]
      refine flow_done (by kernel_rfl) ?_
      intro wz hz
      exact ⟨g_5, g_6, rfl, hz.perm (List.Perm.refl _)⟩
  ·
    rintro a0 w2 ⟨g4, g5, rfl, hw2⟩
    refine seq_flow (by kernel_rfl) hw2 [] [(g4, 35, (pc (((x).a) * ((y).a)))), (g5, 35, (pc (((x).b) * ((y).b)))), (g3, 37, (c2 (0 : F2))), (g2, 37, (c2 (y))), (g1, 37, (c2 (x)))] 13 (by rfl) ?_
    refine flow_take (i := 0) (.pointer (some ⟨g1, 0, none⟩)) (by rfl) (by kernel_rfl) (by kernel_rfl) (by kernel_rfl) (by rfl) (by kernel_rfl) (List.Sublist.refl _) (gives_value _ fun _ => by kernel_rfl) ?_
    refine flow_take (i := 1) (.agg (pc ((x).a))) (by rfl) (by kernel_rfl) (by kernel_rfl) (by kernel_rfl) (by rfl) (by kernel_rfl) (List.Sublist.refl _) (gives_load g1 0 37 (c2 (x)) (pc ((x).a)) _ (by rfl) (fun _ h => h.blk 4 (by rfl)) (sl_2a (x) _ _ (Sl.refl _)) Tryd.underlying35 (by rfl) (hi_1 _)) ?_
    refine flow_take (i := 2) (.pointer (some ⟨g1, 6, none⟩)) (by rfl) (by kernel_rfl) (by kernel_rfl) (by kernel_rfl) (by rfl) (by kernel_rfl) (List.Sublist.refl _) (gives_value _ fun _ => by kernel_rfl) ?_
    refine flow_take (i := 3) (.agg (pc ((x).b))) (by rfl) (by kernel_rfl) (by kernel_rfl) (by kernel_rfl) (by rfl) (by kernel_rfl) (List.Sublist.refl _) (gives_load g1 6 37 (c2 (x)) (pc ((x).b)) _ (by rfl) (fun _ h => h.blk 4 (by rfl)) (sl_2b (x) _ _ 6 (Sl.refl _) (by rfl)) Tryd.underlying35 (by rfl) (hi_1 _)) ?_
    refine flow_take (i := 4) (.agg (pc (((x).a) + ((x).b)))) (by rfl) (by kernel_rfl) (by kernel_rfl) (by kernel_rfl) (by rfl) (by kernel_rfl) (List.Sublist.refl _) (gives_call (vl := [.agg (pc ((x).a)), .agg (pc ((x).b))]) (by kernel_rfl) (by rfl) (fun w h => v_add _ _ w (hG.keep h.below))) ?_
    refine flow_take (i := 5) (.pointer (some ⟨g2, 0, none⟩)) (by rfl) (by kernel_rfl) (by kernel_rfl) (by kernel_rfl) (by rfl) (by kernel_rfl) (List.Sublist.refl _) (gives_value _ fun _ => by kernel_rfl) ?_
    refine flow_take (i := 6) (.agg (pc ((y).a))) (by rfl) (by kernel_rfl) (by kernel_rfl) (by kernel_rfl) (by rfl) (by kernel_rfl) (List.Sublist.refl _) (gives_load g2 0 37 (c2 (y)) (pc ((y).a)) _ (by rfl) (fun _ h => h.blk 3 (by rfl)) (sl_2a (y) _ _ (Sl.refl _)) Tryd.underlying35 (by rfl) (hi_1 _)) ?_
    refine flow_take (i := 7) (.pointer (some ⟨g2, 6, none⟩)) (by rfl) (by kernel_rfl) (by kernel_rfl) (by kernel_rfl) (by rfl) (by kernel_rfl) (List.Sublist.refl _) (gives_value _ fun _ => by kernel_rfl) ?_
    refine flow_take (i := 8) (.agg (pc ((y).b))) (by rfl) (by kernel_rfl) (by kernel_rfl) (by kernel_rfl) (by rfl) (by kernel_rfl) (List.Sublist.refl _) (gives_load g2 6 37 (c2 (y)) (pc ((y).b)) _ (by rfl) (fun _ h => h.blk 3 (by rfl)) (sl_2b (y) _ _ 6 (Sl.refl _) (by rfl)) Tryd.underlying35 (by rfl) (hi_1 _)) ?_
    refine flow_take (i := 9) (.agg (pc (((y).a) + ((y).b)))) (by rfl) (by kernel_rfl) (by kernel_rfl) (by kernel_rfl) (by rfl) (by kernel_rfl) (List.Sublist.refl _) (gives_call (vl := [.agg (pc ((y).a)), .agg (pc ((y).b))]) (by kernel_rfl) (by rfl) (fun w h => v_add _ _ w (hG.keep h.below))) ?_
    refine flow_take (i := 10) (.agg (pc ((((x).a) + ((x).b)) * (((y).a) + ((y).b))))) (by rfl) (by kernel_rfl) (by kernel_rfl) (by kernel_rfl) (by rfl) (by kernel_rfl) (List.Sublist.refl _) (gives_call (vl := [.agg (pc (((x).a) + ((x).b))), .agg (pc (((y).a) + ((y).b)))]) (by kernel_rfl) (by rfl) (fun w h => v_mul _ _ w (hG.keep h.below))) ?_
    refine flow_one 11 (by kernel_rfl) ?_
    refine F_alloc _ (by rfl) (by rfl) z_1 (pc (0 : Fp)) rfl (List.Sublist.refl _) ?_; intro g6
    refine flow_one 12 (by kernel_rfl) ?_
    refine F_store (t := 35) 0 g6 (pc (0 : Fp)) (pc ((((x).a) + ((x).b)) * (((y).a) + ((y).b)))) (by rfl) (by rfl) (by rfl) (by rfl) (by rfl) (hi_1 _) ((pc_size _).trans (pc_size _).symm) (pc_one _) (.inr (List.Sublist.cons _ (List.Sublist.refl _))) ?_
    simp only [List.set_cons_zero, List.set_cons_succ]
    refine flow_done (by kernel_rfl) ?_
    intro w3 hw3
    refine seq_flow (by kernel_rfl) hw3 [] [(g6, 35, (pc ((((x).a) + ((x).b)) * (((y).a) + ((y).b))))), (g4, 35, (pc (((x).a) * ((y).a)))), (g5, 35, (pc (((x).b) * ((y).b)))), (g2, 37, (c2 (y))), (g1, 37, (c2 (x)))] 10 (by rfl) ?_
    refine flow_take (i := 0) (.agg (pc (((x).a) * ((y).a)))) (by rfl) (by kernel_rfl) (by kernel_rfl) (by kernel_rfl) (by rfl) (by kernel_rfl) (List.Sublist.cons_cons _ (List.Sublist.cons_cons _ (List.Sublist.cons_cons _ (List.Sublist.cons _ (List.Sublist.refl _))))) (gives_load g4 0 35 (pc (((x).a) * ((y).a))) (pc (((x).a) * ((y).a))) _ (by rfl) (fun _ h => h.blk 1 (by rfl)) (Sl.refl _) Tryd.underlying35 (by rfl) (hi_1 _)) ?_
    refine flow_take (i := 1) (.agg (pc (((x).b) * ((y).b)))) (by rfl) (by kernel_rfl) (by kernel_rfl) (by kernel_rfl) (by rfl) (by kernel_rfl) (List.Sublist.cons_cons _ (List.Sublist.cons_cons _ (List.Sublist.cons_cons _ (List.Sublist.cons _ (List.Sublist.refl _))))) (gives_load g5 0 35 (pc (((x).b) * ((y).b))) (pc (((x).b) * ((y).b))) _ (by rfl) (fun _ h => h.blk 2 (by rfl)) (Sl.refl _) Tryd.underlying35 (by rfl) (hi_1 _)) ?_
    refine flow_take (i := 2) (.agg (pc ((((x).a) * ((y).a)) - (((x).b) * ((y).b))))) (by rfl) (by kernel_rfl) (by kernel_rfl) (by kernel_rfl) (by rfl) (by kernel_rfl) (List.Sublist.cons_cons _ (List.Sublist.cons_cons _ (List.Sublist.cons_cons _ (List.Sublist.cons _ (List.Sublist.refl _))))) (gives_call (vl := [.agg (pc (((x).a) * ((y).a))), .agg (pc (((x).b) * ((y).b)))]) (by kernel_rfl) (by rfl) (fun w h => v_sub _ _ w (hG.keep h.below))) ?_
    refine flow_take (i := 3) (.agg (pc ((((x).a) + ((x).b)) * (((y).a) + ((y).b))))) (by rfl) (by kernel_rfl) (by kernel_rfl) (by kernel_rfl) (by rfl) (by kernel_rfl) (List.Sublist.cons_cons _ (List.Sublist.cons_cons _ (List.Sublist.cons_cons _ (List.Sublist.cons _ (List.Sublist.refl _))))) (gives_load g6 0 35 (pc ((((x).a) + ((x).b)) * (((y).a) + ((y).b)))) (pc ((((x).a) + ((x).b)) * (((y).a) + ((y).b)))) _ (by rfl) (fun _ h => h.blk 0 (by rfl)) (Sl.refl _) Tryd.underlying35 (by rfl) (hi_1 _)) ?_
    refine flow_take (i := 4) (.agg (pc (((x).a) * ((y).a)))) (by rfl) (by kernel_rfl) (by kernel_rfl) (by kernel_rfl) (by rfl) (by kernel_rfl) (List.Sublist.cons_cons _ (List.Sublist.cons_cons _ (List.Sublist.cons_cons _ (List.Sublist.cons _ (List.Sublist.refl _))))) (gives_load g4 0 35 (pc (((x).a) * ((y).a))) (pc (((x).a) * ((y).a))) _ (by rfl) (fun _ h => h.blk 1 (by rfl)) (Sl.refl _) Tryd.underlying35 (by rfl) (hi_1 _)) ?_
    refine flow_take (i := 5) (.agg (pc (((((x).a) + ((x).b)) * (((y).a) + ((y).b))) - (((x).a) * ((y).a))))) (by rfl) (by kernel_rfl) (by kernel_rfl) (by kernel_rfl) (by rfl) (by kernel_rfl) (List.Sublist.cons_cons _ (List.Sublist.cons_cons _ (List.Sublist.cons_cons _ (List.Sublist.cons _ (List.Sublist.refl _))))) (gives_call (vl := [.agg (pc ((((x).a) + ((x).b)) * (((y).a) + ((y).b)))), .agg (pc (((x).a) * ((y).a)))]) (by kernel_rfl) (by rfl) (fun w h => v_sub _ _ w (hG.keep h.below))) ?_
    refine flow_take (i := 6) (.agg (pc (((x).b) * ((y).b)))) (by rfl) (by kernel_rfl) (by kernel_rfl) (by kernel_rfl) (by rfl) (by kernel_rfl) (List.Sublist.cons_cons _ (List.Sublist.cons_cons _ (List.Sublist.cons_cons _ (List.Sublist.cons _ (List.Sublist.refl _))))) (gives_load g5 0 35 (pc (((x).b) * ((y).b))) (pc (((x).b) * ((y).b))) _ (by rfl) (fun _ h => h.blk 2 (by rfl)) (Sl.refl _) Tryd.underlying35 (by rfl) (hi_1 _)) ?_
    refine flow_take (i := 7) (.agg (pc ((((((x).a) + ((x).b)) * (((y).a) + ((y).b))) - (((x).a) * ((y).a))) - (((x).b) * ((y).b))))) (by rfl) (by kernel_rfl) (by kernel_rfl) (by kernel_rfl) (by rfl) (by kernel_rfl) (List.Sublist.cons_cons _ (List.Sublist.cons_cons _ (List.Sublist.cons_cons _ (List.Sublist.cons _ (List.Sublist.refl _))))) (gives_call (vl := [.agg (pc (((((x).a) + ((x).b)) * (((y).a) + ((y).b))) - (((x).a) * ((y).a)))), .agg (pc (((x).b) * ((y).b)))]) (by kernel_rfl) (by rfl) (fun w h => v_sub _ _ w (hG.keep h.below))) ?_
    refine flow_take (i := 8) (.agg (c2 (⟨(((x).a) * ((y).a)) - (((x).b) * ((y).b)), (((((x).a) + ((x).b)) * (((y).a) + ((y).b))) - (((x).a) * ((y).a))) - (((x).b) * ((y).b))⟩ : F2))) (by rfl) (by kernel_rfl) (by kernel_rfl) (by kernel_rfl) (by rfl) (by kernel_rfl) (List.Sublist.cons_cons _ (List.Sublist.cons_cons _ (List.Sublist.cons_cons _ (List.Sublist.cons _ (List.Sublist.refl _))))) (gb_fp2 [(0, (pc ((((x).a) * ((y).a)) - (((x).b) * ((y).b))))), (1, (pc ((((((x).a) + ((x).b)) * (((y).a) + ((y).b))) - (((x).a) * ((y).a))) - (((x).b) * ((y).b)))))] ⟨congrArg some (pc_size _).symm, congrArg some (pc_size _).symm, trivial⟩ (by rfl) (c2 (⟨(((x).a) * ((y).a)) - (((x).b) * ((y).b)), (((((x).a) + ((x).b)) * (((y).a) + ((y).b))) - (((x).a) * ((y).a))) - (((x).b) * ((y).b))⟩ : F2)) (by rfl)) ?_
    refine flow_one 9 (by kernel_rfl) ?_
    refine F_store (t := 37) 3 g3 (c2 (0 : F2)) (c2 (⟨(((x).a) * ((y).a)) - (((x).b) * ((y).b)), (((((x).a) + ((x).b)) * (((y).a) + ((y).b))) - (((x).a) * ((y).a))) - (((x).b) * ((y).b))⟩ : F2)) (by rfl) (by rfl) (by rfl) (by rfl) (by rfl) (hi_2 _) ((c2_size _).trans (c2_size _).symm) (c2_one _) (.inr (List.Sublist.cons_cons _ (List.Sublist.cons_cons _ (List.Sublist.cons_cons _ (List.Sublist.cons _ (List.Sublist.refl _)))))) ?_
    simp only [List.set_cons_zero, List.set_cons_succ]
    refine flow_done (by kernel_rfl) ?_
    intro w4 hw4
    refine wp_ret ?_
    change bodyPost _ _ _ Exit.ret _ _
    refine (ret_cell (by rfl) (by rfl) (by rfl) (hw4.blk 3 (by rfl)) Tryd.underlying37 (by rfl) (hi_2 _) ⟨?_, hw4.below⟩)
    refine congrArg (fun z : F2 => Ending.returned (.agg (c2 z))) ?_
    apply F2.same <;> simp only [F2.mul_a, F2.mul_b] <;> grind
/-- x times a number of the field beneath. -/
def F2.scale (x : F2) (k : Fp) : F2 := ⟨x.a * k, x.b * k⟩
/-- Small numbers. -/
def F2.sm (a b : Int) : F2 := ⟨Fp.n a, Fp.n b⟩
set_option maxRecDepth 100000 in
set_option maxHeartbeats 4000000 in
theorem q_small (m n : Int) (v : World) (hG : Glo0 v) (hm0 : 0 ≤ m) (hm : m < Wd) (hn0 : 0 ≤ n) (hn : n < Wd) : Rets 89 #[.int .u64 m, .int .u64 n] v (.agg (c2 (F2.sm m n))) := by
  refine calls_fr2 Tryd.func89 rfl (by rfl : _ = 10) (by rfl) ?_
  have hw := Hbl.nil v
  refine seq_plain hw [0] (by rfl) ?_
  refine L_alloc _ (by rfl) (by rfl) z_2 (c2 (0 : F2)) rfl ?_; intro g1
  refine L_end ?_
  intro w1 hw1
  refine seq_plain hw1 [0, 1, 2, 3, 4, 5] (by rfl) ?_
  refine L_val (.int .u64 m) (by rfl) (by rfl) (gives_value _ fun _ => by rfl) ?_
  refine L_val (.agg (pc (Fp.n m))) (by rfl) (by rfl) (gives_call (vl := [.int .u64 m]) (by kernel_rfl) (by rfl) (fun w h => v_of _ w (hG.keep h.below) hm0 hm)) ?_
  refine L_val (.int .u64 n) (by rfl) (by rfl) (gives_value _ fun _ => by rfl) ?_
  refine L_val (.agg (pc (Fp.n n))) (by rfl) (by rfl) (gives_call (vl := [.int .u64 n]) (by kernel_rfl) (by rfl) (fun w h => v_of _ w (hG.keep h.below) hn0 hn)) ?_
  refine L_val (.agg (c2 (⟨Fp.n m, Fp.n n⟩ : F2))) (by rfl) (by rfl) (gb_fp2 [(0, (pc (Fp.n m))), (1, (pc (Fp.n n)))] ⟨congrArg some (pc_size _).symm, congrArg some (pc_size _).symm, trivial⟩ (by rfl) (c2 (⟨Fp.n m, Fp.n n⟩ : F2)) (by rfl)) ?_
  refine L_store (t := 37) 0 g1 (c2 (0 : F2)) (c2 (⟨Fp.n m, Fp.n n⟩ : F2)) (by rfl) (by rfl) (by rfl) (by rfl) (by rfl) (hi_2 _) ((c2_size _).trans (c2_size _).symm) (c2_one _) ?_
  simp only [List.set_cons_zero, List.set_cons_succ]
  refine L_end ?_
  intro w2 hw2
  refine wp_ret ?_
  change bodyPost _ _ _ Exit.ret _ _
  refine (ret_cell (by rfl) (by rfl) (by rfl) (hw2.blk 0 (by rfl)) Tryd.underlying37 (by rfl) (hi_2 _) ⟨?_, hw2.below⟩)
  exact rfl
end Go.Proofs.YtialfoccalobpaaDoor
