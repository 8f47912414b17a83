/-
  Layer 6's contracts: the numbers of the third and of the twelfth degree.
-/
import Derived.Test.YtialfoccalobpaaDoorWDTw
namespace Go.Proofs.YtialfoccalobpaaDoor
set_option linter.unusedSimpArgs false
set_option linter.unusedVariables false
open Go.RowKit
attribute [local irreducible] wpL wpF fr Code.wp bodyPost
set_option maxRecDepth 100000 in
set_option maxHeartbeats 4000000 in
theorem t_carried (x : F2) (v : World) (hG : Glo v) : Rets 140 #[.agg (c2 (x))] v (.agg (c2 x.up)) := by
  refine calls_fr1 Tryd.func140 rfl (by rfl : _ = 14) (by rfl) ?_
  have hw := Hbl.nil v
  refine seq_plain hw [0, 1] (by rfl) ?_
  refine L_box (.agg (c2 (x))) (by rfl) (by rfl) (by rfl) (c2 (x)) (by rfl) ?_; intro g1
  refine L_alloc _ (by rfl) (by rfl) z_2 (c2 (0 : F2)) rfl ?_; intro g2
  refine L_end ?_
  intro w1 hw1
  refine seq_flow (by kernel_rfl) hw1 [] [(g1, 37, (c2 (x)))] 12 (by rfl) ?_
  refine flow_take (i := 0) (.pointer (some ⟨g1, 0, none⟩)) (by rfl) (by kernel_rfl) (by kernel_rfl) (by kernel_rfl) (by rfl) (by kernel_rfl) (List.Sublist.cons _ (List.Sublist.refl _)) (gives_value _ fun _ => by kernel_rfl) ?_
  refine flow_take (i := 1) (.agg (pc ((x).a))) (by rfl) (by kernel_rfl) (by kernel_rfl) (by kernel_rfl) (by rfl) (by kernel_rfl) (List.Sublist.cons _ (List.Sublist.refl _)) (gives_load g1 0 37 (c2 (x)) (pc ((x).a)) _ (by rfl) (fun _ h => h.blk 0 (by rfl)) (sl_2a (x) _ _ (Sl.refl _)) Tryd.underlying35 (by rfl) (hi_1 _)) ?_
  refine flow_take (i := 2) (.pointer (some ⟨g1, 6, none⟩)) (by rfl) (by kernel_rfl) (by kernel_rfl) (by kernel_rfl) (by rfl) (by kernel_rfl) (List.Sublist.cons _ (List.Sublist.refl _)) (gives_value _ fun _ => by kernel_rfl) ?_
  refine flow_take (i := 3) (.agg (pc ((x).b))) (by rfl) (by kernel_rfl) (by kernel_rfl) (by kernel_rfl) (by rfl) (by kernel_rfl) (List.Sublist.cons _ (List.Sublist.refl _)) (gives_load g1 6 37 (c2 (x)) (pc ((x).b)) _ (by rfl) (fun _ h => h.blk 0 (by rfl)) (sl_2b (x) _ _ 6 (Sl.refl _) (by rfl)) Tryd.underlying35 (by rfl) (hi_1 _)) ?_
  refine flow_take (i := 4) (.agg (pc (((x).a) - ((x).b)))) (by rfl) (by kernel_rfl) (by kernel_rfl) (by kernel_rfl) (by rfl) (by kernel_rfl) (List.Sublist.cons _ (List.Sublist.refl _)) (gives_call (vl := [.agg (pc ((x).a)), .agg (pc ((x).b))]) (by kernel_rfl) (by rfl) (fun w h => v_sub _ _ w (hG.keep h.below))) ?_
  refine flow_take (i := 5) (.pointer (some ⟨g1, 0, none⟩)) (by rfl) (by kernel_rfl) (by kernel_rfl) (by kernel_rfl) (by rfl) (by kernel_rfl) (List.Sublist.cons _ (List.Sublist.refl _)) (gives_value _ fun _ => by kernel_rfl) ?_
  refine flow_take (i := 6) (.agg (pc ((x).a))) (by rfl) (by kernel_rfl) (by kernel_rfl) (by kernel_rfl) (by rfl) (by kernel_rfl) (List.Sublist.cons _ (List.Sublist.refl _)) (gives_load g1 0 37 (c2 (x)) (pc ((x).a)) _ (by rfl) (fun _ h => h.blk 0 (by rfl)) (sl_2a (x) _ _ (Sl.refl _)) Tryd.underlying35 (by rfl) (hi_1 _)) ?_
  refine flow_take (i := 7) (.pointer (some ⟨g1, 6, none⟩)) (by rfl) (by kernel_rfl) (by kernel_rfl) (by kernel_rfl) (by rfl) (by kernel_rfl) (List.Sublist.cons _ (List.Sublist.refl _)) (gives_value _ fun _ => by kernel_rfl) ?_
  refine flow_take (i := 8) (.agg (pc ((x).b))) (by rfl) (by kernel_rfl) (by kernel_rfl) (by kernel_rfl) (by rfl) (by kernel_rfl) (List.Sublist.cons _ (List.Sublist.refl _)) (gives_load g1 6 37 (c2 (x)) (pc ((x).b)) _ (by rfl) (fun _ h => h.blk 0 (by rfl)) (sl_2b (x) _ _ 6 (Sl.refl _) (by rfl)) Tryd.underlying35 (by rfl) (hi_1 _)) ?_
  refine flow_take (i := 9) (.agg (pc (((x).a) + ((x).b)))) (by rfl) (by kernel_rfl) (by kernel_rfl) (by kernel_rfl) (by rfl) (by kernel_rfl) (List.Sublist.cons _ (List.Sublist.refl _)) (gives_call (vl := [.agg (pc ((x).a)), .agg (pc ((x).b))]) (by kernel_rfl) (by rfl) (fun w h => v_add _ _ w (hG.keep h.below))) ?_
  refine flow_take (i := 10) (.agg (c2 (⟨((x).a) - ((x).b), ((x).a) + ((x).b)⟩ : F2))) (by rfl) (by kernel_rfl) (by kernel_rfl) (by kernel_rfl) (by rfl) (by kernel_rfl) (List.Sublist.cons _ (List.Sublist.refl _)) (gb_fp2 [(0, (pc (((x).a) - ((x).b)))), (1, (pc (((x).a) + ((x).b))))] ⟨congrArg some (pc_size _).symm, congrArg some (pc_size _).symm, trivial⟩ (by rfl) (c2 (⟨((x).a) - ((x).b), ((x).a) + ((x).b)⟩ : F2)) (by rfl)) ?_
  refine flow_one 11 (by kernel_rfl) ?_
  refine F_store (t := 37) 0 g2 (c2 (0 : F2)) (c2 (⟨((x).a) - ((x).b), ((x).a) + ((x).b)⟩ : F2)) (by rfl) (by rfl) (by rfl) (by rfl) (by rfl) (hi_2 _) ((c2_size _).trans (c2_size _).symm) (c2_one _) (.inr (List.Sublist.cons _ (List.Sublist.refl _))) ?_
  simp only [List.set_cons_zero, List.set_cons_succ]
  refine flow_done (by kernel_rfl) ?_
  intro w2 hw2
  refine wp_ret ?_
  change bodyPost _ _ _ Exit.ret _ _
  refine (ret_cell (by rfl) (by rfl) (by rfl) (hw2.blk 0 (by rfl)) Tryd.underlying37 (by rfl) (hi_2 _) ⟨?_, hw2.below⟩)
  exact rfl
set_option maxRecDepth 100000 in
set_option maxHeartbeats 4000000 in
theorem t_cadd (x y : C3) (v : World) (hG : Glo v) : Rets 97 #[.agg (c3 (x)), .agg (c3 (y))] v (.agg (c3 (x + y))) := by
  refine calls_fr2 Tryd.func97 rfl (by rfl : _ = 21) (by rfl) ?_
  have hw := Hbl.nil v
  refine seq_plain hw [0, 1, 2] (by rfl) ?_
  refine L_box (.agg (c3 (x))) (by rfl) (by rfl) (by rfl) (c3 (x)) (by rfl) ?_; intro g1
  refine L_box (.agg (c3 (y))) (by rfl) (by rfl) (by rfl) (c3 (y)) (by rfl) ?_; intro g2
  refine L_alloc _ (by rfl) (by rfl) z_3 (c3 (0 : C3)) rfl ?_; intro g3
  refine L_end ?_
  intro w1 hw1
  refine seq_flow (by kernel_rfl) hw1 [] [(g2, 81, (c3 (y))), (g1, 81, (c3 (x)))] 17 (by rfl) ?_
  refine flow_take (i := 0) (.pointer (some ⟨g1, 0, none⟩)) (by rfl) (by kernel_rfl) (by kernel_rfl) (by kernel_rfl) (by rfl) (by kernel_rfl) (List.Sublist.cons _ (List.Sublist.refl _)) (gives_value _ fun _ => by kernel_rfl) ?_
  refine flow_take (i := 1) (.agg (c2 ((x).a))) (by rfl) (by kernel_rfl) (by kernel_rfl) (by kernel_rfl) (by rfl) (by kernel_rfl) (List.Sublist.cons _ (List.Sublist.refl _)) (gives_load g1 0 81 (c3 (x)) (c2 ((x).a)) _ (by rfl) (fun _ h => h.blk 1 (by rfl)) (sl_3a (x) _ _ (Sl.refl _)) Tryd.underlying37 (by rfl) (hi_2 _)) ?_
  refine flow_take (i := 2) (.pointer (some ⟨g2, 0, none⟩)) (by rfl) (by kernel_rfl) (by kernel_rfl) (by kernel_rfl) (by rfl) (by kernel_rfl) (List.Sublist.cons _ (List.Sublist.refl _)) (gives_value _ fun _ => by kernel_rfl) ?_
  refine flow_take (i := 3) (.agg (c2 ((y).a))) (by rfl) (by kernel_rfl) (by kernel_rfl) (by kernel_rfl) (by rfl) (by kernel_rfl) (List.Sublist.cons _ (List.Sublist.refl _)) (gives_load g2 0 81 (c3 (y)) (c2 ((y).a)) _ (by rfl) (fun _ h => h.blk 0 (by rfl)) (sl_3a (y) _ _ (Sl.refl _)) Tryd.underlying37 (by rfl) (hi_2 _)) ?_
  refine flow_take (i := 4) (.agg (c2 (((x).a) + ((y).a)))) (by rfl) (by kernel_rfl) (by kernel_rfl) (by kernel_rfl) (by rfl) (by kernel_rfl) (List.Sublist.cons _ (List.Sublist.refl _)) (gives_call (vl := [.agg (c2 ((x).a)), .agg (c2 ((y).a))]) (by kernel_rfl) (by rfl) (fun w h => q_add _ _ w (hG.keep h.below))) ?_
  refine flow_take (i := 5) (.pointer (some ⟨g1, 12, none⟩)) (by rfl) (by kernel_rfl) (by kernel_rfl) (by kernel_rfl) (by rfl) (by kernel_rfl) (List.Sublist.cons _ (List.Sublist.refl _)) (gives_value _ fun _ => by kernel_rfl) ?_
  refine flow_take (i := 6) (.agg (c2 ((x).b))) (by rfl) (by kernel_rfl) (by kernel_rfl) (by kernel_rfl) (by rfl) (by kernel_rfl) (List.Sublist.cons _ (List.Sublist.refl _)) (gives_load g1 12 81 (c3 (x)) (c2 ((x).b)) _ (by rfl) (fun _ h => h.blk 1 (by rfl)) (sl_3b (x) _ _ 12 (Sl.refl _) (by rfl)) Tryd.underlying37 (by rfl) (hi_2 _)) ?_
  refine flow_take (i := 7) (.pointer (some ⟨g2, 12, none⟩)) (by rfl) (by kernel_rfl) (by kernel_rfl) (by kernel_rfl) (by rfl) (by kernel_rfl) (List.Sublist.cons _ (List.Sublist.refl _)) (gives_value _ fun _ => by kernel_rfl) ?_
  refine flow_take (i := 8) (.agg (c2 ((y).b))) (by rfl) (by kernel_rfl) (by kernel_rfl) (by kernel_rfl) (by rfl) (by kernel_rfl) (List.Sublist.cons _ (List.Sublist.refl _)) (gives_load g2 12 81 (c3 (y)) (c2 ((y).b)) _ (by rfl) (fun _ h => h.blk 0 (by rfl)) (sl_3b (y) _ _ 12 (Sl.refl _) (by rfl)) Tryd.underlying37 (by rfl) (hi_2 _)) ?_
  refine flow_take (i := 9) (.agg (c2 (((x).b) + ((y).b)))) (by rfl) (by kernel_rfl) (by kernel_rfl) (by kernel_rfl) (by rfl) (by kernel_rfl) (List.Sublist.cons _ (List.Sublist.refl _)) (gives_call (vl := [.agg (c2 ((x).b)), .agg (c2 ((y).b))]) (by kernel_rfl) (by rfl) (fun w h => q_add _ _ w (hG.keep h.below))) ?_
  refine flow_take (i := 10) (.pointer (some ⟨g1, 24, none⟩)) (by rfl) (by kernel_rfl) (by kernel_rfl) (by kernel_rfl) (by rfl) (by kernel_rfl) (List.Sublist.cons _ (List.Sublist.refl _)) (gives_value _ fun _ => by kernel_rfl) ?_
  refine flow_take (i := 11) (.agg (c2 ((x).c))) (by rfl) (by kernel_rfl) (by kernel_rfl) (by kernel_rfl) (by rfl) (by kernel_rfl) (List.Sublist.cons _ (List.Sublist.refl _)) (gives_load g1 24 81 (c3 (x)) (c2 ((x).c)) _ (by rfl) (fun _ h => h.blk 1 (by rfl)) (sl_3c (x) _ _ 24 (Sl.refl _) (by rfl)) Tryd.underlying37 (by rfl) (hi_2 _)) ?_
  refine flow_take (i := 12) (.pointer (some ⟨g2, 24, none⟩)) (by rfl) (by kernel_rfl) (by kernel_rfl) (by kernel_rfl) (by rfl) (by kernel_rfl) (List.Sublist.cons _ (List.Sublist.refl _)) (gives_value _ fun _ => by kernel_rfl) ?_
  refine flow_take (i := 13) (.agg (c2 ((y).c))) (by rfl) (by kernel_rfl) (by kernel_rfl) (by kernel_rfl) (by rfl) (by kernel_rfl) (List.Sublist.cons _ (List.Sublist.refl _)) (gives_load g2 24 81 (c3 (y)) (c2 ((y).c)) _ (by rfl) (fun _ h => h.blk 0 (by rfl)) (sl_3c (y) _ _ 24 (Sl.refl _) (by rfl)) Tryd.underlying37 (by rfl) (hi_2 _)) ?_
  refine flow_take (i := 14) (.agg (c2 (((x).c) + ((y).c)))) (by rfl) (by kernel_rfl) (by kernel_rfl) (by kernel_rfl) (by rfl) (by kernel_rfl) (List.Sublist.cons _ (List.Sublist.refl _)) (gives_call (vl := [.agg (c2 ((x).c)), .agg (c2 ((y).c))]) (by kernel_rfl) (by rfl) (fun w h => q_add _ _ w (hG.keep h.below))) ?_
  refine flow_take (i := 15) (.agg (c3 (⟨((x).a) + ((y).a), ((x).b) + ((y).b), ((x).c) + ((y).c)⟩ : C3))) (by rfl) (by kernel_rfl) (by kernel_rfl) (by kernel_rfl) (by rfl) (by kernel_rfl) (List.Sublist.cons _ (List.Sublist.refl _)) (gb_cubic [(0, (c2 (((x).a) + ((y).a)))), (1, (c2 (((x).b) + ((y).b)))), (2, (c2 (((x).c) + ((y).c))))] ⟨congrArg some (c2_size _).symm, congrArg some (c2_size _).symm, congrArg some (c2_size _).symm, trivial⟩ (by rfl) (c3 (⟨((x).a) + ((y).a), ((x).b) + ((y).b), ((x).c) + ((y).c)⟩ : C3)) (by rfl)) ?_
  refine flow_one 16 (by kernel_rfl) ?_
  refine F_store (t := 81) 0 g3 (c3 (0 : C3)) (c3 (⟨((x).a) + ((y).a), ((x).b) + ((y).b), ((x).c) + ((y).c)⟩ : C3)) (by rfl) (by rfl) (by rfl) (by rfl) (by rfl) (hi_3 _) ((c3_size _).trans (c3_size _).symm) (c3_one _) (.inr (List.Sublist.cons _ (List.Sublist.refl _))) ?_
  simp only [List.set_cons_zero, List.set_cons_succ]
  refine flow_done (by kernel_rfl) ?_
  intro w2 hw2
  refine wp_ret ?_
  change bodyPost _ _ _ Exit.ret _ _
  refine (ret_cell (by rfl) (by rfl) (by rfl) (hw2.blk 0 (by rfl)) Tryd.underlying81 (by rfl) (hi_3 _) ⟨?_, hw2.below⟩)
  exact rfl
set_option maxRecDepth 100000 in
set_option maxHeartbeats 4000000 in
theorem t_csub (x y : C3) (v : World) (hG : Glo v) : Rets 99 #[.agg (c3 (x)), .agg (c3 (y))] v (.agg (c3 (x - y))) := by
  refine calls_fr2 Tryd.func99 rfl (by rfl : _ = 21) (by rfl) ?_
  have hw := Hbl.nil v
  refine seq_plain hw [0, 1, 2] (by rfl) ?_
  refine L_box (.agg (c3 (x))) (by rfl) (by rfl) (by rfl) (c3 (x)) (by rfl) ?_; intro g1
  refine L_box (.agg (c3 (y))) (by rfl) (by rfl) (by rfl) (c3 (y)) (by rfl) ?_; intro g2
  refine L_alloc _ (by rfl) (by rfl) z_3 (c3 (0 : C3)) rfl ?_; intro g3
  refine L_end ?_
  intro w1 hw1
  refine seq_flow (by kernel_rfl) hw1 [] [(g2, 81, (c3 (y))), (g1, 81, (c3 (x)))] 17 (by rfl) ?_
  refine flow_take (i := 0) (.pointer (some ⟨g1, 0, none⟩)) (by rfl) (by kernel_rfl) (by kernel_rfl) (by kernel_rfl) (by rfl) (by kernel_rfl) (List.Sublist.cons _ (List.Sublist.refl _)) (gives_value _ fun _ => by kernel_rfl) ?_
  refine flow_take (i := 1) (.agg (c2 ((x).a))) (by rfl) (by kernel_rfl) (by kernel_rfl) (by kernel_rfl) (by rfl) (by kernel_rfl) (List.Sublist.cons _ (List.Sublist.refl _)) (gives_load g1 0 81 (c3 (x)) (c2 ((x).a)) _ (by rfl) (fun _ h => h.blk 1 (by rfl)) (sl_3a (x) _ _ (Sl.refl _)) Tryd.underlying37 (by rfl) (hi_2 _)) ?_
  refine flow_take (i := 2) (.pointer (some ⟨g2, 0, none⟩)) (by rfl) (by kernel_rfl) (by kernel_rfl) (by kernel_rfl) (by rfl) (by kernel_rfl) (List.Sublist.cons _ (List.Sublist.refl _)) (gives_value _ fun _ => by kernel_rfl) ?_
  refine flow_take (i := 3) (.agg (c2 ((y).a))) (by rfl) (by kernel_rfl) (by kernel_rfl) (by kernel_rfl) (by rfl) (by kernel_rfl) (List.Sublist.cons _ (List.Sublist.refl _)) (gives_load g2 0 81 (c3 (y)) (c2 ((y).a)) _ (by rfl) (fun _ h => h.blk 0 (by rfl)) (sl_3a (y) _ _ (Sl.refl _)) Tryd.underlying37 (by rfl) (hi_2 _)) ?_
  refine flow_take (i := 4) (.agg (c2 (((x).a) - ((y).a)))) (by rfl) (by kernel_rfl) (by kernel_rfl) (by kernel_rfl) (by rfl) (by kernel_rfl) (List.Sublist.cons _ (List.Sublist.refl _)) (gives_call (vl := [.agg (c2 ((x).a)), .agg (c2 ((y).a))]) (by kernel_rfl) (by rfl) (fun w h => q_sub _ _ w (hG.keep h.below))) ?_
  refine flow_take (i := 5) (.pointer (some ⟨g1, 12, none⟩)) (by rfl) (by kernel_rfl) (by kernel_rfl) (by kernel_rfl) (by rfl) (by kernel_rfl) (List.Sublist.cons _ (List.Sublist.refl _)) (gives_value _ fun _ => by kernel_rfl) ?_
  refine flow_take (i := 6) (.agg (c2 ((x).b))) (by rfl) (by kernel_rfl) (by kernel_rfl) (by kernel_rfl) (by rfl) (by kernel_rfl) (List.Sublist.cons _ (List.Sublist.refl _)) (gives_load g1 12 81 (c3 (x)) (c2 ((x).b)) _ (by rfl) (fun _ h => h.blk 1 (by rfl)) (sl_3b (x) _ _ 12 (Sl.refl _) (by rfl)) Tryd.underlying37 (by rfl) (hi_2 _)) ?_
  refine flow_take (i := 7) (.pointer (some ⟨g2, 12, none⟩)) (by rfl) (by kernel_rfl) (by kernel_rfl) (by kernel_rfl) (by rfl) (by kernel_rfl) (List.Sublist.cons _ (List.Sublist.refl _)) (gives_value _ fun _ => by kernel_rfl) ?_
  refine flow_take (i := 8) (.agg (c2 ((y).b))) (by rfl) (by kernel_rfl) (by kernel_rfl) (by kernel_rfl) (by rfl) (by kernel_rfl) (List.Sublist.cons _ (List.Sublist.refl _)) (gives_load g2 12 81 (c3 (y)) (c2 ((y).b)) _ (by rfl) (fun _ h => h.blk 0 (by rfl)) (sl_3b (y) _ _ 12 (Sl.refl _) (by rfl)) Tryd.underlying37 (by rfl) (hi_2 _)) ?_
  refine flow_take (i := 9) (.agg (c2 (((x).b) - ((y).b)))) (by rfl) (by kernel_rfl) (by kernel_rfl) (by kernel_rfl) (by rfl) (by kernel_rfl) (List.Sublist.cons _ (List.Sublist.refl _)) (gives_call (vl := [.agg (c2 ((x).b)), .agg (c2 ((y).b))]) (by kernel_rfl) (by rfl) (fun w h => q_sub _ _ w (hG.keep h.below))) ?_
  refine flow_take (i := 10) (.pointer (some ⟨g1, 24, none⟩)) (by rfl) (by kernel_rfl) (by kernel_rfl) (by kernel_rfl) (by rfl) (by kernel_rfl) (List.Sublist.cons _ (List.Sublist.refl _)) (gives_value _ fun _ => by kernel_rfl) ?_
  refine flow_take (i := 11) (.agg (c2 ((x).c))) (by rfl) (by kernel_rfl) (by kernel_rfl) (by kernel_rfl) (by rfl) (by kernel_rfl) (List.Sublist.cons _ (List.Sublist.refl _)) (gives_load g1 24 81 (c3 (x)) (c2 ((x).c)) _ (by rfl) (fun _ h => h.blk 1 (by rfl)) (sl_3c (x) _ _ 24 (Sl.refl _) (by rfl)) Tryd.underlying37 (by rfl) (hi_2 _)) ?_
  refine flow_take (i := 12) (.pointer (some ⟨g2, 24, none⟩)) (by rfl) (by kernel_rfl) (by kernel_rfl) (by kernel_rfl) (by rfl) (by kernel_rfl) (List.Sublist.cons _ (List.Sublist.refl _)) (gives_value _ fun _ => by kernel_rfl) ?_
  refine flow_take (i := 13) (.agg (c2 ((y).c))) (by rfl) (by kernel_rfl) (by kernel_rfl) (by kernel_rfl) (by rfl) (by kernel_rfl) (List.Sublist.cons _ (List.Sublist.refl _)) (gives_load g2 24 81 (c3 (y)) (c2 ((y).c)) _ (by rfl) (fun _ h => h.blk 0 (by rfl)) (sl_3c (y) _ _ 24 (Sl.refl _) (by rfl)) Tryd.underlying37 (by rfl) (hi_2 _)) ?_
  refine flow_take (i := 14) (.agg (c2 (((x).c) - ((y).c)))) (by rfl) (by kernel_rfl) (by kernel_rfl) (by kernel_rfl) (by rfl) (by kernel_rfl) (List.Sublist.cons _ (List.Sublist.refl _)) (gives_call (vl := [.agg (c2 ((x).c)), .agg (c2 ((y).c))]) (by kernel_rfl) (by rfl) (fun w h => q_sub _ _ w (hG.keep h.below))) ?_
  refine flow_take (i := 15) (.agg (c3 (⟨((x).a) - ((y).a), ((x).b) - ((y).b), ((x).c) - ((y).c)⟩ : C3))) (by rfl) (by kernel_rfl) (by kernel_rfl) (by kernel_rfl) (by rfl) (by kernel_rfl) (List.Sublist.cons _ (List.Sublist.refl _)) (gb_cubic [(0, (c2 (((x).a) - ((y).a)))), (1, (c2 (((x).b) - ((y).b)))), (2, (c2 (((x).c) - ((y).c))))] ⟨congrArg some (c2_size _).symm, congrArg some (c2_size _).symm, congrArg some (c2_size _).symm, trivial⟩ (by rfl) (c3 (⟨((x).a) - ((y).a), ((x).b) - ((y).b), ((x).c) - ((y).c)⟩ : C3)) (by rfl)) ?_
  refine flow_one 16 (by kernel_rfl) ?_
  refine F_store (t := 81) 0 g3 (c3 (0 : C3)) (c3 (⟨((x).a) - ((y).a), ((x).b) - ((y).b), ((x).c) - ((y).c)⟩ : C3)) (by rfl) (by rfl) (by rfl) (by rfl) (by rfl) (hi_3 _) ((c3_size _).trans (c3_size _).symm) (c3_one _) (.inr (List.Sublist.cons _ (List.Sublist.refl _))) ?_
  simp only [List.set_cons_zero, List.set_cons_succ]
  refine flow_done (by kernel_rfl) ?_
  intro w2 hw2
  refine wp_ret ?_
  change bodyPost _ _ _ Exit.ret _ _
  refine (ret_cell (by rfl) (by rfl) (by rfl) (hw2.blk 0 (by rfl)) Tryd.underlying81 (by rfl) (hi_3 _) ⟨?_, hw2.below⟩)
  exact rfl
set_option maxRecDepth 100000 in
set_option maxHeartbeats 4000000 in
theorem t_shift (x : C3) (v : World) (hG : Glo v) : Rets 98 #[.agg (c3 (x))] v (.agg (c3 x.shift)) := by
  refine calls_fr1 Tryd.func98 rfl (by rfl : _ = 11) (by rfl) ?_
  have hw := Hbl.nil v
  refine seq_plain hw [0, 1] (by rfl) ?_
  refine L_box (.agg (c3 (x))) (by rfl) (by rfl) (by rfl) (c3 (x)) (by rfl) ?_; intro g1
  refine L_alloc _ (by rfl) (by rfl) z_3 (c3 (0 : C3)) rfl ?_; intro g2
  refine L_end ?_
  intro w1 hw1
  refine seq_flow (by kernel_rfl) hw1 [] [(g1, 81, (c3 (x)))] 9 (by rfl) ?_
  refine flow_take (i := 0) (.pointer (some ⟨g1, 24, none⟩)) (by rfl) (by kernel_rfl) (by kernel_rfl) (by kernel_rfl) (by rfl) (by kernel_rfl) (List.Sublist.cons _ (List.Sublist.refl _)) (gives_value _ fun _ => by kernel_rfl) ?_
  refine flow_take (i := 1) (.agg (c2 ((x).c))) (by rfl) (by kernel_rfl) (by kernel_rfl) (by kernel_rfl) (by rfl) (by kernel_rfl) (List.Sublist.cons _ (List.Sublist.refl _)) (gives_load g1 24 81 (c3 (x)) (c2 ((x).c)) _ (by rfl) (fun _ h => h.blk 0 (by rfl)) (sl_3c (x) _ _ 24 (Sl.refl _) (by rfl)) Tryd.underlying37 (by rfl) (hi_2 _)) ?_
  refine flow_take (i := 2) (.agg (c2 (F2.up ((x).c)))) (by rfl) (by kernel_rfl) (by kernel_rfl) (by kernel_rfl) (by rfl) (by kernel_rfl) (List.Sublist.cons _ (List.Sublist.refl _)) (gives_call (vl := [.agg (c2 ((x).c))]) (by kernel_rfl) (by rfl) (fun w h => t_carried _ w (hG.keep h.below))) ?_
  refine flow_take (i := 3) (.pointer (some ⟨g1, 0, none⟩)) (by rfl) (by kernel_rfl) (by kernel_rfl) (by kernel_rfl) (by rfl) (by kernel_rfl) (List.Sublist.cons _ (List.Sublist.refl _)) (gives_value _ fun _ => by kernel_rfl) ?_
  refine flow_take (i := 4) (.agg (c2 ((x).a))) (by rfl) (by kernel_rfl) (by kernel_rfl) (by kernel_rfl) (by rfl) (by kernel_rfl) (List.Sublist.cons _ (List.Sublist.refl _)) (gives_load g1 0 81 (c3 (x)) (c2 ((x).a)) _ (by rfl) (fun _ h => h.blk 0 (by rfl)) (sl_3a (x) _ _ (Sl.refl _)) Tryd.underlying37 (by rfl) (hi_2 _)) ?_
  refine flow_take (i := 5) (.pointer (some ⟨g1, 12, none⟩)) (by rfl) (by kernel_rfl) (by kernel_rfl) (by kernel_rfl) (by rfl) (by kernel_rfl) (List.Sublist.cons _ (List.Sublist.refl _)) (gives_value _ fun _ => by kernel_rfl) ?_
  refine flow_take (i := 6) (.agg (c2 ((x).b))) (by rfl) (by kernel_rfl) (by kernel_rfl) (by kernel_rfl) (by rfl) (by kernel_rfl) (List.Sublist.cons _ (List.Sublist.refl _)) (gives_load g1 12 81 (c3 (x)) (c2 ((x).b)) _ (by rfl) (fun _ h => h.blk 0 (by rfl)) (sl_3b (x) _ _ 12 (Sl.refl _) (by rfl)) Tryd.underlying37 (by rfl) (hi_2 _)) ?_
  refine flow_take (i := 7) (.agg (c3 (⟨F2.up ((x).c), (x).a, (x).b⟩ : C3))) (by rfl) (by kernel_rfl) (by kernel_rfl) (by kernel_rfl) (by rfl) (by kernel_rfl) (List.Sublist.cons _ (List.Sublist.refl _)) (gb_cubic [(0, (c2 (F2.up ((x).c)))), (1, (c2 ((x).a))), (2, (c2 ((x).b)))] ⟨congrArg some (c2_size _).symm, congrArg some (c2_size _).symm, congrArg some (c2_size _).symm, trivial⟩ (by rfl) (c3 (⟨F2.up ((x).c), (x).a, (x).b⟩ : C3)) (by rfl)) ?_
  refine flow_one 8 (by kernel_rfl) ?_
  refine F_store (t := 81) 0 g2 (c3 (0 : C3)) (c3 (⟨F2.up ((x).c), (x).a, (x).b⟩ : C3)) (by rfl) (by rfl) (by rfl) (by rfl) (by rfl) (hi_3 _) ((c3_size _).trans (c3_size _).symm) (c3_one _) (.inr (List.Sublist.cons _ (List.Sublist.refl _))) ?_
  simp only [List.set_cons_zero, List.set_cons_succ]
  refine flow_done (by kernel_rfl) ?_
  intro w2 hw2
  refine wp_ret ?_
  change bodyPost _ _ _ Exit.ret _ _
  refine (ret_cell (by rfl) (by rfl) (by rfl) (hw2.blk 0 (by rfl)) Tryd.underlying81 (by rfl) (hi_3 _) ⟨?_, hw2.below⟩)
  exact rfl
set_option maxRecDepth 100000 in
set_option maxHeartbeats 4000000 in
theorem t_cmul (x y : C3) (v : World) (hG : Glo v) : Rets 96 #[.agg (c3 (x)), .agg (c3 (y))] v (.agg (c3 (x * y))) := by
  refine calls_fr2 Tryd.func96 rfl (by rfl : _ = 83) (by rfl) ?_
  have hw := Hbl.nil v
  refine seq_plain hw [0, 1, 2] (by rfl) ?_
  refine L_box (.agg (c3 (x))) (by rfl) (by rfl) (by rfl) (c3 (x)) (by rfl) ?_; intro g1
  refine L_box (.agg (c3 (y))) (by rfl) (by rfl) (by rfl) (c3 (y)) (by rfl) ?_; intro g2
  refine L_alloc _ (by rfl) (by rfl) z_3 (c3 (0 : C3)) rfl ?_; intro g3
  refine L_end ?_
  intro w1 hw1
  refine seq_flow_to (fun a w => ∃ g_5 g_6 g_7, a = fr 83 [(5, .pointer (some ⟨g_5, 0, none⟩)), (6, .pointer (some ⟨g_6, 0, none⟩)), (7, .pointer (some ⟨g_7, 0, none⟩)), (25, .agg (c2 (((x).c) * ((y).c)))), (24, .agg (c2 ((y).c))), (23, .pointer (some ⟨g2, 24, none⟩)), (22, .agg (c2 ((x).c))), (21, .pointer (some ⟨g1, 24, none⟩)), (20, .agg (c2 (((x).b) * ((y).b)))), (19, .agg (c2 ((y).b))), (18, .pointer (some ⟨g2, 12, none⟩)), (17, .agg (c2 ((x).b))), (16, .pointer (some ⟨g1, 12, none⟩)), (15, .agg (c2 (((x).a) * ((y).a)))), (14, .agg (c2 ((y).a))), (13, .pointer (some ⟨g2, 0, none⟩)), (12, .agg (c2 ((x).a))), (11, .pointer (some ⟨g1, 0, none⟩)), (4, .pointer (some ⟨g3, 0, none⟩)), (3, .pointer (some ⟨g2, 0, none⟩)), (2, .pointer (some ⟨g1, 0, none⟩)), (1, .agg (c3 (y))), (0, .agg (c3 (x)))] ∧ Hbl v [(g_5, 37, (c2 (((x).a) * ((y).a)))), (g_6, 37, (c2 (((x).b) * ((y).b)))), (g_7, 37, (c2 (((x).c) * ((y).c)))), (g3, 81, (c3 (0 : C3))), (g2, 81, (c3 (y))), (g1, 81, (c3 (x)))] w) (by kernel_rfl) hw1 [] [(g3, 81, (c3 (0 : C3))), (g2, 81, (c3 (y))), (g1, 81, (c3 (x)))] 21 (by rfl) ?_ ?_
  ·
    refine flow_take (i := 0) (.pointer (some ⟨g1, 0, none⟩)) (by rfl) (by kernel_rfl) (by kernel_rfl) (by kernel_rfl) (by rfl) (by kernel_rfl) (List.Sublist.refl _) (gives_value _ fun _ => by kernel_rfl) ?_
    refine flow_take (i := 1) (.agg (c2 ((x).a))) (by rfl) (by kernel_rfl) (by kernel_rfl) (by kernel_rfl) (by rfl) (by kernel_rfl) (List.Sublist.refl _) (gives_load g1 0 81 (c3 (x)) (c2 ((x).a)) _ (by rfl) (fun _ h => h.blk 2 (by rfl)) (sl_3a (x) _ _ (Sl.refl _)) Tryd.underlying37 (by rfl) (hi_2 _)) ?_
    refine flow_take (i := 2) (.pointer (some ⟨g2, 0, none⟩)) (by rfl) (by kernel_rfl) (by kernel_rfl) (by kernel_rfl) (by rfl) (by kernel_rfl) (List.Sublist.refl _) (gives_value _ fun _ => by kernel_rfl) ?_
    refine flow_take (i := 3) (.agg (c2 ((y).a))) (by rfl) (by kernel_rfl) (by kernel_rfl) (by kernel_rfl) (by rfl) (by kernel_rfl) (List.Sublist.refl _) (gives_load g2 0 81 (c3 (y)) (c2 ((y).a)) _ (by rfl) (fun _ h => h.blk 1 (by rfl)) (sl_3a (y) _ _ (Sl.refl _)) Tryd.underlying37 (by rfl) (hi_2 _)) ?_
    refine flow_take (i := 4) (.agg (c2 (((x).a) * ((y).a)))) (by rfl) (by kernel_rfl) (by kernel_rfl) (by kernel_rfl) (by rfl) (by kernel_rfl) (List.Sublist.refl _) (gives_call (vl := [.agg (c2 ((x).a)), .agg (c2 ((y).a))]) (by kernel_rfl) (by rfl) (fun w h => q_mul _ _ w (hG.keep h.below))) ?_
    refine flow_take (i := 5) (.pointer (some ⟨g1, 12, none⟩)) (by rfl) (by kernel_rfl) (by kernel_rfl) (by kernel_rfl) (by rfl) (by kernel_rfl) (List.Sublist.refl _) (gives_value _ fun _ => by kernel_rfl) ?_
    refine flow_take (i := 6) (.agg (c2 ((x).b))) (by rfl) (by kernel_rfl) (by kernel_rfl) (by kernel_rfl) (by rfl) (by kernel_rfl) (List.Sublist.refl _) (gives_load g1 12 81 (c3 (x)) (c2 ((x).b)) _ (by rfl) (fun _ h => h.blk 2 (by rfl)) (sl_3b (x) _ _ 12 (Sl.refl _) (by rfl)) Tryd.underlying37 (by rfl) (hi_2 _)) ?_
    refine flow_take (i := 7) (.pointer (some ⟨g2, 12, none⟩)) (by rfl) (by kernel_rfl) (by kernel_rfl) (by kernel_rfl) (by rfl) (by kernel_rfl) (List.Sublist.refl _) (gives_value _ fun _ => by kernel_rfl) ?_
    refine flow_take (i := 8) (.agg (c2 ((y).b))) (by rfl) (by kernel_rfl) (by kernel_rfl) (by kernel_rfl) (by rfl) (by kernel_rfl) (List.Sublist.refl _) (gives_load g2 12 81 (c3 (y)) (c2 ((y).b)) _ (by rfl) (fun _ h => h.blk 1 (by rfl)) (sl_3b (y) _ _ 12 (Sl.refl _) (by rfl)) Tryd.underlying37 (by rfl) (hi_2 _)) ?_
    refine flow_take (i := 9) (.agg (c2 (((x).b) * ((y).b)))) (by rfl) (by kernel_rfl) (by kernel_rfl) (by kernel_rfl) (by rfl) (by kernel_rfl) (List.Sublist.refl _) (gives_call (vl := [.agg (c2 ((x).b)), .agg (c2 ((y).b))]) (by kernel_rfl) (by rfl) (fun w h => q_mul _ _ w (hG.keep h.below))) ?_
    refine flow_take (i := 10) (.pointer (some ⟨g1, 24, none⟩)) (by rfl) (by kernel_rfl) (by kernel_rfl) (by kernel_rfl) (by rfl) (by kernel_rfl) (List.Sublist.refl _) (gives_value _ fun _ => by kernel_rfl) ?_
    refine flow_take (i := 11) (.agg (c2 ((x).c))) (by rfl) (by kernel_rfl) (by kernel_rfl) (by kernel_rfl) (by rfl) (by kernel_rfl) (List.Sublist.refl _) (gives_load g1 24 81 (c3 (x)) (c2 ((x).c)) _ (by rfl) (fun _ h => h.blk 2 (by rfl)) (sl_3c (x) _ _ 24 (Sl.refl _) (by rfl)) Tryd.underlying37 (by rfl) (hi_2 _)) ?_
    refine flow_take (i := 12) (.pointer (some ⟨g2, 24, none⟩)) (by rfl) (by kernel_rfl) (by kernel_rfl) (by kernel_rfl) (by rfl) (by kernel_rfl) (List.Sublist.refl _) (gives_value _ fun _ => by kernel_rfl) ?_
    refine flow_take (i := 13) (.agg (c2 ((y).c))) (by rfl) (by kernel_rfl) (by kernel_rfl) (by kernel_rfl) (by rfl) (by kernel_rfl) (List.Sublist.refl _) (gives_load g2 24 81 (c3 (y)) (c2 ((y).c)) _ (by rfl) (fun _ h => h.blk 1 (by rfl)) (sl_3c (y) _ _ 24 (Sl.refl _) (by rfl)) Tryd.underlying37 (by rfl) (hi_2 _)) ?_
    refine flow_take (i := 14) (.agg (c2 (((x).c) * ((y).c)))) (by rfl) (by kernel_rfl) (by kernel_rfl) (by kernel_rfl) (by rfl) (by kernel_rfl) (List.Sublist.refl _) (gives_call (vl := [.agg (c2 ((x).c)), .agg (c2 ((y).c))]) (by kernel_rfl) (by rfl) (fun w h => q_mul _ _ w (hG.keep h.below))) ?_
    refine flow_three 15 16 17 (by kernel_rfl) ?_ ?_ ?_
    ·
      refine F_alloc _ (by rfl) (by rfl) z_2 (c2 (0 : F2)) rfl (List.Sublist.refl _) ?_; intro g_5
      refine flow_two 16 17 (by kernel_rfl) ?_ ?_
      ·
        refine F_alloc _ (by rfl) (by rfl) z_2 (c2 (0 : F2)) rfl (List.Sublist.cons _ (List.Sublist.refl _)) ?_; intro g_6
        refine flow_one 17 (by kernel_rfl) ?_
        refine F_alloc _ (by rfl) (by rfl) z_2 (c2 (0 : F2)) rfl (List.Sublist.cons _ (List.Sublist.cons _ (List.Sublist.refl _))) ?_; intro g_7
        refine flow_one 18 (by kernel_rfl) ?_
        refine F_store (t := 37) 2 g_5 (c2 (0 : F2)) (c2 (((x).a) * ((y).a))) (by rfl) (by rfl) (by rfl) (by rfl) (by rfl) (hi_2 _) ((c2_size _).trans (c2_size _).symm) (c2_one _) (.inr (List.Sublist.cons _ (List.Sublist.cons _ (List.Sublist.cons _ (List.Sublist.refl _))))) ?_
        simp only [List.set_cons_zero, List.set_cons_succ]
        refine flow_one 19 (by kernel_rfl) ?_
        refine F_store (t := 37) 1 g_6 (c2 (0 : F2)) (c2 (((x).b) * ((y).b))) (by rfl) (by rfl) (by rfl) (by rfl) (by rfl) (hi_2 _) ((c2_size _).trans (c2_size _).symm) (c2_one _) (.inr (List.Sublist.cons _ (List.Sublist.cons _ (List.Sublist.cons _ (List.Sublist.refl _))))) ?_
        simp only [List.set_cons_zero, List.set_cons_succ]
        refine flow_one 20 (by kernel_rfl) ?_
        refine F_store (t := 37) 0 g_7 (c2 (0 : F2)) (c2 (((x).c) * ((y).c))) (by rfl) (by rfl) (by rfl) (by rfl) (by rfl) (hi_2 _) ((c2_size _).trans (c2_size _).symm) (c2_one _) (.inr (List.Sublist.cons _ (List.Sublist.cons _ (List.Sublist.cons _ (List.Sublist.refl _))))) ?_
        simp only [List.set_cons_zero, List.set_cons_succ]
        refine flow_done (by kernel_rfl) ?_
        intro wz hz
        exact ⟨g_5, g_6, g_7, (Eq.trans (Eq.trans (fr_comm _ _ _ _ (by decide)) (fr_cong _ _ _ (fr_comm _ _ _ _ (by decide)))) (fr_comm _ _ _ _ (by decide))), hz.perm (List.Perm.trans (List.Perm.trans (List.Perm.swap _ _ _) (List.Perm.cons _ (List.Perm.swap _ _ _))) (List.Perm.swap _ _ _))⟩
      ·
        refine F_alloc _ (by rfl) (by rfl) z_2 (c2 (0 : F2)) rfl (List.Sublist.cons _ (List.Sublist.refl _)) ?_; intro g_7
        refine flow_one 16 (by kernel_rfl) ?_
        refine F_alloc _ (by rfl) (by rfl) z_2 (c2 (0 : F2)) rfl (List.Sublist.cons _ (List.Sublist.cons _ (List.Sublist.refl _))) ?_; intro g_6
        refine flow_one 18 (by kernel_rfl) ?_
        refine F_store (t := 37) 2 g_5 (c2 (0 : F2)) (c2 (((x).a) * ((y).a))) (by rfl) (by rfl) (by rfl) (by rfl) (by rfl) (hi_2 _) ((c2_size _).trans (c2_size _).symm) (c2_one _) (.inr (List.Sublist.cons _ (List.Sublist.cons _ (List.Sublist.cons _ (List.Sublist.refl _))))) ?_
        simp only [List.set_cons_zero, List.set_cons_succ]
        refine flow_one 19 (by kernel_rfl) ?_
        refine F_store (t := 37) 0 g_6 (c2 (0 : F2)) (c2 (((x).b) * ((y).b))) (by rfl) (by rfl) (by rfl) (by rfl) (by rfl) (hi_2 _) ((c2_size _).trans (c2_size _).symm) (c2_one _) (.inr (List.Sublist.cons _ (List.Sublist.cons _ (List.Sublist.cons _ (List.Sublist.refl _))))) ?_
        simp only [List.set_cons_zero, List.set_cons_succ]
        refine flow_one 20 (by kernel_rfl) ?_
        refine F_store (t := 37) 1 g_7 (c2 (0 : F2)) (c2 (((x).c) * ((y).c))) (by rfl) (by rfl) (by rfl) (by rfl) (by rfl) (hi_2 _) ((c2_size _).trans (c2_size _).symm) (c2_one _) (.inr (List.Sublist.cons _ (List.Sublist.cons _ (List.Sublist.cons _ (List.Sublist.refl _))))) ?_
        simp only [List.set_cons_zero, List.set_cons_succ]
        refine flow_done (by kernel_rfl) ?_
        intro wz hz
        exact ⟨g_5, g_6, g_7, (Eq.trans (fr_cong _ _ _ (fr_comm _ _ _ _ (by decide))) (fr_comm _ _ _ _ (by decide))), hz.perm (List.Perm.trans (List.Perm.cons _ (List.Perm.swap _ _ _)) (List.Perm.swap _ _ _))⟩
    ·
      refine F_alloc _ (by rfl) (by rfl) z_2 (c2 (0 : F2)) rfl (List.Sublist.refl _) ?_; intro g_6
      refine flow_two 15 17 (by kernel_rfl) ?_ ?_
      ·
        refine F_alloc _ (by rfl) (by rfl) z_2 (c2 (0 : F2)) rfl (List.Sublist.cons _ (List.Sublist.refl _)) ?_; intro g_5
        refine flow_one 17 (by kernel_rfl) ?_
        refine F_alloc _ (by rfl) (by rfl) z_2 (c2 (0 : F2)) rfl (List.Sublist.cons _ (List.Sublist.cons _ (List.Sublist.refl _))) ?_; intro g_7
        refine flow_one 18 (by kernel_rfl) ?_
        refine F_store (t := 37) 1 g_5 (c2 (0 : F2)) (c2 (((x).a) * ((y).a))) (by rfl) (by rfl) (by rfl) (by rfl) (by rfl) (hi_2 _) ((c2_size _).trans (c2_size _).symm) (c2_one _) (.inr (List.Sublist.cons _ (List.Sublist.cons _ (List.Sublist.cons _ (List.Sublist.refl _))))) ?_
        simp only [List.set_cons_zero, List.set_cons_succ]
        refine flow_one 19 (by kernel_rfl) ?_
        refine F_store (t := 37) 2 g_6 (c2 (0 : F2)) (c2 (((x).b) * ((y).b))) (by rfl) (by rfl) (by rfl) (by rfl) (by rfl) (hi_2 _) ((c2_size _).trans (c2_size _).symm) (c2_one _) (.inr (List.Sublist.cons _ (List.Sublist.cons _ (List.Sublist.cons _ (List.Sublist.refl _))))) ?_
        simp only [List.set_cons_zero, List.set_cons_succ]
        refine flow_one 20 (by kernel_rfl) ?_
        refine F_store (t := 37) 0 g_7 (c2 (0 : F2)) (c2 (((x).c) * ((y).c))) (by rfl) (by rfl) (by rfl) (by rfl) (by rfl) (hi_2 _) ((c2_size _).trans (c2_size _).symm) (c2_one _) (.inr (List.Sublist.cons _ (List.Sublist.cons _ (List.Sublist.cons _ (List.Sublist.refl _))))) ?_
        simp only [List.set_cons_zero, List.set_cons_succ]
        refine flow_done (by kernel_rfl) ?_
        intro wz hz
        exact ⟨g_5, g_6, g_7, (Eq.trans (fr_comm _ _ _ _ (by decide)) (fr_cong _ _ _ (fr_comm _ _ _ _ (by decide)))), hz.perm (List.Perm.trans (List.Perm.swap _ _ _) (List.Perm.cons _ (List.Perm.swap _ _ _)))⟩
      ·
        refine F_alloc _ (by rfl) (by rfl) z_2 (c2 (0 : F2)) rfl (List.Sublist.cons _ (List.Sublist.refl _)) ?_; intro g_7
        refine flow_one 15 (by kernel_rfl) ?_
        refine F_alloc _ (by rfl) (by rfl) z_2 (c2 (0 : F2)) rfl (List.Sublist.cons _ (List.Sublist.cons _ (List.Sublist.refl _))) ?_; intro g_5
        refine flow_one 18 (by kernel_rfl) ?_
        refine F_store (t := 37) 0 g_5 (c2 (0 : F2)) (c2 (((x).a) * ((y).a))) (by rfl) (by rfl) (by rfl) (by rfl) (by rfl) (hi_2 _) ((c2_size _).trans (c2_size _).symm) (c2_one _) (.inr (List.Sublist.cons _ (List.Sublist.cons _ (List.Sublist.cons _ (List.Sublist.refl _))))) ?_
        simp only [List.set_cons_zero, List.set_cons_succ]
        refine flow_one 19 (by kernel_rfl) ?_
        refine F_store (t := 37) 2 g_6 (c2 (0 : F2)) (c2 (((x).b) * ((y).b))) (by rfl) (by rfl) (by rfl) (by rfl) (by rfl) (hi_2 _) ((c2_size _).trans (c2_size _).symm) (c2_one _) (.inr (List.Sublist.cons _ (List.Sublist.cons _ (List.Sublist.cons _ (List.Sublist.refl _))))) ?_
        simp only [List.set_cons_zero, List.set_cons_succ]
        refine flow_one 20 (by kernel_rfl) ?_
        refine F_store (t := 37) 1 g_7 (c2 (0 : F2)) (c2 (((x).c) * ((y).c))) (by rfl) (by rfl) (by rfl) (by rfl) (by rfl) (hi_2 _) ((c2_size _).trans (c2_size _).symm) (c2_one _) (.inr (List.Sublist.cons _ (List.Sublist.cons _ (List.Sublist.cons _ (List.Sublist.refl _))))) ?_
        simp only [List.set_cons_zero, List.set_cons_succ]
        refine flow_done (by kernel_rfl) ?_
        intro wz hz
        exact ⟨g_5, g_6, g_7, ((fr_cong _ _ _ (fr_comm _ _ _ _ (by decide)))), hz.perm (List.Perm.cons _ (List.Perm.swap _ _ _))⟩
    ·
      refine F_alloc _ (by rfl) (by rfl) z_2 (c2 (0 : F2)) rfl (List.Sublist.refl _) ?_; intro g_7
      refine flow_two 15 16 (by kernel_rfl) ?_ ?_
      ·
        refine F_alloc _ (by rfl) (by rfl) z_2 (c2 (0 : F2)) rfl (List.Sublist.cons _ (List.Sublist.refl _)) ?_; intro g_5
        refine flow_one 16 (by kernel_rfl) ?_
        refine F_alloc _ (by rfl) (by rfl) z_2 (c2 (0 : F2)) rfl (List.Sublist.cons _ (List.Sublist.cons _ (List.Sublist.refl _))) ?_; intro g_6
        refine flow_one 18 (by kernel_rfl) ?_
        refine F_store (t := 37) 1 g_5 (c2 (0 : F2)) (c2 (((x).a) * ((y).a))) (by rfl) (by rfl) (by rfl) (by rfl) (by rfl) (hi_2 _) ((c2_size _).trans (c2_size _).symm) (c2_one _) (.inr (List.Sublist.cons _ (List.Sublist.cons _ (List.Sublist.cons _ (List.Sublist.refl _))))) ?_
        simp only [List.set_cons_zero, List.set_cons_succ]
        refine flow_one 19 (by kernel_rfl) ?_
        refine F_store (t := 37) 0 g_6 (c2 (0 : F2)) (c2 (((x).b) * ((y).b))) (by rfl) (by rfl) (by rfl) (by rfl) (by rfl) (hi_2 _) ((c2_size _).trans (c2_size _).symm) (c2_one _) (.inr (List.Sublist.cons _ (List.Sublist.cons _ (List.Sublist.cons _ (List.Sublist.refl _))))) ?_
        simp only [List.set_cons_zero, List.set_cons_succ]
        refine flow_one 20 (by kernel_rfl) ?_
        refine F_store (t := 37) 2 g_7 (c2 (0 : F2)) (c2 (((x).c) * ((y).c))) (by rfl) (by rfl) (by rfl) (by rfl) (by rfl) (hi_2 _) ((c2_size _).trans (c2_size _).symm) (c2_one _) (.inr (List.Sublist.cons _ (List.Sublist.cons _ (List.Sublist.cons _ (List.Sublist.refl _))))) ?_
        simp only [List.set_cons_zero, List.set_cons_succ]
        refine flow_done (by kernel_rfl) ?_
        intro wz hz
        exact ⟨g_5, g_6, g_7, ((fr_comm _ _ _ _ (by decide))), hz.perm (List.Perm.swap _ _ _)⟩
      ·
        refine F_alloc _ (by rfl) (by rfl) z_2 (c2 (0 : F2)) rfl (List.Sublist.cons _ (List.Sublist.refl _)) ?_; intro g_6
        refine flow_one 15 (by kernel_rfl) ?_
        refine F_alloc _ (by rfl) (by rfl) z_2 (c2 (0 : F2)) rfl (List.Sublist.cons _ (List.Sublist.cons _ (List.Sublist.refl _))) ?_; intro g_5
        refine flow_one 18 (by kernel_rfl) ?_
        refine F_store (t := 37) 0 g_5 (c2 (0 : F2)) (c2 (((x).a) * ((y).a))) (by rfl) (by rfl) (by rfl) (by rfl) (by rfl) (hi_2 _) ((c2_size _).trans (c2_size _).symm) (c2_one _) (.inr (List.Sublist.cons _ (List.Sublist.cons _ (List.Sublist.cons _ (List.Sublist.refl _))))) ?_
        simp only [List.set_cons_zero, List.set_cons_succ]
        refine flow_one 19 (by kernel_rfl) ?_
        refine F_store (t := 37) 1 g_6 (c2 (0 : F2)) (c2 (((x).b) * ((y).b))) (by rfl) (by rfl) (by rfl) (by rfl) (by rfl) (hi_2 _) ((c2_size _).trans (c2_size _).symm) (c2_one _) (.inr (List.Sublist.cons _ (List.Sublist.cons _ (List.Sublist.cons _ (List.Sublist.refl _))))) ?_
        simp only [List.set_cons_zero, List.set_cons_succ]
        refine flow_one 20 (by kernel_rfl) ?_
        refine F_store (t := 37) 2 g_7 (c2 (0 : F2)) (c2 (((x).c) * ((y).c))) (by rfl) (by rfl) (by rfl) (by rfl) (by rfl) (hi_2 _) ((c2_size _).trans (c2_size _).symm) (c2_one _) (.inr (List.Sublist.cons _ (List.Sublist.cons _ (List.Sublist.cons _ (List.Sublist.refl _))))) ?_
        simp only [List.set_cons_zero, List.set_cons_succ]
        refine flow_done (by kernel_rfl) ?_
        intro wz hz
        exact ⟨g_5, g_6, g_7, rfl, hz.perm (List.Perm.refl _)⟩
  ·
    rintro a0 w2 ⟨g4, g5, g6, rfl, hw2⟩
    refine seq_flow (by kernel_rfl) hw2 [] [(g4, 37, (c2 (((x).a) * ((y).a)))), (g5, 37, (c2 (((x).b) * ((y).b)))), (g6, 37, (c2 (((x).c) * ((y).c)))), (g3, 81, (c3 (0 : C3))), (g2, 81, (c3 (y))), (g1, 81, (c3 (x)))] 17 (by rfl) ?_
    refine flow_take (i := 0) (.pointer (some ⟨g1, 0, none⟩)) (by rfl) (by kernel_rfl) (by kernel_rfl) (by kernel_rfl) (by rfl) (by kernel_rfl) (List.Sublist.refl _) (gives_value _ fun _ => by kernel_rfl) ?_
    refine flow_take (i := 1) (.agg (c2 ((x).a))) (by rfl) (by kernel_rfl) (by kernel_rfl) (by kernel_rfl) (by rfl) (by kernel_rfl) (List.Sublist.refl _) (gives_load g1 0 81 (c3 (x)) (c2 ((x).a)) _ (by rfl) (fun _ h => h.blk 5 (by rfl)) (sl_3a (x) _ _ (Sl.refl _)) Tryd.underlying37 (by rfl) (hi_2 _)) ?_
    refine flow_take (i := 2) (.pointer (some ⟨g1, 12, none⟩)) (by rfl) (by kernel_rfl) (by kernel_rfl) (by kernel_rfl) (by rfl) (by kernel_rfl) (List.Sublist.refl _) (gives_value _ fun _ => by kernel_rfl) ?_
    refine flow_take (i := 3) (.agg (c2 ((x).b))) (by rfl) (by kernel_rfl) (by kernel_rfl) (by kernel_rfl) (by rfl) (by kernel_rfl) (List.Sublist.refl _) (gives_load g1 12 81 (c3 (x)) (c2 ((x).b)) _ (by rfl) (fun _ h => h.blk 5 (by rfl)) (sl_3b (x) _ _ 12 (Sl.refl _) (by rfl)) Tryd.underlying37 (by rfl) (hi_2 _)) ?_
    refine flow_take (i := 4) (.agg (c2 (((x).a) + ((x).b)))) (by rfl) (by kernel_rfl) (by kernel_rfl) (by kernel_rfl) (by rfl) (by kernel_rfl) (List.Sublist.refl _) (gives_call (vl := [.agg (c2 ((x).a)), .agg (c2 ((x).b))]) (by kernel_rfl) (by rfl) (fun w h => q_add _ _ w (hG.keep h.below))) ?_
    refine flow_take (i := 5) (.pointer (some ⟨g2, 0, none⟩)) (by rfl) (by kernel_rfl) (by kernel_rfl) (by kernel_rfl) (by rfl) (by kernel_rfl) (List.Sublist.refl _) (gives_value _ fun _ => by kernel_rfl) ?_
    refine flow_take (i := 6) (.agg (c2 ((y).a))) (by rfl) (by kernel_rfl) (by kernel_rfl) (by kernel_rfl) (by rfl) (by kernel_rfl) (List.Sublist.refl _) (gives_load g2 0 81 (c3 (y)) (c2 ((y).a)) _ (by rfl) (fun _ h => h.blk 4 (by rfl)) (sl_3a (y) _ _ (Sl.refl _)) Tryd.underlying37 (by rfl) (hi_2 _)) ?_
    refine flow_take (i := 7) (.pointer (some ⟨g2, 12, none⟩)) (by rfl) (by kernel_rfl) (by kernel_rfl) (by kernel_rfl) (by rfl) (by kernel_rfl) (List.Sublist.refl _) (gives_value _ fun _ => by kernel_rfl) ?_
    refine flow_take (i := 8) (.agg (c2 ((y).b))) (by rfl) (by kernel_rfl) (by kernel_rfl) (by kernel_rfl) (by rfl) (by kernel_rfl) (List.Sublist.refl _) (gives_load g2 12 81 (c3 (y)) (c2 ((y).b)) _ (by rfl) (fun _ h => h.blk 4 (by rfl)) (sl_3b (y) _ _ 12 (Sl.refl _) (by rfl)) Tryd.underlying37 (by rfl) (hi_2 _)) ?_
    refine flow_take (i := 9) (.agg (c2 (((y).a) + ((y).b)))) (by rfl) (by kernel_rfl) (by kernel_rfl) (by kernel_rfl) (by rfl) (by kernel_rfl) (List.Sublist.refl _) (gives_call (vl := [.agg (c2 ((y).a)), .agg (c2 ((y).b))]) (by kernel_rfl) (by rfl) (fun w h => q_add _ _ w (hG.keep h.below))) ?_
    refine flow_take (i := 10) (.agg (c2 ((((x).a) + ((x).b)) * (((y).a) + ((y).b))))) (by rfl) (by kernel_rfl) (by kernel_rfl) (by kernel_rfl) (by rfl) (by kernel_rfl) (List.Sublist.refl _) (gives_call (vl := [.agg (c2 (((x).a) + ((x).b))), .agg (c2 (((y).a) + ((y).b)))]) (by kernel_rfl) (by rfl) (fun w h => q_mul _ _ w (hG.keep h.below))) ?_
    refine flow_take (i := 11) (.agg (c2 (((x).a) * ((y).a)))) (by rfl) (by kernel_rfl) (by kernel_rfl) (by kernel_rfl) (by rfl) (by kernel_rfl) (List.Sublist.refl _) (gives_load g4 0 37 (c2 (((x).a) * ((y).a))) (c2 (((x).a) * ((y).a))) _ (by rfl) (fun _ h => h.blk 0 (by rfl)) (Sl.refl _) Tryd.underlying37 (by rfl) (hi_2 _)) ?_
    refine flow_take (i := 12) (.agg (c2 (((((x).a) + ((x).b)) * (((y).a) + ((y).b))) - (((x).a) * ((y).a))))) (by rfl) (by kernel_rfl) (by kernel_rfl) (by kernel_rfl) (by rfl) (by kernel_rfl) (List.Sublist.refl _) (gives_call (vl := [.agg (c2 ((((x).a) + ((x).b)) * (((y).a) + ((y).b)))), .agg (c2 (((x).a) * ((y).a)))]) (by kernel_rfl) (by rfl) (fun w h => q_sub _ _ w (hG.keep h.below))) ?_
    refine flow_take (i := 13) (.agg (c2 (((x).b) * ((y).b)))) (by rfl) (by kernel_rfl) (by kernel_rfl) (by kernel_rfl) (by rfl) (by kernel_rfl) (List.Sublist.refl _) (gives_load g5 0 37 (c2 (((x).b) * ((y).b))) (c2 (((x).b) * ((y).b))) _ (by rfl) (fun _ h => h.blk 1 (by rfl)) (Sl.refl _) Tryd.underlying37 (by rfl) (hi_2 _)) ?_
    refine flow_take (i := 14) (.agg (c2 ((((((x).a) + ((x).b)) * (((y).a) + ((y).b))) - (((x).a) * ((y).a))) - (((x).b) * ((y).b))))) (by rfl) (by kernel_rfl) (by kernel_rfl) (by kernel_rfl) (by rfl) (by kernel_rfl) (List.Sublist.refl _) (gives_call (vl := [.agg (c2 (((((x).a) + ((x).b)) * (((y).a) + ((y).b))) - (((x).a) * ((y).a)))), .agg (c2 (((x).b) * ((y).b)))]) (by kernel_rfl) (by rfl) (fun w h => q_sub _ _ w (hG.keep h.below))) ?_
    refine flow_one 15 (by kernel_rfl) ?_
    refine F_alloc _ (by rfl) (by rfl) z_2 (c2 (0 : F2)) rfl (List.Sublist.refl _) ?_; intro g7
    refine flow_one 16 (by kernel_rfl) ?_
    refine F_store (t := 37) 0 g7 (c2 (0 : F2)) (c2 ((((((x).a) + ((x).b)) * (((y).a) + ((y).b))) - (((x).a) * ((y).a))) - (((x).b) * ((y).b)))) (by rfl) (by rfl) (by rfl) (by rfl) (by rfl) (hi_2 _) ((c2_size _).trans (c2_size _).symm) (c2_one _) (.inr (List.Sublist.cons _ (List.Sublist.refl _))) ?_
    simp only [List.set_cons_zero, List.set_cons_succ]
    refine flow_done (by kernel_rfl) ?_
    intro w3 hw3
    refine seq_flow (by kernel_rfl) hw3 [] [(g7, 37, (c2 ((((((x).a) + ((x).b)) * (((y).a) + ((y).b))) - (((x).a) * ((y).a))) - (((x).b) * ((y).b))))), (g4, 37, (c2 (((x).a) * ((y).a)))), (g5, 37, (c2 (((x).b) * ((y).b)))), (g6, 37, (c2 (((x).c) * ((y).c)))), (g3, 81, (c3 (0 : C3))), (g2, 81, (c3 (y))), (g1, 81, (c3 (x)))] 17 (by rfl) ?_
    refine flow_take (i := 0) (.pointer (some ⟨g1, 0, none⟩)) (by rfl) (by kernel_rfl) (by kernel_rfl) (by kernel_rfl) (by rfl) (by kernel_rfl) (List.Sublist.refl _) (gives_value _ fun _ => by kernel_rfl) ?_
    refine flow_take (i := 1) (.agg (c2 ((x).a))) (by rfl) (by kernel_rfl) (by kernel_rfl) (by kernel_rfl) (by rfl) (by kernel_rfl) (List.Sublist.refl _) (gives_load g1 0 81 (c3 (x)) (c2 ((x).a)) _ (by rfl) (fun _ h => h.blk 6 (by rfl)) (sl_3a (x) _ _ (Sl.refl _)) Tryd.underlying37 (by rfl) (hi_2 _)) ?_
    refine flow_take (i := 2) (.pointer (some ⟨g1, 24, none⟩)) (by rfl) (by kernel_rfl) (by kernel_rfl) (by kernel_rfl) (by rfl) (by kernel_rfl) (List.Sublist.refl _) (gives_value _ fun _ => by kernel_rfl) ?_
    refine flow_take (i := 3) (.agg (c2 ((x).c))) (by rfl) (by kernel_rfl) (by kernel_rfl) (by kernel_rfl) (by rfl) (by kernel_rfl) (List.Sublist.refl _) (gives_load g1 24 81 (c3 (x)) (c2 ((x).c)) _ (by rfl) (fun _ h => h.blk 6 (by rfl)) (sl_3c (x) _ _ 24 (Sl.refl _) (by rfl)) Tryd.underlying37 (by rfl) (hi_2 _)) ?_
    refine flow_take (i := 4) (.agg (c2 (((x).a) + ((x).c)))) (by rfl) (by kernel_rfl) (by kernel_rfl) (by kernel_rfl) (by rfl) (by kernel_rfl) (List.Sublist.refl _) (gives_call (vl := [.agg (c2 ((x).a)), .agg (c2 ((x).c))]) (by kernel_rfl) (by rfl) (fun w h => q_add _ _ w (hG.keep h.below))) ?_
    refine flow_take (i := 5) (.pointer (some ⟨g2, 0, none⟩)) (by rfl) (by kernel_rfl) (by kernel_rfl) (by kernel_rfl) (by rfl) (by kernel_rfl) (List.Sublist.refl _) (gives_value _ fun _ => by kernel_rfl) ?_
    refine flow_take (i := 6) (.agg (c2 ((y).a))) (by rfl) (by kernel_rfl) (by kernel_rfl) (by kernel_rfl) (by rfl) (by kernel_rfl) (List.Sublist.refl _) (gives_load g2 0 81 (c3 (y)) (c2 ((y).a)) _ (by rfl) (fun _ h => h.blk 5 (by rfl)) (sl_3a (y) _ _ (Sl.refl _)) Tryd.underlying37 (by rfl) (hi_2 _)) ?_
    refine flow_take (i := 7) (.pointer (some ⟨g2, 24, none⟩)) (by rfl) (by kernel_rfl) (by kernel_rfl) (by kernel_rfl) (by rfl) (by kernel_rfl) (List.Sublist.refl _) (gives_value _ fun _ => by kernel_rfl) ?_
    refine flow_take (i := 8) (.agg (c2 ((y).c))) (by rfl) (by kernel_rfl) (by kernel_rfl) (by kernel_rfl) (by rfl) (by kernel_rfl) (List.Sublist.refl _) (gives_load g2 24 81 (c3 (y)) (c2 ((y).c)) _ (by rfl) (fun _ h => h.blk 5 (by rfl)) (sl_3c (y) _ _ 24 (Sl.refl _) (by rfl)) Tryd.underlying37 (by rfl) (hi_2 _)) ?_
    refine flow_take (i := 9) (.agg (c2 (((y).a) + ((y).c)))) (by rfl) (by kernel_rfl) (by kernel_rfl) (by kernel_rfl) (by rfl) (by kernel_rfl) (List.Sublist.refl _) (gives_call (vl := [.agg (c2 ((y).a)), .agg (c2 ((y).c))]) (by kernel_rfl) (by rfl) (fun w h => q_add _ _ w (hG.keep h.below))) ?_
    refine flow_take (i := 10) (.agg (c2 ((((x).a) + ((x).c)) * (((y).a) + ((y).c))))) (by rfl) (by kernel_rfl) (by kernel_rfl) (by kernel_rfl) (by rfl) (by kernel_rfl) (List.Sublist.refl _) (gives_call (vl := [.agg (c2 (((x).a) + ((x).c))), .agg (c2 (((y).a) + ((y).c)))]) (by kernel_rfl) (by rfl) (fun w h => q_mul _ _ w (hG.keep h.below))) ?_
    refine flow_take (i := 11) (.agg (c2 (((x).a) * ((y).a)))) (by rfl) (by kernel_rfl) (by kernel_rfl) (by kernel_rfl) (by rfl) (by kernel_rfl) (List.Sublist.refl _) (gives_load g4 0 37 (c2 (((x).a) * ((y).a))) (c2 (((x).a) * ((y).a))) _ (by rfl) (fun _ h => h.blk 1 (by rfl)) (Sl.refl _) Tryd.underlying37 (by rfl) (hi_2 _)) ?_
    refine flow_take (i := 12) (.agg (c2 (((((x).a) + ((x).c)) * (((y).a) + ((y).c))) - (((x).a) * ((y).a))))) (by rfl) (by kernel_rfl) (by kernel_rfl) (by kernel_rfl) (by rfl) (by kernel_rfl) (List.Sublist.refl _) (gives_call (vl := [.agg (c2 ((((x).a) + ((x).c)) * (((y).a) + ((y).c)))), .agg (c2 (((x).a) * ((y).a)))]) (by kernel_rfl) (by rfl) (fun w h => q_sub _ _ w (hG.keep h.below))) ?_
    refine flow_take (i := 13) (.agg (c2 (((x).c) * ((y).c)))) (by rfl) (by kernel_rfl) (by kernel_rfl) (by kernel_rfl) (by rfl) (by kernel_rfl) (List.Sublist.refl _) (gives_load g6 0 37 (c2 (((x).c) * ((y).c))) (c2 (((x).c) * ((y).c))) _ (by rfl) (fun _ h => h.blk 3 (by rfl)) (Sl.refl _) Tryd.underlying37 (by rfl) (hi_2 _)) ?_
    refine flow_take (i := 14) (.agg (c2 ((((((x).a) + ((x).c)) * (((y).a) + ((y).c))) - (((x).a) * ((y).a))) - (((x).c) * ((y).c))))) (by rfl) (by kernel_rfl) (by kernel_rfl) (by kernel_rfl) (by rfl) (by kernel_rfl) (List.Sublist.refl _) (gives_call (vl := [.agg (c2 (((((x).a) + ((x).c)) * (((y).a) + ((y).c))) - (((x).a) * ((y).a)))), .agg (c2 (((x).c) * ((y).c)))]) (by kernel_rfl) (by rfl) (fun w h => q_sub _ _ w (hG.keep h.below))) ?_
    refine flow_one 15 (by kernel_rfl) ?_
    refine F_alloc _ (by rfl) (by rfl) z_2 (c2 (0 : F2)) rfl (List.Sublist.refl _) ?_; intro g8
    refine flow_one 16 (by kernel_rfl) ?_
    refine F_store (t := 37) 0 g8 (c2 (0 : F2)) (c2 ((((((x).a) + ((x).c)) * (((y).a) + ((y).c))) - (((x).a) * ((y).a))) - (((x).c) * ((y).c)))) (by rfl) (by rfl) (by rfl) (by rfl) (by rfl) (hi_2 _) ((c2_size _).trans (c2_size _).symm) (c2_one _) (.inr (List.Sublist.cons _ (List.Sublist.refl _))) ?_
    simp only [List.set_cons_zero, List.set_cons_succ]
    refine flow_done (by kernel_rfl) ?_
    intro w4 hw4
    refine seq_flow (by kernel_rfl) hw4 [] [(g8, 37, (c2 ((((((x).a) + ((x).c)) * (((y).a) + ((y).c))) - (((x).a) * ((y).a))) - (((x).c) * ((y).c))))), (g7, 37, (c2 ((((((x).a) + ((x).b)) * (((y).a) + ((y).b))) - (((x).a) * ((y).a))) - (((x).b) * ((y).b))))), (g4, 37, (c2 (((x).a) * ((y).a)))), (g5, 37, (c2 (((x).b) * ((y).b)))), (g6, 37, (c2 (((x).c) * ((y).c)))), (g3, 81, (c3 (0 : C3))), (g2, 81, (c3 (y))), (g1, 81, (c3 (x)))] 17 (by rfl) ?_
    refine flow_take (i := 0) (.pointer (some ⟨g1, 12, none⟩)) (by rfl) (by kernel_rfl) (by kernel_rfl) (by kernel_rfl) (by rfl) (by kernel_rfl) (List.Sublist.refl _) (gives_value _ fun _ => by kernel_rfl) ?_
    refine flow_take (i := 1) (.agg (c2 ((x).b))) (by rfl) (by kernel_rfl) (by kernel_rfl) (by kernel_rfl) (by rfl) (by kernel_rfl) (List.Sublist.refl _) (gives_load g1 12 81 (c3 (x)) (c2 ((x).b)) _ (by rfl) (fun _ h => h.blk 7 (by rfl)) (sl_3b (x) _ _ 12 (Sl.refl _) (by rfl)) Tryd.underlying37 (by rfl) (hi_2 _)) ?_
    refine flow_take (i := 2) (.pointer (some ⟨g1, 24, none⟩)) (by rfl) (by kernel_rfl) (by kernel_rfl) (by kernel_rfl) (by rfl) (by kernel_rfl) (List.Sublist.refl _) (gives_value _ fun _ => by kernel_rfl) ?_
    refine flow_take (i := 3) (.agg (c2 ((x).c))) (by rfl) (by kernel_rfl) (by kernel_rfl) (by kernel_rfl) (by rfl) (by kernel_rfl) (List.Sublist.refl _) (gives_load g1 24 81 (c3 (x)) (c2 ((x).c)) _ (by rfl) (fun _ h => h.blk 7 (by rfl)) (sl_3c (x) _ _ 24 (Sl.refl _) (by rfl)) Tryd.underlying37 (by rfl) (hi_2 _)) ?_
    refine flow_take (i := 4) (.agg (c2 (((x).b) + ((x).c)))) (by rfl) (by kernel_rfl) (by kernel_rfl) (by kernel_rfl) (by rfl) (by kernel_rfl) (List.Sublist.refl _) (gives_call (vl := [.agg (c2 ((x).b)), .agg (c2 ((x).c))]) (by kernel_rfl) (by rfl) (fun w h => q_add _ _ w (hG.keep h.below))) ?_
    refine flow_take (i := 5) (.pointer (some ⟨g2, 12, none⟩)) (by rfl) (by kernel_rfl) (by kernel_rfl) (by kernel_rfl) (by rfl) (by kernel_rfl) (List.Sublist.refl _) (gives_value _ fun _ => by kernel_rfl) ?_
    refine flow_take (i := 6) (.agg (c2 ((y).b))) (by rfl) (by kernel_rfl) (by kernel_rfl) (by kernel_rfl) (by rfl) (by kernel_rfl) (List.Sublist.refl _) (gives_load g2 12 81 (c3 (y)) (c2 ((y).b)) _ (by rfl) (fun _ h => h.blk 6 (by rfl)) (sl_3b (y) _ _ 12 (Sl.refl _) (by rfl)) Tryd.underlying37 (by rfl) (hi_2 _)) ?_
    refine flow_take (i := 7) (.pointer (some ⟨g2, 24, none⟩)) (by rfl) (by kernel_rfl) (by kernel_rfl) (by kernel_rfl) (by rfl) (by kernel_rfl) (List.Sublist.refl _) (gives_value _ fun _ => by kernel_rfl) ?_
    refine flow_take (i := 8) (.agg (c2 ((y).c))) (by rfl) (by kernel_rfl) (by kernel_rfl) (by kernel_rfl) (by rfl) (by kernel_rfl) (List.Sublist.refl _) (gives_load g2 24 81 (c3 (y)) (c2 ((y).c)) _ (by rfl) (fun _ h => h.blk 6 (by rfl)) (sl_3c (y) _ _ 24 (Sl.refl _) (by rfl)) Tryd.underlying37 (by rfl) (hi_2 _)) ?_
    refine flow_take (i := 9) (.agg (c2 (((y).b) + ((y).c)))) (by rfl) (by kernel_rfl) (by kernel_rfl) (by kernel_rfl) (by rfl) (by kernel_rfl) (List.Sublist.refl _) (gives_call (vl := [.agg (c2 ((y).b)), .agg (c2 ((y).c))]) (by kernel_rfl) (by rfl) (fun w h => q_add _ _ w (hG.keep h.below))) ?_
    refine flow_take (i := 10) (.agg (c2 ((((x).b) + ((x).c)) * (((y).b) + ((y).c))))) (by rfl) (by kernel_rfl) (by kernel_rfl) (by kernel_rfl) (by rfl) (by kernel_rfl) (List.Sublist.refl _) (gives_call (vl := [.agg (c2 (((x).b) + ((x).c))), .agg (c2 (((y).b) + ((y).c)))]) (by kernel_rfl) (by rfl) (fun w h => q_mul _ _ w (hG.keep h.below))) ?_
    refine flow_take (i := 11) (.agg (c2 (((x).b) * ((y).b)))) (by rfl) (by kernel_rfl) (by kernel_rfl) (by kernel_rfl) (by rfl) (by kernel_rfl) (List.Sublist.refl _) (gives_load g5 0 37 (c2 (((x).b) * ((y).b))) (c2 (((x).b) * ((y).b))) _ (by rfl) (fun _ h => h.blk 3 (by rfl)) (Sl.refl _) Tryd.underlying37 (by rfl) (hi_2 _)) ?_
    refine flow_take (i := 12) (.agg (c2 (((((x).b) + ((x).c)) * (((y).b) + ((y).c))) - (((x).b) * ((y).b))))) (by rfl) (by kernel_rfl) (by kernel_rfl) (by kernel_rfl) (by rfl) (by kernel_rfl) (List.Sublist.refl _) (gives_call (vl := [.agg (c2 ((((x).b) + ((x).c)) * (((y).b) + ((y).c)))), .agg (c2 (((x).b) * ((y).b)))]) (by kernel_rfl) (by rfl) (fun w h => q_sub _ _ w (hG.keep h.below))) ?_
    refine flow_take (i := 13) (.agg (c2 (((x).c) * ((y).c)))) (by rfl) (by kernel_rfl) (by kernel_rfl) (by kernel_rfl) (by rfl) (by kernel_rfl) (List.Sublist.refl _) (gives_load g6 0 37 (c2 (((x).c) * ((y).c))) (c2 (((x).c) * ((y).c))) _ (by rfl) (fun _ h => h.blk 4 (by rfl)) (Sl.refl _) Tryd.underlying37 (by rfl) (hi_2 _)) ?_
    refine flow_take (i := 14) (.agg (c2 ((((((x).b) + ((x).c)) * (((y).b) + ((y).c))) - (((x).b) * ((y).b))) - (((x).c) * ((y).c))))) (by rfl) (by kernel_rfl) (by kernel_rfl) (by kernel_rfl) (by rfl) (by kernel_rfl) (List.Sublist.refl _) (gives_call (vl := [.agg (c2 (((((x).b) + ((x).c)) * (((y).b) + ((y).c))) - (((x).b) * ((y).b)))), .agg (c2 (((x).c) * ((y).c)))]) (by kernel_rfl) (by rfl) (fun w h => q_sub _ _ w (hG.keep h.below))) ?_
    refine flow_one 15 (by kernel_rfl) ?_
    refine F_alloc _ (by rfl) (by rfl) z_2 (c2 (0 : F2)) rfl (List.Sublist.refl _) ?_; intro g9
    refine flow_one 16 (by kernel_rfl) ?_
    refine F_store (t := 37) 0 g9 (c2 (0 : F2)) (c2 ((((((x).b) + ((x).c)) * (((y).b) + ((y).c))) - (((x).b) * ((y).b))) - (((x).c) * ((y).c)))) (by rfl) (by rfl) (by rfl) (by rfl) (by rfl) (hi_2 _) ((c2_size _).trans (c2_size _).symm) (c2_one _) (.inr (List.Sublist.cons _ (List.Sublist.refl _))) ?_
    simp only [List.set_cons_zero, List.set_cons_succ]
    refine flow_done (by kernel_rfl) ?_
    intro w5 hw5
    refine seq_flow (by kernel_rfl) hw5 [] [(g9, 37, (c2 ((((((x).b) + ((x).c)) * (((y).b) + ((y).c))) - (((x).b) * ((y).b))) - (((x).c) * ((y).c))))), (g8, 37, (c2 ((((((x).a) + ((x).c)) * (((y).a) + ((y).c))) - (((x).a) * ((y).a))) - (((x).c) * ((y).c))))), (g7, 37, (c2 ((((((x).a) + ((x).b)) * (((y).a) + ((y).b))) - (((x).a) * ((y).a))) - (((x).b) * ((y).b))))), (g4, 37, (c2 (((x).a) * ((y).a)))), (g5, 37, (c2 (((x).b) * ((y).b)))), (g6, 37, (c2 (((x).c) * ((y).c)))), (g2, 81, (c3 (y))), (g1, 81, (c3 (x)))] 13 (by rfl) ?_
    refine flow_take (i := 0) (.agg (c2 (((x).a) * ((y).a)))) (by rfl) (by kernel_rfl) (by kernel_rfl) (by kernel_rfl) (by rfl) (by kernel_rfl) (List.Sublist.cons_cons _ (List.Sublist.cons_cons _ (List.Sublist.cons_cons _ (List.Sublist.cons_cons _ (List.Sublist.cons_cons _ (List.Sublist.cons_cons _ (List.Sublist.cons _ (List.Sublist.refl _)))))))) (gives_load g4 0 37 (c2 (((x).a) * ((y).a))) (c2 (((x).a) * ((y).a))) _ (by rfl) (fun _ h => h.blk 3 (by rfl)) (Sl.refl _) Tryd.underlying37 (by rfl) (hi_2 _)) ?_
    refine flow_take (i := 1) (.agg (c2 ((((((x).b) + ((x).c)) * (((y).b) + ((y).c))) - (((x).b) * ((y).b))) - (((x).c) * ((y).c))))) (by rfl) (by kernel_rfl) (by kernel_rfl) (by kernel_rfl) (by rfl) (by kernel_rfl) (List.Sublist.cons_cons _ (List.Sublist.cons_cons _ (List.Sublist.cons_cons _ (List.Sublist.cons_cons _ (List.Sublist.cons_cons _ (List.Sublist.cons_cons _ (List.Sublist.cons _ (List.Sublist.refl _)))))))) (gives_load g9 0 37 (c2 ((((((x).b) + ((x).c)) * (((y).b) + ((y).c))) - (((x).b) * ((y).b))) - (((x).c) * ((y).c)))) (c2 ((((((x).b) + ((x).c)) * (((y).b) + ((y).c))) - (((x).b) * ((y).b))) - (((x).c) * ((y).c)))) _ (by rfl) (fun _ h => h.blk 0 (by rfl)) (Sl.refl _) Tryd.underlying37 (by rfl) (hi_2 _)) ?_
    refine flow_take (i := 2) (.agg (c2 (F2.up ((((((x).b) + ((x).c)) * (((y).b) + ((y).c))) - (((x).b) * ((y).b))) - (((x).c) * ((y).c)))))) (by rfl) (by kernel_rfl) (by kernel_rfl) (by kernel_rfl) (by rfl) (by kernel_rfl) (List.Sublist.cons_cons _ (List.Sublist.cons_cons _ (List.Sublist.cons_cons _ (List.Sublist.cons_cons _ (List.Sublist.cons_cons _ (List.Sublist.cons_cons _ (List.Sublist.cons _ (List.Sublist.refl _)))))))) (gives_call (vl := [.agg (c2 ((((((x).b) + ((x).c)) * (((y).b) + ((y).c))) - (((x).b) * ((y).b))) - (((x).c) * ((y).c))))]) (by kernel_rfl) (by rfl) (fun w h => t_carried _ w (hG.keep h.below))) ?_
    refine flow_take (i := 3) (.agg (c2 ((((x).a) * ((y).a)) + (F2.up ((((((x).b) + ((x).c)) * (((y).b) + ((y).c))) - (((x).b) * ((y).b))) - (((x).c) * ((y).c))))))) (by rfl) (by kernel_rfl) (by kernel_rfl) (by kernel_rfl) (by rfl) (by kernel_rfl) (List.Sublist.cons_cons _ (List.Sublist.cons_cons _ (List.Sublist.cons_cons _ (List.Sublist.cons_cons _ (List.Sublist.cons_cons _ (List.Sublist.cons_cons _ (List.Sublist.cons _ (List.Sublist.refl _)))))))) (gives_call (vl := [.agg (c2 (((x).a) * ((y).a))), .agg (c2 (F2.up ((((((x).b) + ((x).c)) * (((y).b) + ((y).c))) - (((x).b) * ((y).b))) - (((x).c) * ((y).c)))))]) (by kernel_rfl) (by rfl) (fun w h => q_add _ _ w (hG.keep h.below))) ?_
    refine flow_take (i := 4) (.agg (c2 ((((((x).a) + ((x).b)) * (((y).a) + ((y).b))) - (((x).a) * ((y).a))) - (((x).b) * ((y).b))))) (by rfl) (by kernel_rfl) (by kernel_rfl) (by kernel_rfl) (by rfl) (by kernel_rfl) (List.Sublist.cons_cons _ (List.Sublist.cons_cons _ (List.Sublist.cons_cons _ (List.Sublist.cons_cons _ (List.Sublist.cons_cons _ (List.Sublist.cons_cons _ (List.Sublist.cons _ (List.Sublist.refl _)))))))) (gives_load g7 0 37 (c2 ((((((x).a) + ((x).b)) * (((y).a) + ((y).b))) - (((x).a) * ((y).a))) - (((x).b) * ((y).b)))) (c2 ((((((x).a) + ((x).b)) * (((y).a) + ((y).b))) - (((x).a) * ((y).a))) - (((x).b) * ((y).b)))) _ (by rfl) (fun _ h => h.blk 2 (by rfl)) (Sl.refl _) Tryd.underlying37 (by rfl) (hi_2 _)) ?_
    refine flow_take (i := 5) (.agg (c2 (((x).c) * ((y).c)))) (by rfl) (by kernel_rfl) (by kernel_rfl) (by kernel_rfl) (by rfl) (by kernel_rfl) (List.Sublist.cons_cons _ (List.Sublist.cons_cons _ (List.Sublist.cons_cons _ (List.Sublist.cons_cons _ (List.Sublist.cons_cons _ (List.Sublist.cons_cons _ (List.Sublist.cons _ (List.Sublist.refl _)))))))) (gives_load g6 0 37 (c2 (((x).c) * ((y).c))) (c2 (((x).c) * ((y).c))) _ (by rfl) (fun _ h => h.blk 5 (by rfl)) (Sl.refl _) Tryd.underlying37 (by rfl) (hi_2 _)) ?_
    refine flow_take (i := 6) (.agg (c2 (F2.up (((x).c) * ((y).c))))) (by rfl) (by kernel_rfl) (by kernel_rfl) (by kernel_rfl) (by rfl) (by kernel_rfl) (List.Sublist.cons_cons _ (List.Sublist.cons_cons _ (List.Sublist.cons_cons _ (List.Sublist.cons_cons _ (List.Sublist.cons_cons _ (List.Sublist.cons_cons _ (List.Sublist.cons _ (List.Sublist.refl _)))))))) (gives_call (vl := [.agg (c2 (((x).c) * ((y).c)))]) (by kernel_rfl) (by rfl) (fun w h => t_carried _ w (hG.keep h.below))) ?_
    refine flow_take (i := 7) (.agg (c2 (((((((x).a) + ((x).b)) * (((y).a) + ((y).b))) - (((x).a) * ((y).a))) - (((x).b) * ((y).b))) + (F2.up (((x).c) * ((y).c)))))) (by rfl) (by kernel_rfl) (by kernel_rfl) (by kernel_rfl) (by rfl) (by kernel_rfl) (List.Sublist.cons_cons _ (List.Sublist.cons_cons _ (List.Sublist.cons_cons _ (List.Sublist.cons_cons _ (List.Sublist.cons_cons _ (List.Sublist.cons_cons _ (List.Sublist.cons _ (List.Sublist.refl _)))))))) (gives_call (vl := [.agg (c2 ((((((x).a) + ((x).b)) * (((y).a) + ((y).b))) - (((x).a) * ((y).a))) - (((x).b) * ((y).b)))), .agg (c2 (F2.up (((x).c) * ((y).c))))]) (by kernel_rfl) (by rfl) (fun w h => q_add _ _ w (hG.keep h.below))) ?_
    refine flow_take (i := 8) (.agg (c2 ((((((x).a) + ((x).c)) * (((y).a) + ((y).c))) - (((x).a) * ((y).a))) - (((x).c) * ((y).c))))) (by rfl) (by kernel_rfl) (by kernel_rfl) (by kernel_rfl) (by rfl) (by kernel_rfl) (List.Sublist.cons_cons _ (List.Sublist.cons_cons _ (List.Sublist.cons_cons _ (List.Sublist.cons_cons _ (List.Sublist.cons_cons _ (List.Sublist.cons_cons _ (List.Sublist.cons _ (List.Sublist.refl _)))))))) (gives_load g8 0 37 (c2 ((((((x).a) + ((x).c)) * (((y).a) + ((y).c))) - (((x).a) * ((y).a))) - (((x).c) * ((y).c)))) (c2 ((((((x).a) + ((x).c)) * (((y).a) + ((y).c))) - (((x).a) * ((y).a))) - (((x).c) * ((y).c)))) _ (by rfl) (fun _ h => h.blk 1 (by rfl)) (Sl.refl _) Tryd.underlying37 (by rfl) (hi_2 _)) ?_
    refine flow_take (i := 9) (.agg (c2 (((x).b) * ((y).b)))) (by rfl) (by kernel_rfl) (by kernel_rfl) (by kernel_rfl) (by rfl) (by kernel_rfl) (List.Sublist.cons_cons _ (List.Sublist.cons_cons _ (List.Sublist.cons_cons _ (List.Sublist.cons_cons _ (List.Sublist.cons_cons _ (List.Sublist.cons_cons _ (List.Sublist.cons _ (List.Sublist.refl _)))))))) (gives_load g5 0 37 (c2 (((x).b) * ((y).b))) (c2 (((x).b) * ((y).b))) _ (by rfl) (fun _ h => h.blk 4 (by rfl)) (Sl.refl _) Tryd.underlying37 (by rfl) (hi_2 _)) ?_
    refine flow_take (i := 10) (.agg (c2 (((((((x).a) + ((x).c)) * (((y).a) + ((y).c))) - (((x).a) * ((y).a))) - (((x).c) * ((y).c))) + (((x).b) * ((y).b))))) (by rfl) (by kernel_rfl) (by kernel_rfl) (by kernel_rfl) (by rfl) (by kernel_rfl) (List.Sublist.cons_cons _ (List.Sublist.cons_cons _ (List.Sublist.cons_cons _ (List.Sublist.cons_cons _ (List.Sublist.cons_cons _ (List.Sublist.cons_cons _ (List.Sublist.cons _ (List.Sublist.refl _)))))))) (gives_call (vl := [.agg (c2 ((((((x).a) + ((x).c)) * (((y).a) + ((y).c))) - (((x).a) * ((y).a))) - (((x).c) * ((y).c)))), .agg (c2 (((x).b) * ((y).b)))]) (by kernel_rfl) (by rfl) (fun w h => q_add _ _ w (hG.keep h.below))) ?_
    refine flow_take (i := 11) (.agg (c3 (⟨(((x).a) * ((y).a)) + (F2.up ((((((x).b) + ((x).c)) * (((y).b) + ((y).c))) - (((x).b) * ((y).b))) - (((x).c) * ((y).c)))), ((((((x).a) + ((x).b)) * (((y).a) + ((y).b))) - (((x).a) * ((y).a))) - (((x).b) * ((y).b))) + (F2.up (((x).c) * ((y).c))), ((((((x).a) + ((x).c)) * (((y).a) + ((y).c))) - (((x).a) * ((y).a))) - (((x).c) * ((y).c))) + (((x).b) * ((y).b))⟩ : C3))) (by rfl) (by kernel_rfl) (by kernel_rfl) (by kernel_rfl) (by rfl) (by kernel_rfl) (List.Sublist.cons_cons _ (List.Sublist.cons_cons _ (List.Sublist.cons_cons _ (List.Sublist.cons_cons _ (List.Sublist.cons_cons _ (List.Sublist.cons_cons _ (List.Sublist.cons _ (List.Sublist.refl _)))))))) (gb_cubic [(0, (c2 ((((x).a) * ((y).a)) + (F2.up ((((((x).b) + ((x).c)) * (((y).b) + ((y).c))) - (((x).b) * ((y).b))) - (((x).c) * ((y).c))))))), (1, (c2 (((((((x).a) + ((x).b)) * (((y).a) + ((y).b))) - (((x).a) * ((y).a))) - (((x).b) * ((y).b))) + (F2.up (((x).c) * ((y).c)))))), (2, (c2 (((((((x).a) + ((x).c)) * (((y).a) + ((y).c))) - (((x).a) * ((y).a))) - (((x).c) * ((y).c))) + (((x).b) * ((y).b)))))] ⟨congrArg some (c2_size _).symm, congrArg some (c2_size _).symm, congrArg some (c2_size _).symm, trivial⟩ (by rfl) (c3 (⟨(((x).a) * ((y).a)) + (F2.up ((((((x).b) + ((x).c)) * (((y).b) + ((y).c))) - (((x).b) * ((y).b))) - (((x).c) * ((y).c)))), ((((((x).a) + ((x).b)) * (((y).a) + ((y).b))) - (((x).a) * ((y).a))) - (((x).b) * ((y).b))) + (F2.up (((x).c) * ((y).c))), ((((((x).a) + ((x).c)) * (((y).a) + ((y).c))) - (((x).a) * ((y).a))) - (((x).c) * ((y).c))) + (((x).b) * ((y).b))⟩ : C3)) (by rfl)) ?_
    refine flow_one 12 (by kernel_rfl) ?_
    refine F_store (t := 81) 6 g3 (c3 (0 : C3)) (c3 (⟨(((x).a) * ((y).a)) + (F2.up ((((((x).b) + ((x).c)) * (((y).b) + ((y).c))) - (((x).b) * ((y).b))) - (((x).c) * ((y).c)))), ((((((x).a) + ((x).b)) * (((y).a) + ((y).b))) - (((x).a) * ((y).a))) - (((x).b) * ((y).b))) + (F2.up (((x).c) * ((y).c))), ((((((x).a) + ((x).c)) * (((y).a) + ((y).c))) - (((x).a) * ((y).a))) - (((x).c) * ((y).c))) + (((x).b) * ((y).b))⟩ : C3)) (by rfl) (by rfl) (by rfl) (by rfl) (by rfl) (hi_3 _) ((c3_size _).trans (c3_size _).symm) (c3_one _) (.inr (List.Sublist.cons_cons _ (List.Sublist.cons_cons _ (List.Sublist.cons_cons _ (List.Sublist.cons_cons _ (List.Sublist.cons_cons _ (List.Sublist.cons_cons _ (List.Sublist.cons _ (List.Sublist.refl _))))))))) ?_
    simp only [List.set_cons_zero, List.set_cons_succ]
    refine flow_done (by kernel_rfl) ?_
    intro w6 hw6
    refine wp_ret ?_
    change bodyPost _ _ _ Exit.ret _ _
    refine (ret_cell (by rfl) (by rfl) (by rfl) (hw6.blk 6 (by rfl)) Tryd.underlying81 (by rfl) (hi_3 _) ⟨?_, hw6.below⟩)
    refine congrArg (fun z : C3 => Ending.returned (.agg (c3 z))) ?_
    apply C3.same <;> apply F2.same <;> simp only [C3.mul_a, C3.mul_b, C3.mul_c, C3.add_a, C3.add_b, C3.add_c, C3.sub_a, C3.sub_b, C3.sub_c, F2.add_a, F2.add_b, F2.sub_a, F2.sub_b, F2.mul_a, F2.mul_b, F2.up_a, F2.up_b, F2.zero_a, F2.zero_b] <;> grind
set_option maxRecDepth 100000 in
set_option maxHeartbeats 4000000 in
theorem t_scale (x : C3) (q : F2) (v : World) (hG : Glo v) : Rets 103 #[.agg (c3 (x)), .agg (c2 (q))] v (.agg (c3 (x.scale q))) := by
  refine calls_fr2 Tryd.func103 rfl (by rfl : _ = 18) (by rfl) ?_
  have hw := Hbl.nil v
  refine seq_plain hw [0, 1, 2] (by rfl) ?_
  refine L_box (.agg (c3 (x))) (by rfl) (by rfl) (by rfl) (c3 (x)) (by rfl) ?_; intro g1
  refine L_box (.agg (c2 (q))) (by rfl) (by rfl) (by rfl) (c2 (q)) (by rfl) ?_; intro g2
  refine L_alloc _ (by rfl) (by rfl) z_3 (c3 (0 : C3)) rfl ?_; intro g3
  refine L_end ?_
  intro w1 hw1
  refine seq_flow (by kernel_rfl) hw1 [] [(g2, 37, (c2 (q))), (g1, 81, (c3 (x)))] 14 (by rfl) ?_
  refine flow_take (i := 0) (.pointer (some ⟨g1, 0, none⟩)) (by rfl) (by kernel_rfl) (by kernel_rfl) (by kernel_rfl) (by rfl) (by kernel_rfl) (List.Sublist.cons _ (List.Sublist.refl _)) (gives_value _ fun _ => by kernel_rfl) ?_
  refine flow_take (i := 1) (.agg (c2 ((x).a))) (by rfl) (by kernel_rfl) (by kernel_rfl) (by kernel_rfl) (by rfl) (by kernel_rfl) (List.Sublist.cons _ (List.Sublist.refl _)) (gives_load g1 0 81 (c3 (x)) (c2 ((x).a)) _ (by rfl) (fun _ h => h.blk 1 (by rfl)) (sl_3a (x) _ _ (Sl.refl _)) Tryd.underlying37 (by rfl) (hi_2 _)) ?_
  refine flow_take (i := 2) (.agg (c2 (q))) (by rfl) (by kernel_rfl) (by kernel_rfl) (by kernel_rfl) (by rfl) (by kernel_rfl) (List.Sublist.cons _ (List.Sublist.refl _)) (gives_load g2 0 37 (c2 (q)) (c2 (q)) _ (by rfl) (fun _ h => h.blk 0 (by rfl)) (Sl.refl _) Tryd.underlying37 (by rfl) (hi_2 _)) ?_
  refine flow_take (i := 3) (.agg (c2 (((x).a) * (q)))) (by rfl) (by kernel_rfl) (by kernel_rfl) (by kernel_rfl) (by rfl) (by kernel_rfl) (List.Sublist.cons _ (List.Sublist.refl _)) (gives_call (vl := [.agg (c2 ((x).a)), .agg (c2 (q))]) (by kernel_rfl) (by rfl) (fun w h => q_mul _ _ w (hG.keep h.below))) ?_
  refine flow_take (i := 4) (.pointer (some ⟨g1, 12, none⟩)) (by rfl) (by kernel_rfl) (by kernel_rfl) (by kernel_rfl) (by rfl) (by kernel_rfl) (List.Sublist.cons _ (List.Sublist.refl _)) (gives_value _ fun _ => by kernel_rfl) ?_
  refine flow_take (i := 5) (.agg (c2 ((x).b))) (by rfl) (by kernel_rfl) (by kernel_rfl) (by kernel_rfl) (by rfl) (by kernel_rfl) (List.Sublist.cons _ (List.Sublist.refl _)) (gives_load g1 12 81 (c3 (x)) (c2 ((x).b)) _ (by rfl) (fun _ h => h.blk 1 (by rfl)) (sl_3b (x) _ _ 12 (Sl.refl _) (by rfl)) Tryd.underlying37 (by rfl) (hi_2 _)) ?_
  refine flow_take (i := 6) (.agg (c2 (q))) (by rfl) (by kernel_rfl) (by kernel_rfl) (by kernel_rfl) (by rfl) (by kernel_rfl) (List.Sublist.cons _ (List.Sublist.refl _)) (gives_load g2 0 37 (c2 (q)) (c2 (q)) _ (by rfl) (fun _ h => h.blk 0 (by rfl)) (Sl.refl _) Tryd.underlying37 (by rfl) (hi_2 _)) ?_
  refine flow_take (i := 7) (.agg (c2 (((x).b) * (q)))) (by rfl) (by kernel_rfl) (by kernel_rfl) (by kernel_rfl) (by rfl) (by kernel_rfl) (List.Sublist.cons _ (List.Sublist.refl _)) (gives_call (vl := [.agg (c2 ((x).b)), .agg (c2 (q))]) (by kernel_rfl) (by rfl) (fun w h => q_mul _ _ w (hG.keep h.below))) ?_
  refine flow_take (i := 8) (.pointer (some ⟨g1, 24, none⟩)) (by rfl) (by kernel_rfl) (by kernel_rfl) (by kernel_rfl) (by rfl) (by kernel_rfl) (List.Sublist.cons _ (List.Sublist.refl _)) (gives_value _ fun _ => by kernel_rfl) ?_
  refine flow_take (i := 9) (.agg (c2 ((x).c))) (by rfl) (by kernel_rfl) (by kernel_rfl) (by kernel_rfl) (by rfl) (by kernel_rfl) (List.Sublist.cons _ (List.Sublist.refl _)) (gives_load g1 24 81 (c3 (x)) (c2 ((x).c)) _ (by rfl) (fun _ h => h.blk 1 (by rfl)) (sl_3c (x) _ _ 24 (Sl.refl _) (by rfl)) Tryd.underlying37 (by rfl) (hi_2 _)) ?_
  refine flow_take (i := 10) (.agg (c2 (q))) (by rfl) (by kernel_rfl) (by kernel_rfl) (by kernel_rfl) (by rfl) (by kernel_rfl) (List.Sublist.cons _ (List.Sublist.refl _)) (gives_load g2 0 37 (c2 (q)) (c2 (q)) _ (by rfl) (fun _ h => h.blk 0 (by rfl)) (Sl.refl _) Tryd.underlying37 (by rfl) (hi_2 _)) ?_
  refine flow_take (i := 11) (.agg (c2 (((x).c) * (q)))) (by rfl) (by kernel_rfl) (by kernel_rfl) (by kernel_rfl) (by rfl) (by kernel_rfl) (List.Sublist.cons _ (List.Sublist.refl _)) (gives_call (vl := [.agg (c2 ((x).c)), .agg (c2 (q))]) (by kernel_rfl) (by rfl) (fun w h => q_mul _ _ w (hG.keep h.below))) ?_
  refine flow_take (i := 12) (.agg (c3 (⟨((x).a) * (q), ((x).b) * (q), ((x).c) * (q)⟩ : C3))) (by rfl) (by kernel_rfl) (by kernel_rfl) (by kernel_rfl) (by rfl) (by kernel_rfl) (List.Sublist.cons _ (List.Sublist.refl _)) (gb_cubic [(0, (c2 (((x).a) * (q)))), (1, (c2 (((x).b) * (q)))), (2, (c2 (((x).c) * (q))))] ⟨congrArg some (c2_size _).symm, congrArg some (c2_size _).symm, congrArg some (c2_size _).symm, trivial⟩ (by rfl) (c3 (⟨((x).a) * (q), ((x).b) * (q), ((x).c) * (q)⟩ : C3)) (by rfl)) ?_
  refine flow_one 13 (by kernel_rfl) ?_
  refine F_store (t := 81) 0 g3 (c3 (0 : C3)) (c3 (⟨((x).a) * (q), ((x).b) * (q), ((x).c) * (q)⟩ : C3)) (by rfl) (by rfl) (by rfl) (by rfl) (by rfl) (hi_3 _) ((c3_size _).trans (c3_size _).symm) (c3_one _) (.inr (List.Sublist.cons _ (List.Sublist.refl _))) ?_
  simp only [List.set_cons_zero, List.set_cons_succ]
  refine flow_done (by kernel_rfl) ?_
  intro w2 hw2
  refine wp_ret ?_
  change bodyPost _ _ _ Exit.ret _ _
  refine (ret_cell (by rfl) (by rfl) (by rfl) (hw2.blk 0 (by rfl)) Tryd.underlying81 (by rfl) (hi_3 _) ⟨?_, hw2.below⟩)
  exact rfl
set_option maxRecDepth 100000 in
set_option maxHeartbeats 4000000 in
theorem t_cline (x : C3) (p q : F2) (v : World) (hG : Glo v) : Rets 102 #[.agg (c3 (x)), .agg (c2 (p)), .agg (c2 (q))] v (.agg (c3 (x * C3.mk p q 0))) := by
  refine calls_fr3 Tryd.func102 rfl (by rfl : _ = 46) (by rfl) ?_
  have hw := Hbl.nil v
  refine seq_plain hw [0, 1, 2, 3] (by rfl) ?_
  refine L_box (.agg (c3 (x))) (by rfl) (by rfl) (by rfl) (c3 (x)) (by rfl) ?_; intro g1
  refine L_box (.agg (c2 (p))) (by rfl) (by rfl) (by rfl) (c2 (p)) (by rfl) ?_; intro g2
  refine L_box (.agg (c2 (q))) (by rfl) (by rfl) (by rfl) (c2 (q)) (by rfl) ?_; intro g3
  refine L_alloc _ (by rfl) (by rfl) z_3 (c3 (0 : C3)) rfl ?_; intro g4
  refine L_end ?_
  intro w1 hw1
  refine seq_flow_to (fun a w => ∃ g_7 g_8, a = fr 46 [(7, .pointer (some ⟨g_7, 0, none⟩)), (8, .pointer (some ⟨g_8, 0, none⟩)), (17, .agg (c2 (((x).b) * (q)))), (16, .agg (c2 (q))), (15, .agg (c2 ((x).b))), (14, .pointer (some ⟨g1, 12, none⟩)), (13, .agg (c2 (((x).a) * (p)))), (12, .agg (c2 (p))), (11, .agg (c2 ((x).a))), (10, .pointer (some ⟨g1, 0, none⟩)), (6, .pointer (some ⟨g4, 0, none⟩)), (5, .pointer (some ⟨g3, 0, none⟩)), (4, .pointer (some ⟨g2, 0, none⟩)), (3, .pointer (some ⟨g1, 0, none⟩)), (2, .agg (c2 (q))), (1, .agg (c2 (p))), (0, .agg (c3 (x)))] ∧ Hbl v [(g_7, 37, (c2 (((x).a) * (p)))), (g_8, 37, (c2 (((x).b) * (q)))), (g4, 81, (c3 (0 : C3))), (g3, 37, (c2 (q))), (g2, 37, (c2 (p))), (g1, 81, (c3 (x)))] w) (by kernel_rfl) hw1 [] [(g4, 81, (c3 (0 : C3))), (g3, 37, (c2 (q))), (g2, 37, (c2 (p))), (g1, 81, (c3 (x)))] 12 (by rfl) ?_ ?_
  ·
    refine flow_take (i := 0) (.pointer (some ⟨g1, 0, none⟩)) (by rfl) (by kernel_rfl) (by kernel_rfl) (by kernel_rfl) (by rfl) (by kernel_rfl) (List.Sublist.refl _) (gives_value _ fun _ => by kernel_rfl) ?_
    refine flow_take (i := 1) (.agg (c2 ((x).a))) (by rfl) (by kernel_rfl) (by kernel_rfl) (by kernel_rfl) (by rfl) (by kernel_rfl) (List.Sublist.refl _) (gives_load g1 0 81 (c3 (x)) (c2 ((x).a)) _ (by rfl) (fun _ h => h.blk 3 (by rfl)) (sl_3a (x) _ _ (Sl.refl _)) Tryd.underlying37 (by rfl) (hi_2 _)) ?_
    refine flow_take (i := 2) (.agg (c2 (p))) (by rfl) (by kernel_rfl) (by kernel_rfl) (by kernel_rfl) (by rfl) (by kernel_rfl) (List.Sublist.refl _) (gives_load g2 0 37 (c2 (p)) (c2 (p)) _ (by rfl) (fun _ h => h.blk 2 (by rfl)) (Sl.refl _) Tryd.underlying37 (by rfl) (hi_2 _)) ?_
    refine flow_take (i := 3) (.agg (c2 (((x).a) * (p)))) (by rfl) (by kernel_rfl) (by kernel_rfl) (by kernel_rfl) (by rfl) (by kernel_rfl) (List.Sublist.refl _) (gives_call (vl := [.agg (c2 ((x).a)), .agg (c2 (p))]) (by kernel_rfl) (by rfl) (fun w h => q_mul _ _ w (hG.keep h.below))) ?_
    refine flow_take (i := 4) (.pointer (some ⟨g1, 12, none⟩)) (by rfl) (by kernel_rfl) (by kernel_rfl) (by kernel_rfl) (by rfl) (by kernel_rfl) (List.Sublist.refl _) (gives_value _ fun _ => by kernel_rfl) ?_
    refine flow_take (i := 5) (.agg (c2 ((x).b))) (by rfl) (by kernel_rfl) (by kernel_rfl) (by kernel_rfl) (by rfl) (by kernel_rfl) (List.Sublist.refl _) (gives_load g1 12 81 (c3 (x)) (c2 ((x).b)) _ (by rfl) (fun _ h => h.blk 3 (by rfl)) (sl_3b (x) _ _ 12 (Sl.refl _) (by rfl)) Tryd.underlying37 (by rfl) (hi_2 _)) ?_
    refine flow_take (i := 6) (.agg (c2 (q))) (by rfl) (by kernel_rfl) (by kernel_rfl) (by kernel_rfl) (by rfl) (by kernel_rfl) (List.Sublist.refl _) (gives_load g3 0 37 (c2 (q)) (c2 (q)) _ (by rfl) (fun _ h => h.blk 1 (by rfl)) (Sl.refl _) Tryd.underlying37 (by rfl) (hi_2 _)) ?_
    refine flow_take (i := 7) (.agg (c2 (((x).b) * (q)))) (by rfl) (by kernel_rfl) (by kernel_rfl) (by kernel_rfl) (by rfl) (by kernel_rfl) (List.Sublist.refl _) (gives_call (vl := [.agg (c2 ((x).b)), .agg (c2 (q))]) (by kernel_rfl) (by rfl) (fun w h => q_mul _ _ w (hG.keep h.below))) ?_
    refine flow_two 8 9 (by kernel_rfl) ?_ ?_
    ·
      refine F_alloc _ (by rfl) (by rfl) z_2 (c2 (0 : F2)) rfl (List.Sublist.refl _) ?_; intro g_7
      refine flow_one 9 (by kernel_rfl) ?_
      refine F_alloc _ (by rfl) (by rfl) z_2 (c2 (0 : F2)) rfl (List.Sublist.cons _ (List.Sublist.refl _)) ?_; intro g_8
      refine flow_one 10 (by kernel_rfl) ?_
      refine F_store (t := 37) 1 g_7 (c2 (0 : F2)) (c2 (((x).a) * (p))) (by rfl) (by rfl) (by rfl) (by rfl) (by rfl) (hi_2 _) ((c2_size _).trans (c2_size _).symm) (c2_one _) (.inr (List.Sublist.cons _ (List.Sublist.cons _ (List.Sublist.refl _)))) ?_
      simp only [List.set_cons_zero, List.set_cons_succ]
      refine flow_one 11 (by kernel_rfl) ?_
      refine F_store (t := 37) 0 g_8 (c2 (0 : F2)) (c2 (((x).b) * (q))) (by rfl) (by rfl) (by rfl) (by rfl) (by rfl) (hi_2 _) ((c2_size _).trans (c2_size _).symm) (c2_one _) (.inr (List.Sublist.cons _ (List.Sublist.cons _ (List.Sublist.refl _)))) ?_
      simp only [List.set_cons_zero, List.set_cons_succ]
      refine flow_done (by kernel_rfl) ?_
      intro wz hz
      exact ⟨g_7, g_8, ((fr_comm _ _ _ _ (by decide))), hz.perm (List.Perm.swap _ _ _)⟩
    ·
      refine F_alloc _ (by rfl) (by rfl) z_2 (c2 (0 : F2)) rfl (List.Sublist.refl _) ?_; intro g_8
      refine flow_one 8 (by kernel_rfl) ?_
      refine F_alloc _ (by rfl) (by rfl) z_2 (c2 (0 : F2)) rfl (List.Sublist.cons _ (List.Sublist.refl _)) ?_; intro g_7
      refine flow_one 10 (by kernel_rfl) ?_
      refine F_store (t := 37) 0 g_7 (c2 (0 : F2)) (c2 (((x).a) * (p))) (by rfl) (by rfl) (by rfl) (by rfl) (by rfl) (hi_2 _) ((c2_size _).trans (c2_size _).symm) (c2_one _) (.inr (List.Sublist.cons _ (List.Sublist.cons _ (List.Sublist.refl _)))) ?_
      simp only [List.set_cons_zero, List.set_cons_succ]
      refine flow_one 11 (by kernel_rfl) ?_
      refine F_store (t := 37) 1 g_8 (c2 (0 : F2)) (c2 (((x).b) * (q))) (by rfl) (by rfl) (by rfl) (by rfl) (by rfl) (hi_2 _) ((c2_size _).trans (c2_size _).symm) (c2_one _) (.inr (List.Sublist.cons _ (List.Sublist.cons _ (List.Sublist.refl _)))) ?_
      simp only [List.set_cons_zero, List.set_cons_succ]
      refine flow_done (by kernel_rfl) ?_
      intro wz hz
      exact ⟨g_7, g_8, rfl, hz.perm (List.Perm.refl _)⟩
  ·
    rintro a0 w2 ⟨g5, g6, rfl, hw2⟩
    refine seq_flow (by kernel_rfl) hw2 [] [(g5, 37, (c2 (((x).a) * (p)))), (g6, 37, (c2 (((x).b) * (q)))), (g4, 81, (c3 (0 : C3))), (g3, 37, (c2 (q))), (g2, 37, (c2 (p))), (g1, 81, (c3 (x)))] 11 (by rfl) ?_
    refine flow_take (i := 0) (.pointer (some ⟨g1, 0, none⟩)) (by rfl) (by kernel_rfl) (by kernel_rfl) (by kernel_rfl) (by rfl) (by kernel_rfl) (List.Sublist.refl _) (gives_value _ fun _ => by kernel_rfl) ?_
    refine flow_take (i := 1) (.agg (c2 ((x).a))) (by rfl) (by kernel_rfl) (by kernel_rfl) (by kernel_rfl) (by rfl) (by kernel_rfl) (List.Sublist.refl _) (gives_load g1 0 81 (c3 (x)) (c2 ((x).a)) _ (by rfl) (fun _ h => h.blk 5 (by rfl)) (sl_3a (x) _ _ (Sl.refl _)) Tryd.underlying37 (by rfl) (hi_2 _)) ?_
    refine flow_take (i := 2) (.pointer (some ⟨g1, 12, none⟩)) (by rfl) (by kernel_rfl) (by kernel_rfl) (by kernel_rfl) (by rfl) (by kernel_rfl) (List.Sublist.refl _) (gives_value _ fun _ => by kernel_rfl) ?_
    refine flow_take (i := 3) (.agg (c2 ((x).b))) (by rfl) (by kernel_rfl) (by kernel_rfl) (by kernel_rfl) (by rfl) (by kernel_rfl) (List.Sublist.refl _) (gives_load g1 12 81 (c3 (x)) (c2 ((x).b)) _ (by rfl) (fun _ h => h.blk 5 (by rfl)) (sl_3b (x) _ _ 12 (Sl.refl _) (by rfl)) Tryd.underlying37 (by rfl) (hi_2 _)) ?_
    refine flow_take (i := 4) (.agg (c2 (((x).a) + ((x).b)))) (by rfl) (by kernel_rfl) (by kernel_rfl) (by kernel_rfl) (by rfl) (by kernel_rfl) (List.Sublist.refl _) (gives_call (vl := [.agg (c2 ((x).a)), .agg (c2 ((x).b))]) (by kernel_rfl) (by rfl) (fun w h => q_add _ _ w (hG.keep h.below))) ?_
    refine flow_take (i := 5) (.agg (c2 (p))) (by rfl) (by kernel_rfl) (by kernel_rfl) (by kernel_rfl) (by rfl) (by kernel_rfl) (List.Sublist.refl _) (gives_load g2 0 37 (c2 (p)) (c2 (p)) _ (by rfl) (fun _ h => h.blk 4 (by rfl)) (Sl.refl _) Tryd.underlying37 (by rfl) (hi_2 _)) ?_
    refine flow_take (i := 6) (.agg (c2 (q))) (by rfl) (by kernel_rfl) (by kernel_rfl) (by kernel_rfl) (by rfl) (by kernel_rfl) (List.Sublist.refl _) (gives_load g3 0 37 (c2 (q)) (c2 (q)) _ (by rfl) (fun _ h => h.blk 3 (by rfl)) (Sl.refl _) Tryd.underlying37 (by rfl) (hi_2 _)) ?_
    refine flow_take (i := 7) (.agg (c2 ((p) + (q)))) (by rfl) (by kernel_rfl) (by kernel_rfl) (by kernel_rfl) (by rfl) (by kernel_rfl) (List.Sublist.refl _) (gives_call (vl := [.agg (c2 (p)), .agg (c2 (q))]) (by kernel_rfl) (by rfl) (fun w h => q_add _ _ w (hG.keep h.below))) ?_
    refine flow_take (i := 8) (.agg (c2 ((((x).a) + ((x).b)) * ((p) + (q))))) (by rfl) (by kernel_rfl) (by kernel_rfl) (by kernel_rfl) (by rfl) (by kernel_rfl) (List.Sublist.refl _) (gives_call (vl := [.agg (c2 (((x).a) + ((x).b))), .agg (c2 ((p) + (q)))]) (by kernel_rfl) (by rfl) (fun w h => q_mul _ _ w (hG.keep h.below))) ?_
    refine flow_one 9 (by kernel_rfl) ?_
    refine F_alloc _ (by rfl) (by rfl) z_2 (c2 (0 : F2)) rfl (List.Sublist.refl _) ?_; intro g7
    refine flow_one 10 (by kernel_rfl) ?_
    refine F_store (t := 37) 0 g7 (c2 (0 : F2)) (c2 ((((x).a) + ((x).b)) * ((p) + (q)))) (by rfl) (by rfl) (by rfl) (by rfl) (by rfl) (hi_2 _) ((c2_size _).trans (c2_size _).symm) (c2_one _) (.inr (List.Sublist.cons _ (List.Sublist.refl _))) ?_
    simp only [List.set_cons_zero, List.set_cons_succ]
    refine flow_done (by kernel_rfl) ?_
    intro w3 hw3
    refine seq_flow (by kernel_rfl) hw3 [] [(g7, 37, (c2 ((((x).a) + ((x).b)) * ((p) + (q))))), (g5, 37, (c2 (((x).a) * (p)))), (g6, 37, (c2 (((x).b) * (q)))), (g3, 37, (c2 (q))), (g2, 37, (c2 (p))), (g1, 81, (c3 (x)))] 20 (by rfl) ?_
    refine flow_take (i := 0) (.agg (c2 (((x).a) * (p)))) (by rfl) (by kernel_rfl) (by kernel_rfl) (by kernel_rfl) (by rfl) (by kernel_rfl) (List.Sublist.cons_cons _ (List.Sublist.cons_cons _ (List.Sublist.cons_cons _ (List.Sublist.cons _ (List.Sublist.refl _))))) (gives_load g5 0 37 (c2 (((x).a) * (p))) (c2 (((x).a) * (p))) _ (by rfl) (fun _ h => h.blk 1 (by rfl)) (Sl.refl _) Tryd.underlying37 (by rfl) (hi_2 _)) ?_
    refine flow_take (i := 1) (.pointer (some ⟨g1, 24, none⟩)) (by rfl) (by kernel_rfl) (by kernel_rfl) (by kernel_rfl) (by rfl) (by kernel_rfl) (List.Sublist.cons_cons _ (List.Sublist.cons_cons _ (List.Sublist.cons_cons _ (List.Sublist.cons _ (List.Sublist.refl _))))) (gives_value _ fun _ => by kernel_rfl) ?_
    refine flow_take (i := 2) (.agg (c2 ((x).c))) (by rfl) (by kernel_rfl) (by kernel_rfl) (by kernel_rfl) (by rfl) (by kernel_rfl) (List.Sublist.cons_cons _ (List.Sublist.cons_cons _ (List.Sublist.cons_cons _ (List.Sublist.cons _ (List.Sublist.refl _))))) (gives_load g1 24 81 (c3 (x)) (c2 ((x).c)) _ (by rfl) (fun _ h => h.blk 5 (by rfl)) (sl_3c (x) _ _ 24 (Sl.refl _) (by rfl)) Tryd.underlying37 (by rfl) (hi_2 _)) ?_
    refine flow_take (i := 3) (.agg (c2 (q))) (by rfl) (by kernel_rfl) (by kernel_rfl) (by kernel_rfl) (by rfl) (by kernel_rfl) (List.Sublist.cons_cons _ (List.Sublist.cons_cons _ (List.Sublist.cons_cons _ (List.Sublist.cons _ (List.Sublist.refl _))))) (gives_load g3 0 37 (c2 (q)) (c2 (q)) _ (by rfl) (fun _ h => h.blk 3 (by rfl)) (Sl.refl _) Tryd.underlying37 (by rfl) (hi_2 _)) ?_
    refine flow_take (i := 4) (.agg (c2 (((x).c) * (q)))) (by rfl) (by kernel_rfl) (by kernel_rfl) (by kernel_rfl) (by rfl) (by kernel_rfl) (List.Sublist.cons_cons _ (List.Sublist.cons_cons _ (List.Sublist.cons_cons _ (List.Sublist.cons _ (List.Sublist.refl _))))) (gives_call (vl := [.agg (c2 ((x).c)), .agg (c2 (q))]) (by kernel_rfl) (by rfl) (fun w h => q_mul _ _ w (hG.keep h.below))) ?_
    refine flow_take (i := 5) (.agg (c2 (F2.up (((x).c) * (q))))) (by rfl) (by kernel_rfl) (by kernel_rfl) (by kernel_rfl) (by rfl) (by kernel_rfl) (List.Sublist.cons_cons _ (List.Sublist.cons_cons _ (List.Sublist.cons_cons _ (List.Sublist.cons _ (List.Sublist.refl _))))) (gives_call (vl := [.agg (c2 (((x).c) * (q)))]) (by kernel_rfl) (by rfl) (fun w h => t_carried _ w (hG.keep h.below))) ?_
    refine flow_take (i := 6) (.agg (c2 ((((x).a) * (p)) + (F2.up (((x).c) * (q)))))) (by rfl) (by kernel_rfl) (by kernel_rfl) (by kernel_rfl) (by rfl) (by kernel_rfl) (List.Sublist.cons_cons _ (List.Sublist.cons_cons _ (List.Sublist.cons_cons _ (List.Sublist.cons _ (List.Sublist.refl _))))) (gives_call (vl := [.agg (c2 (((x).a) * (p))), .agg (c2 (F2.up (((x).c) * (q))))]) (by kernel_rfl) (by rfl) (fun w h => q_add _ _ w (hG.keep h.below))) ?_
    refine flow_take (i := 7) (.agg (c2 ((((x).a) + ((x).b)) * ((p) + (q))))) (by rfl) (by kernel_rfl) (by kernel_rfl) (by kernel_rfl) (by rfl) (by kernel_rfl) (List.Sublist.cons_cons _ (List.Sublist.cons_cons _ (List.Sublist.cons_cons _ (List.Sublist.cons _ (List.Sublist.refl _))))) (gives_load g7 0 37 (c2 ((((x).a) + ((x).b)) * ((p) + (q)))) (c2 ((((x).a) + ((x).b)) * ((p) + (q)))) _ (by rfl) (fun _ h => h.blk 0 (by rfl)) (Sl.refl _) Tryd.underlying37 (by rfl) (hi_2 _)) ?_
    refine flow_take (i := 8) (.agg (c2 (((x).a) * (p)))) (by rfl) (by kernel_rfl) (by kernel_rfl) (by kernel_rfl) (by rfl) (by kernel_rfl) (List.Sublist.cons_cons _ (List.Sublist.cons_cons _ (List.Sublist.cons_cons _ (List.Sublist.cons _ (List.Sublist.refl _))))) (gives_load g5 0 37 (c2 (((x).a) * (p))) (c2 (((x).a) * (p))) _ (by rfl) (fun _ h => h.blk 1 (by rfl)) (Sl.refl _) Tryd.underlying37 (by rfl) (hi_2 _)) ?_
    refine flow_take (i := 9) (.agg (c2 (((((x).a) + ((x).b)) * ((p) + (q))) - (((x).a) * (p))))) (by rfl) (by kernel_rfl) (by kernel_rfl) (by kernel_rfl) (by rfl) (by kernel_rfl) (List.Sublist.cons_cons _ (List.Sublist.cons_cons _ (List.Sublist.cons_cons _ (List.Sublist.cons _ (List.Sublist.refl _))))) (gives_call (vl := [.agg (c2 ((((x).a) + ((x).b)) * ((p) + (q)))), .agg (c2 (((x).a) * (p)))]) (by kernel_rfl) (by rfl) (fun w h => q_sub _ _ w (hG.keep h.below))) ?_
    refine flow_take (i := 10) (.agg (c2 (((x).b) * (q)))) (by rfl) (by kernel_rfl) (by kernel_rfl) (by kernel_rfl) (by rfl) (by kernel_rfl) (List.Sublist.cons_cons _ (List.Sublist.cons_cons _ (List.Sublist.cons_cons _ (List.Sublist.cons _ (List.Sublist.refl _))))) (gives_load g6 0 37 (c2 (((x).b) * (q))) (c2 (((x).b) * (q))) _ (by rfl) (fun _ h => h.blk 2 (by rfl)) (Sl.refl _) Tryd.underlying37 (by rfl) (hi_2 _)) ?_
    refine flow_take (i := 11) (.agg (c2 ((((((x).a) + ((x).b)) * ((p) + (q))) - (((x).a) * (p))) - (((x).b) * (q))))) (by rfl) (by kernel_rfl) (by kernel_rfl) (by kernel_rfl) (by rfl) (by kernel_rfl) (List.Sublist.cons_cons _ (List.Sublist.cons_cons _ (List.Sublist.cons_cons _ (List.Sublist.cons _ (List.Sublist.refl _))))) (gives_call (vl := [.agg (c2 (((((x).a) + ((x).b)) * ((p) + (q))) - (((x).a) * (p)))), .agg (c2 (((x).b) * (q)))]) (by kernel_rfl) (by rfl) (fun w h => q_sub _ _ w (hG.keep h.below))) ?_
    refine flow_take (i := 12) (.agg (c2 (((x).b) * (q)))) (by rfl) (by kernel_rfl) (by kernel_rfl) (by kernel_rfl) (by rfl) (by kernel_rfl) (List.Sublist.cons_cons _ (List.Sublist.cons_cons _ (List.Sublist.cons_cons _ (List.Sublist.cons _ (List.Sublist.refl _))))) (gives_load g6 0 37 (c2 (((x).b) * (q))) (c2 (((x).b) * (q))) _ (by rfl) (fun _ h => h.blk 2 (by rfl)) (Sl.refl _) Tryd.underlying37 (by rfl) (hi_2 _)) ?_
    refine flow_take (i := 13) (.pointer (some ⟨g1, 24, none⟩)) (by rfl) (by kernel_rfl) (by kernel_rfl) (by kernel_rfl) (by rfl) (by kernel_rfl) (List.Sublist.cons_cons _ (List.Sublist.cons_cons _ (List.Sublist.cons_cons _ (List.Sublist.cons _ (List.Sublist.refl _))))) (gives_value _ fun _ => by kernel_rfl) ?_
    refine flow_take (i := 14) (.agg (c2 ((x).c))) (by rfl) (by kernel_rfl) (by kernel_rfl) (by kernel_rfl) (by rfl) (by kernel_rfl) (List.Sublist.cons_cons _ (List.Sublist.cons_cons _ (List.Sublist.cons_cons _ (List.Sublist.cons _ (List.Sublist.refl _))))) (gives_load g1 24 81 (c3 (x)) (c2 ((x).c)) _ (by rfl) (fun _ h => h.blk 5 (by rfl)) (sl_3c (x) _ _ 24 (Sl.refl _) (by rfl)) Tryd.underlying37 (by rfl) (hi_2 _)) ?_
    refine flow_take (i := 15) (.agg (c2 (p))) (by rfl) (by kernel_rfl) (by kernel_rfl) (by kernel_rfl) (by rfl) (by kernel_rfl) (List.Sublist.cons_cons _ (List.Sublist.cons_cons _ (List.Sublist.cons_cons _ (List.Sublist.cons _ (List.Sublist.refl _))))) (gives_load g2 0 37 (c2 (p)) (c2 (p)) _ (by rfl) (fun _ h => h.blk 4 (by rfl)) (Sl.refl _) Tryd.underlying37 (by rfl) (hi_2 _)) ?_
    refine flow_take (i := 16) (.agg (c2 (((x).c) * (p)))) (by rfl) (by kernel_rfl) (by kernel_rfl) (by kernel_rfl) (by rfl) (by kernel_rfl) (List.Sublist.cons_cons _ (List.Sublist.cons_cons _ (List.Sublist.cons_cons _ (List.Sublist.cons _ (List.Sublist.refl _))))) (gives_call (vl := [.agg (c2 ((x).c)), .agg (c2 (p))]) (by kernel_rfl) (by rfl) (fun w h => q_mul _ _ w (hG.keep h.below))) ?_
    refine flow_take (i := 17) (.agg (c2 ((((x).b) * (q)) + (((x).c) * (p))))) (by rfl) (by kernel_rfl) (by kernel_rfl) (by kernel_rfl) (by rfl) (by kernel_rfl) (List.Sublist.cons_cons _ (List.Sublist.cons_cons _ (List.Sublist.cons_cons _ (List.Sublist.cons _ (List.Sublist.refl _))))) (gives_call (vl := [.agg (c2 (((x).b) * (q))), .agg (c2 (((x).c) * (p)))]) (by kernel_rfl) (by rfl) (fun w h => q_add _ _ w (hG.keep h.below))) ?_
    refine flow_take (i := 18) (.agg (c3 (⟨(((x).a) * (p)) + (F2.up (((x).c) * (q))), (((((x).a) + ((x).b)) * ((p) + (q))) - (((x).a) * (p))) - (((x).b) * (q)), (((x).b) * (q)) + (((x).c) * (p))⟩ : C3))) (by rfl) (by kernel_rfl) (by kernel_rfl) (by kernel_rfl) (by rfl) (by kernel_rfl) (List.Sublist.cons_cons _ (List.Sublist.cons_cons _ (List.Sublist.cons_cons _ (List.Sublist.cons _ (List.Sublist.refl _))))) (gb_cubic [(0, (c2 ((((x).a) * (p)) + (F2.up (((x).c) * (q)))))), (1, (c2 ((((((x).a) + ((x).b)) * ((p) + (q))) - (((x).a) * (p))) - (((x).b) * (q))))), (2, (c2 ((((x).b) * (q)) + (((x).c) * (p)))))] ⟨congrArg some (c2_size _).symm, congrArg some (c2_size _).symm, congrArg some (c2_size _).symm, trivial⟩ (by rfl) (c3 (⟨(((x).a) * (p)) + (F2.up (((x).c) * (q))), (((((x).a) + ((x).b)) * ((p) + (q))) - (((x).a) * (p))) - (((x).b) * (q)), (((x).b) * (q)) + (((x).c) * (p))⟩ : C3)) (by rfl)) ?_
    refine flow_one 19 (by kernel_rfl) ?_
    refine F_store (t := 81) 3 g4 (c3 (0 : C3)) (c3 (⟨(((x).a) * (p)) + (F2.up (((x).c) * (q))), (((((x).a) + ((x).b)) * ((p) + (q))) - (((x).a) * (p))) - (((x).b) * (q)), (((x).b) * (q)) + (((x).c) * (p))⟩ : C3)) (by rfl) (by rfl) (by rfl) (by rfl) (by rfl) (hi_3 _) ((c3_size _).trans (c3_size _).symm) (c3_one _) (.inr (List.Sublist.cons_cons _ (List.Sublist.cons_cons _ (List.Sublist.cons_cons _ (List.Sublist.cons _ (List.Sublist.refl _)))))) ?_
    simp only [List.set_cons_zero, List.set_cons_succ]
    refine flow_done (by kernel_rfl) ?_
    intro w4 hw4
    refine wp_ret ?_
    change bodyPost _ _ _ Exit.ret _ _
    refine (ret_cell (by rfl) (by rfl) (by rfl) (hw4.blk 3 (by rfl)) Tryd.underlying81 (by rfl) (hi_3 _) ⟨?_, hw4.below⟩)
    refine congrArg (fun z : C3 => Ending.returned (.agg (c3 z))) ?_
    apply C3.same <;> apply F2.same <;> simp only [C3.mul_a, C3.mul_b, C3.mul_c, C3.add_a, C3.add_b, C3.add_c, C3.sub_a, C3.sub_b, C3.sub_c, F2.add_a, F2.add_b, F2.sub_a, F2.sub_b, F2.mul_a, F2.mul_b, F2.up_a, F2.up_b, F2.zero_a, F2.zero_b, Fp.mz] <;> grind
set_option maxRecDepth 100000 in
set_option maxHeartbeats 4000000 in
theorem t_mul (x y : T12) (v : World) (hG : Glo v) : Rets 46 #[.agg (c12 (x)), .agg (c12 (y))] v (.agg (c12 (x * y))) := by
  refine calls_fr2 Tryd.func46 rfl (by rfl : _ = 39) (by rfl) ?_
  have hw := Hbl.nil v
  refine seq_plain hw [0, 1, 2] (by rfl) ?_
  refine L_box (.agg (c12 (x))) (by rfl) (by rfl) (by rfl) (c12 (x)) (by rfl) ?_; intro g1
  refine L_box (.agg (c12 (y))) (by rfl) (by rfl) (by rfl) (c12 (y)) (by rfl) ?_; intro g2
  refine L_alloc _ (by rfl) (by rfl) z_12 (c12 (0 : T12)) rfl ?_; intro g3
  refine L_end ?_
  intro w1 hw1
  refine seq_flow_to (fun a w => ∃ g_5 g_6, a = fr 39 [(5, .pointer (some ⟨g_5, 0, none⟩)), (6, .pointer (some ⟨g_6, 0, none⟩)), (17, .agg (c3 (((x).b) * ((y).b)))), (16, .agg (c3 ((y).b))), (15, .pointer (some ⟨g2, 36, none⟩)), (14, .agg (c3 ((x).b))), (13, .pointer (some ⟨g1, 36, none⟩)), (12, .agg (c3 (((x).a) * ((y).a)))), (11, .agg (c3 ((y).a))), (10, .pointer (some ⟨g2, 0, none⟩)), (9, .agg (c3 ((x).a))), (8, .pointer (some ⟨g1, 0, none⟩)), (4, .pointer (some ⟨g3, 0, none⟩)), (3, .pointer (some ⟨g2, 0, none⟩)), (2, .pointer (some ⟨g1, 0, none⟩)), (1, .agg (c12 (y))), (0, .agg (c12 (x)))] ∧ Hbl v [(g_5, 81, (c3 (((x).a) * ((y).a)))), (g_6, 81, (c3 (((x).b) * ((y).b)))), (g3, 83, (c12 (0 : T12))), (g2, 83, (c12 (y))), (g1, 83, (c12 (x)))] w) (by kernel_rfl) hw1 [] [(g3, 83, (c12 (0 : T12))), (g2, 83, (c12 (y))), (g1, 83, (c12 (x)))] 14 (by rfl) ?_ ?_
  ·
    refine flow_take (i := 0) (.pointer (some ⟨g1, 0, none⟩)) (by rfl) (by kernel_rfl) (by kernel_rfl) (by kernel_rfl) (by rfl) (by kernel_rfl) (List.Sublist.refl _) (gives_value _ fun _ => by kernel_rfl) ?_
    refine flow_take (i := 1) (.agg (c3 ((x).a))) (by rfl) (by kernel_rfl) (by kernel_rfl) (by kernel_rfl) (by rfl) (by kernel_rfl) (List.Sublist.refl _) (gives_load g1 0 83 (c12 (x)) (c3 ((x).a)) _ (by rfl) (fun _ h => h.blk 2 (by rfl)) (sl_12a (x) _ _ (Sl.refl _)) Tryd.underlying81 (by rfl) (hi_3 _)) ?_
    refine flow_take (i := 2) (.pointer (some ⟨g2, 0, none⟩)) (by rfl) (by kernel_rfl) (by kernel_rfl) (by kernel_rfl) (by rfl) (by kernel_rfl) (List.Sublist.refl _) (gives_value _ fun _ => by kernel_rfl) ?_
    refine flow_take (i := 3) (.agg (c3 ((y).a))) (by rfl) (by kernel_rfl) (by kernel_rfl) (by kernel_rfl) (by rfl) (by kernel_rfl) (List.Sublist.refl _) (gives_load g2 0 83 (c12 (y)) (c3 ((y).a)) _ (by rfl) (fun _ h => h.blk 1 (by rfl)) (sl_12a (y) _ _ (Sl.refl _)) Tryd.underlying81 (by rfl) (hi_3 _)) ?_
    refine flow_take (i := 4) (.agg (c3 (((x).a) * ((y).a)))) (by rfl) (by kernel_rfl) (by kernel_rfl) (by kernel_rfl) (by rfl) (by kernel_rfl) (List.Sublist.refl _) (gives_call (vl := [.agg (c3 ((x).a)), .agg (c3 ((y).a))]) (by kernel_rfl) (by rfl) (fun w h => t_cmul _ _ w (hG.keep h.below))) ?_
    refine flow_take (i := 5) (.pointer (some ⟨g1, 36, none⟩)) (by rfl) (by kernel_rfl) (by kernel_rfl) (by kernel_rfl) (by rfl) (by kernel_rfl) (List.Sublist.refl _) (gives_value _ fun _ => by kernel_rfl) ?_
    refine flow_take (i := 6) (.agg (c3 ((x).b))) (by rfl) (by kernel_rfl) (by kernel_rfl) (by kernel_rfl) (by rfl) (by kernel_rfl) (List.Sublist.refl _) (gives_load g1 36 83 (c12 (x)) (c3 ((x).b)) _ (by rfl) (fun _ h => h.blk 2 (by rfl)) (sl_12b (x) _ _ 36 (Sl.refl _) (by rfl)) Tryd.underlying81 (by rfl) (hi_3 _)) ?_
    refine flow_take (i := 7) (.pointer (some ⟨g2, 36, none⟩)) (by rfl) (by kernel_rfl) (by kernel_rfl) (by kernel_rfl) (by rfl) (by kernel_rfl) (List.Sublist.refl _) (gives_value _ fun _ => by kernel_rfl) ?_
    refine flow_take (i := 8) (.agg (c3 ((y).b))) (by rfl) (by kernel_rfl) (by kernel_rfl) (by kernel_rfl) (by rfl) (by kernel_rfl) (List.Sublist.refl _) (gives_load g2 36 83 (c12 (y)) (c3 ((y).b)) _ (by rfl) (fun _ h => h.blk 1 (by rfl)) (sl_12b (y) _ _ 36 (Sl.refl _) (by rfl)) Tryd.underlying81 (by rfl) (hi_3 _)) ?_
    refine flow_take (i := 9) (.agg (c3 (((x).b) * ((y).b)))) (by rfl) (by kernel_rfl) (by kernel_rfl) (by kernel_rfl) (by rfl) (by kernel_rfl) (List.Sublist.refl _) (gives_call (vl := [.agg (c3 ((x).b)), .agg (c3 ((y).b))]) (by kernel_rfl) (by rfl) (fun w h => t_cmul _ _ w (hG.keep h.below))) ?_
    refine flow_two 10 11 (by kernel_rfl) ?_ ?_
    ·
      refine F_alloc _ (by rfl) (by rfl) z_3 (c3 (0 : C3)) rfl (List.Sublist.refl _) ?_; intro g_5
      refine flow_one 11 (by kernel_rfl) ?_
      refine F_alloc _ (by rfl) (by rfl) z_3 (c3 (0 : C3)) rfl (List.Sublist.cons _ (List.Sublist.refl _)) ?_; intro g_6
      refine flow_one 12 (by kernel_rfl) ?_
      refine F_store (t := 81) 1 g_5 (c3 (0 : C3)) (c3 (((x).a) * ((y).a))) (by rfl) (by rfl) (by rfl) (by rfl) (by rfl) (hi_3 _) ((c3_size _).trans (c3_size _).symm) (c3_one _) (.inr (List.Sublist.cons _ (List.Sublist.cons _ (List.Sublist.refl _)))) ?_
      simp only [List.set_cons_zero, List.set_cons_succ]
      refine flow_one 13 (by kernel_rfl) ?_
      refine F_store (t := 81) 0 g_6 (c3 (0 : C3)) (c3 (((x).b) * ((y).b))) (by rfl) (by rfl) (by rfl) (by rfl) (by rfl) (hi_3 _) ((c3_size _).trans (c3_size _).symm) (c3_one _) (.inr (List.Sublist.cons _ (List.Sublist.cons _ (List.Sublist.refl _)))) ?_
      simp only [List.set_cons_zero, List.set_cons_succ]
      refine flow_done (by kernel_rfl) ?_
      intro wz hz
      exact ⟨g_5, g_6, ((fr_comm _ _ _ _ (by decide))), hz.perm (List.Perm.swap _ _ _)⟩
    ·
      refine F_alloc _ (by rfl) (by rfl) z_3 (c3 (0 : C3)) rfl (List.Sublist.refl _) ?_; intro g_6
      refine flow_one 10 (by kernel_rfl) ?_
      refine F_alloc _ (by rfl) (by rfl) z_3 (c3 (0 : C3)) rfl (List.Sublist.cons _ (List.Sublist.refl _)) ?_; intro g_5
      refine flow_one 12 (by kernel_rfl) ?_
      refine F_store (t := 81) 0 g_5 (c3 (0 : C3)) (c3 (((x).a) * ((y).a))) (by rfl) (by rfl) (by rfl) (by rfl) (by rfl) (hi_3 _) ((c3_size _).trans (c3_size _).symm) (c3_one _) (.inr (List.Sublist.cons _ (List.Sublist.cons _ (List.Sublist.refl _)))) ?_
      simp only [List.set_cons_zero, List.set_cons_succ]
      refine flow_one 13 (by kernel_rfl) ?_
      refine F_store (t := 81) 1 g_6 (c3 (0 : C3)) (c3 (((x).b) * ((y).b))) (by rfl) (by rfl) (by rfl) (by rfl) (by rfl) (hi_3 _) ((c3_size _).trans (c3_size _).symm) (c3_one _) (.inr (List.Sublist.cons _ (List.Sublist.cons _ (List.Sublist.refl _)))) ?_
      simp only [List.set_cons_zero, List.set_cons_succ]
      refine flow_done (by kernel_rfl) ?_
      intro wz hz
      exact ⟨g_5, g_6, rfl, hz.perm (List.Perm.refl _)⟩
  ·
    rintro a0 w2 ⟨g4, g5, rfl, hw2⟩
    refine seq_flow (by kernel_rfl) hw2 [] [(g4, 81, (c3 (((x).a) * ((y).a)))), (g5, 81, (c3 (((x).b) * ((y).b)))), (g3, 83, (c12 (0 : T12))), (g2, 83, (c12 (y))), (g1, 83, (c12 (x)))] 13 (by rfl) ?_
    refine flow_take (i := 0) (.pointer (some ⟨g1, 0, none⟩)) (by rfl) (by kernel_rfl) (by kernel_rfl) (by kernel_rfl) (by rfl) (by kernel_rfl) (List.Sublist.refl _) (gives_value _ fun _ => by kernel_rfl) ?_
    refine flow_take (i := 1) (.agg (c3 ((x).a))) (by rfl) (by kernel_rfl) (by kernel_rfl) (by kernel_rfl) (by rfl) (by kernel_rfl) (List.Sublist.refl _) (gives_load g1 0 83 (c12 (x)) (c3 ((x).a)) _ (by rfl) (fun _ h => h.blk 4 (by rfl)) (sl_12a (x) _ _ (Sl.refl _)) Tryd.underlying81 (by rfl) (hi_3 _)) ?_
    refine flow_take (i := 2) (.pointer (some ⟨g1, 36, none⟩)) (by rfl) (by kernel_rfl) (by kernel_rfl) (by kernel_rfl) (by rfl) (by kernel_rfl) (List.Sublist.refl _) (gives_value _ fun _ => by kernel_rfl) ?_
    refine flow_take (i := 3) (.agg (c3 ((x).b))) (by rfl) (by kernel_rfl) (by kernel_rfl) (by kernel_rfl) (by rfl) (by kernel_rfl) (List.Sublist.refl _) (gives_load g1 36 83 (c12 (x)) (c3 ((x).b)) _ (by rfl) (fun _ h => h.blk 4 (by rfl)) (sl_12b (x) _ _ 36 (Sl.refl _) (by rfl)) Tryd.underlying81 (by rfl) (hi_3 _)) ?_
    refine flow_take (i := 4) (.agg (c3 (((x).a) + ((x).b)))) (by rfl) (by kernel_rfl) (by kernel_rfl) (by kernel_rfl) (by rfl) (by kernel_rfl) (List.Sublist.refl _) (gives_call (vl := [.agg (c3 ((x).a)), .agg (c3 ((x).b))]) (by kernel_rfl) (by rfl) (fun w h => t_cadd _ _ w (hG.keep h.below))) ?_
    refine flow_take (i := 5) (.pointer (some ⟨g2, 0, none⟩)) (by rfl) (by kernel_rfl) (by kernel_rfl) (by kernel_rfl) (by rfl) (by kernel_rfl) (List.Sublist.refl _) (gives_value _ fun _ => by kernel_rfl) ?_
    refine flow_take (i := 6) (.agg (c3 ((y).a))) (by rfl) (by kernel_rfl) (by kernel_rfl) (by kernel_rfl) (by rfl) (by kernel_rfl) (List.Sublist.refl _) (gives_load g2 0 83 (c12 (y)) (c3 ((y).a)) _ (by rfl) (fun _ h => h.blk 3 (by rfl)) (sl_12a (y) _ _ (Sl.refl _)) Tryd.underlying81 (by rfl) (hi_3 _)) ?_
    refine flow_take (i := 7) (.pointer (some ⟨g2, 36, none⟩)) (by rfl) (by kernel_rfl) (by kernel_rfl) (by kernel_rfl) (by rfl) (by kernel_rfl) (List.Sublist.refl _) (gives_value _ fun _ => by kernel_rfl) ?_
    refine flow_take (i := 8) (.agg (c3 ((y).b))) (by rfl) (by kernel_rfl) (by kernel_rfl) (by kernel_rfl) (by rfl) (by kernel_rfl) (List.Sublist.refl _) (gives_load g2 36 83 (c12 (y)) (c3 ((y).b)) _ (by rfl) (fun _ h => h.blk 3 (by rfl)) (sl_12b (y) _ _ 36 (Sl.refl _) (by rfl)) Tryd.underlying81 (by rfl) (hi_3 _)) ?_
    refine flow_take (i := 9) (.agg (c3 (((y).a) + ((y).b)))) (by rfl) (by kernel_rfl) (by kernel_rfl) (by kernel_rfl) (by rfl) (by kernel_rfl) (List.Sublist.refl _) (gives_call (vl := [.agg (c3 ((y).a)), .agg (c3 ((y).b))]) (by kernel_rfl) (by rfl) (fun w h => t_cadd _ _ w (hG.keep h.below))) ?_
    refine flow_take (i := 10) (.agg (c3 ((((x).a) + ((x).b)) * (((y).a) + ((y).b))))) (by rfl) (by kernel_rfl) (by kernel_rfl) (by kernel_rfl) (by rfl) (by kernel_rfl) (List.Sublist.refl _) (gives_call (vl := [.agg (c3 (((x).a) + ((x).b))), .agg (c3 (((y).a) + ((y).b)))]) (by kernel_rfl) (by rfl) (fun w h => t_cmul _ _ w (hG.keep h.below))) ?_
    refine flow_one 11 (by kernel_rfl) ?_
    refine F_alloc _ (by rfl) (by rfl) z_3 (c3 (0 : C3)) rfl (List.Sublist.refl _) ?_; intro g6
    refine flow_one 12 (by kernel_rfl) ?_
    refine F_store (t := 81) 0 g6 (c3 (0 : C3)) (c3 ((((x).a) + ((x).b)) * (((y).a) + ((y).b)))) (by rfl) (by rfl) (by rfl) (by rfl) (by rfl) (hi_3 _) ((c3_size _).trans (c3_size _).symm) (c3_one _) (.inr (List.Sublist.cons _ (List.Sublist.refl _))) ?_
    simp only [List.set_cons_zero, List.set_cons_succ]
    refine flow_done (by kernel_rfl) ?_
    intro w3 hw3
    refine seq_flow (by kernel_rfl) hw3 [] [(g6, 81, (c3 ((((x).a) + ((x).b)) * (((y).a) + ((y).b))))), (g4, 81, (c3 (((x).a) * ((y).a)))), (g5, 81, (c3 (((x).b) * ((y).b)))), (g2, 83, (c12 (y))), (g1, 83, (c12 (x)))] 11 (by rfl) ?_
    refine flow_take (i := 0) (.agg (c3 (((x).a) * ((y).a)))) (by rfl) (by kernel_rfl) (by kernel_rfl) (by kernel_rfl) (by rfl) (by kernel_rfl) (List.Sublist.cons_cons _ (List.Sublist.cons_cons _ (List.Sublist.cons_cons _ (List.Sublist.cons _ (List.Sublist.refl _))))) (gives_load g4 0 81 (c3 (((x).a) * ((y).a))) (c3 (((x).a) * ((y).a))) _ (by rfl) (fun _ h => h.blk 1 (by rfl)) (Sl.refl _) Tryd.underlying81 (by rfl) (hi_3 _)) ?_
    refine flow_take (i := 1) (.agg (c3 (((x).b) * ((y).b)))) (by rfl) (by kernel_rfl) (by kernel_rfl) (by kernel_rfl) (by rfl) (by kernel_rfl) (List.Sublist.cons_cons _ (List.Sublist.cons_cons _ (List.Sublist.cons_cons _ (List.Sublist.cons _ (List.Sublist.refl _))))) (gives_load g5 0 81 (c3 (((x).b) * ((y).b))) (c3 (((x).b) * ((y).b))) _ (by rfl) (fun _ h => h.blk 2 (by rfl)) (Sl.refl _) Tryd.underlying81 (by rfl) (hi_3 _)) ?_
    refine flow_take (i := 2) (.agg (c3 (C3.shift (((x).b) * ((y).b))))) (by rfl) (by kernel_rfl) (by kernel_rfl) (by kernel_rfl) (by rfl) (by kernel_rfl) (List.Sublist.cons_cons _ (List.Sublist.cons_cons _ (List.Sublist.cons_cons _ (List.Sublist.cons _ (List.Sublist.refl _))))) (gives_call (vl := [.agg (c3 (((x).b) * ((y).b)))]) (by kernel_rfl) (by rfl) (fun w h => t_shift _ w (hG.keep h.below))) ?_
    refine flow_take (i := 3) (.agg (c3 ((((x).a) * ((y).a)) + (C3.shift (((x).b) * ((y).b)))))) (by rfl) (by kernel_rfl) (by kernel_rfl) (by kernel_rfl) (by rfl) (by kernel_rfl) (List.Sublist.cons_cons _ (List.Sublist.cons_cons _ (List.Sublist.cons_cons _ (List.Sublist.cons _ (List.Sublist.refl _))))) (gives_call (vl := [.agg (c3 (((x).a) * ((y).a))), .agg (c3 (C3.shift (((x).b) * ((y).b))))]) (by kernel_rfl) (by rfl) (fun w h => t_cadd _ _ w (hG.keep h.below))) ?_
    refine flow_take (i := 4) (.agg (c3 ((((x).a) + ((x).b)) * (((y).a) + ((y).b))))) (by rfl) (by kernel_rfl) (by kernel_rfl) (by kernel_rfl) (by rfl) (by kernel_rfl) (List.Sublist.cons_cons _ (List.Sublist.cons_cons _ (List.Sublist.cons_cons _ (List.Sublist.cons _ (List.Sublist.refl _))))) (gives_load g6 0 81 (c3 ((((x).a) + ((x).b)) * (((y).a) + ((y).b)))) (c3 ((((x).a) + ((x).b)) * (((y).a) + ((y).b)))) _ (by rfl) (fun _ h => h.blk 0 (by rfl)) (Sl.refl _) Tryd.underlying81 (by rfl) (hi_3 _)) ?_
    refine flow_take (i := 5) (.agg (c3 (((x).a) * ((y).a)))) (by rfl) (by kernel_rfl) (by kernel_rfl) (by kernel_rfl) (by rfl) (by kernel_rfl) (List.Sublist.cons_cons _ (List.Sublist.cons_cons _ (List.Sublist.cons_cons _ (List.Sublist.cons _ (List.Sublist.refl _))))) (gives_load g4 0 81 (c3 (((x).a) * ((y).a))) (c3 (((x).a) * ((y).a))) _ (by rfl) (fun _ h => h.blk 1 (by rfl)) (Sl.refl _) Tryd.underlying81 (by rfl) (hi_3 _)) ?_
    refine flow_take (i := 6) (.agg (c3 (((((x).a) + ((x).b)) * (((y).a) + ((y).b))) - (((x).a) * ((y).a))))) (by rfl) (by kernel_rfl) (by kernel_rfl) (by kernel_rfl) (by rfl) (by kernel_rfl) (List.Sublist.cons_cons _ (List.Sublist.cons_cons _ (List.Sublist.cons_cons _ (List.Sublist.cons _ (List.Sublist.refl _))))) (gives_call (vl := [.agg (c3 ((((x).a) + ((x).b)) * (((y).a) + ((y).b)))), .agg (c3 (((x).a) * ((y).a)))]) (by kernel_rfl) (by rfl) (fun w h => t_csub _ _ w (hG.keep h.below))) ?_
    refine flow_take (i := 7) (.agg (c3 (((x).b) * ((y).b)))) (by rfl) (by kernel_rfl) (by kernel_rfl) (by kernel_rfl) (by rfl) (by kernel_rfl) (List.Sublist.cons_cons _ (List.Sublist.cons_cons _ (List.Sublist.cons_cons _ (List.Sublist.cons _ (List.Sublist.refl _))))) (gives_load g5 0 81 (c3 (((x).b) * ((y).b))) (c3 (((x).b) * ((y).b))) _ (by rfl) (fun _ h => h.blk 2 (by rfl)) (Sl.refl _) Tryd.underlying81 (by rfl) (hi_3 _)) ?_
    refine flow_take (i := 8) (.agg (c3 ((((((x).a) + ((x).b)) * (((y).a) + ((y).b))) - (((x).a) * ((y).a))) - (((x).b) * ((y).b))))) (by rfl) (by kernel_rfl) (by kernel_rfl) (by kernel_rfl) (by rfl) (by kernel_rfl) (List.Sublist.cons_cons _ (List.Sublist.cons_cons _ (List.Sublist.cons_cons _ (List.Sublist.cons _ (List.Sublist.refl _))))) (gives_call (vl := [.agg (c3 (((((x).a) + ((x).b)) * (((y).a) + ((y).b))) - (((x).a) * ((y).a)))), .agg (c3 (((x).b) * ((y).b)))]) (by kernel_rfl) (by rfl) (fun w h => t_csub _ _ w (hG.keep h.below))) ?_
    refine flow_take (i := 9) (.agg (c12 (⟨(((x).a) * ((y).a)) + (C3.shift (((x).b) * ((y).b))), (((((x).a) + ((x).b)) * (((y).a) + ((y).b))) - (((x).a) * ((y).a))) - (((x).b) * ((y).b))⟩ : T12))) (by rfl) (by kernel_rfl) (by kernel_rfl) (by kernel_rfl) (by rfl) (by kernel_rfl) (List.Sublist.cons_cons _ (List.Sublist.cons_cons _ (List.Sublist.cons_cons _ (List.Sublist.cons _ (List.Sublist.refl _))))) (gb_tower [(0, (c3 ((((x).a) * ((y).a)) + (C3.shift (((x).b) * ((y).b)))))), (1, (c3 ((((((x).a) + ((x).b)) * (((y).a) + ((y).b))) - (((x).a) * ((y).a))) - (((x).b) * ((y).b)))))] ⟨congrArg some (c3_size _).symm, congrArg some (c3_size _).symm, trivial⟩ (by rfl) (c12 (⟨(((x).a) * ((y).a)) + (C3.shift (((x).b) * ((y).b))), (((((x).a) + ((x).b)) * (((y).a) + ((y).b))) - (((x).a) * ((y).a))) - (((x).b) * ((y).b))⟩ : T12)) (by rfl)) ?_
    refine flow_one 10 (by kernel_rfl) ?_
    refine F_store (t := 83) 3 g3 (c12 (0 : T12)) (c12 (⟨(((x).a) * ((y).a)) + (C3.shift (((x).b) * ((y).b))), (((((x).a) + ((x).b)) * (((y).a) + ((y).b))) - (((x).a) * ((y).a))) - (((x).b) * ((y).b))⟩ : T12)) (by rfl) (by rfl) (by rfl) (by rfl) (by rfl) (hi_12 _) ((c12_size _).trans (c12_size _).symm) (c12_one _) (.inr (List.Sublist.cons_cons _ (List.Sublist.cons_cons _ (List.Sublist.cons_cons _ (List.Sublist.cons _ (List.Sublist.refl _)))))) ?_
    simp only [List.set_cons_zero, List.set_cons_succ]
    refine flow_done (by kernel_rfl) ?_
    intro w4 hw4
    refine wp_ret ?_
    change bodyPost _ _ _ Exit.ret _ _
    refine (ret_cell (by rfl) (by rfl) (by rfl) (hw4.blk 3 (by rfl)) Tryd.underlying83 (by rfl) (hi_12 _) ⟨?_, hw4.below⟩)
    refine congrArg (fun z : T12 => Ending.returned (.agg (c12 z))) ?_
    exact T12.same rfl (tw_k1 C3.rg _ _ _ _)
set_option maxRecDepth 100000 in
set_option maxHeartbeats 4000000 in
theorem t_square (x : T12) (v : World) (hG : Glo v) : Rets 48 #[.agg (c12 (x))] v (.agg (c12 (x * x))) := by
  refine calls_fr1 Tryd.func48 rfl (by rfl : _ = 32) (by rfl) ?_
  have hw := Hbl.nil v
  refine seq_plain hw [0, 1] (by rfl) ?_
  refine L_box (.agg (c12 (x))) (by rfl) (by rfl) (by rfl) (c12 (x)) (by rfl) ?_; intro g1
  refine L_alloc _ (by rfl) (by rfl) z_12 (c12 (0 : T12)) rfl ?_; intro g2
  refine L_end ?_
  intro w1 hw1
  refine seq_plain hw1 [0, 1, 2, 3, 4, 5, 6] (by rfl) ?_
  refine L_val (.pointer (some ⟨g1, 0, none⟩)) (by rfl) (by rfl) (gives_value _ fun _ => by kernel_rfl) ?_
  refine L_val (.agg (c3 ((x).a))) (by rfl) (by rfl) (gives_load g1 0 83 (c12 (x)) (c3 ((x).a)) _ (by rfl) (fun _ h => h.blk 1 (by rfl)) (sl_12a (x) _ _ (Sl.refl _)) Tryd.underlying81 (by rfl) (hi_3 _)) ?_
  refine L_val (.pointer (some ⟨g1, 36, none⟩)) (by rfl) (by rfl) (gives_value _ fun _ => by kernel_rfl) ?_
  refine L_val (.agg (c3 ((x).b))) (by rfl) (by rfl) (gives_load g1 36 83 (c12 (x)) (c3 ((x).b)) _ (by rfl) (fun _ h => h.blk 1 (by rfl)) (sl_12b (x) _ _ 36 (Sl.refl _) (by rfl)) Tryd.underlying81 (by rfl) (hi_3 _)) ?_
  refine L_val (.agg (c3 (((x).a) * ((x).b)))) (by rfl) (by rfl) (gives_call (vl := [.agg (c3 ((x).a)), .agg (c3 ((x).b))]) (by kernel_rfl) (by rfl) (fun w h => t_cmul _ _ w (hG.keep h.below))) ?_
  refine L_alloc _ (by rfl) (by rfl) z_3 (c3 (0 : C3)) rfl ?_; intro g3
  refine L_store (t := 81) 0 g3 (c3 (0 : C3)) (c3 (((x).a) * ((x).b))) (by rfl) (by rfl) (by rfl) (by rfl) (by rfl) (hi_3 _) ((c3_size _).trans (c3_size _).symm) (c3_one _) ?_
  simp only [List.set_cons_zero, List.set_cons_succ]
  refine L_end ?_
  intro w2 hw2
  refine seq_flow (by kernel_rfl) hw2 [] [(g3, 81, (c3 (((x).a) * ((x).b)))), (g2, 83, (c12 (0 : T12))), (g1, 83, (c12 (x)))] 14 (by rfl) ?_
  refine flow_take (i := 0) (.pointer (some ⟨g1, 0, none⟩)) (by rfl) (by kernel_rfl) (by kernel_rfl) (by kernel_rfl) (by rfl) (by kernel_rfl) (List.Sublist.refl _) (gives_value _ fun _ => by kernel_rfl) ?_
  refine flow_take (i := 1) (.agg (c3 ((x).a))) (by rfl) (by kernel_rfl) (by kernel_rfl) (by kernel_rfl) (by rfl) (by kernel_rfl) (List.Sublist.refl _) (gives_load g1 0 83 (c12 (x)) (c3 ((x).a)) _ (by rfl) (fun _ h => h.blk 2 (by rfl)) (sl_12a (x) _ _ (Sl.refl _)) Tryd.underlying81 (by rfl) (hi_3 _)) ?_
  refine flow_take (i := 2) (.pointer (some ⟨g1, 36, none⟩)) (by rfl) (by kernel_rfl) (by kernel_rfl) (by kernel_rfl) (by rfl) (by kernel_rfl) (List.Sublist.refl _) (gives_value _ fun _ => by kernel_rfl) ?_
  refine flow_take (i := 3) (.agg (c3 ((x).b))) (by rfl) (by kernel_rfl) (by kernel_rfl) (by kernel_rfl) (by rfl) (by kernel_rfl) (List.Sublist.refl _) (gives_load g1 36 83 (c12 (x)) (c3 ((x).b)) _ (by rfl) (fun _ h => h.blk 2 (by rfl)) (sl_12b (x) _ _ 36 (Sl.refl _) (by rfl)) Tryd.underlying81 (by rfl) (hi_3 _)) ?_
  refine flow_take (i := 4) (.agg (c3 (((x).a) + ((x).b)))) (by rfl) (by kernel_rfl) (by kernel_rfl) (by kernel_rfl) (by rfl) (by kernel_rfl) (List.Sublist.refl _) (gives_call (vl := [.agg (c3 ((x).a)), .agg (c3 ((x).b))]) (by kernel_rfl) (by rfl) (fun w h => t_cadd _ _ w (hG.keep h.below))) ?_
  refine flow_take (i := 5) (.pointer (some ⟨g1, 0, none⟩)) (by rfl) (by kernel_rfl) (by kernel_rfl) (by kernel_rfl) (by rfl) (by kernel_rfl) (List.Sublist.refl _) (gives_value _ fun _ => by kernel_rfl) ?_
  refine flow_take (i := 6) (.agg (c3 ((x).a))) (by rfl) (by kernel_rfl) (by kernel_rfl) (by kernel_rfl) (by rfl) (by kernel_rfl) (List.Sublist.refl _) (gives_load g1 0 83 (c12 (x)) (c3 ((x).a)) _ (by rfl) (fun _ h => h.blk 2 (by rfl)) (sl_12a (x) _ _ (Sl.refl _)) Tryd.underlying81 (by rfl) (hi_3 _)) ?_
  refine flow_take (i := 7) (.pointer (some ⟨g1, 36, none⟩)) (by rfl) (by kernel_rfl) (by kernel_rfl) (by kernel_rfl) (by rfl) (by kernel_rfl) (List.Sublist.refl _) (gives_value _ fun _ => by kernel_rfl) ?_
  refine flow_take (i := 8) (.agg (c3 ((x).b))) (by rfl) (by kernel_rfl) (by kernel_rfl) (by kernel_rfl) (by rfl) (by kernel_rfl) (List.Sublist.refl _) (gives_load g1 36 83 (c12 (x)) (c3 ((x).b)) _ (by rfl) (fun _ h => h.blk 2 (by rfl)) (sl_12b (x) _ _ 36 (Sl.refl _) (by rfl)) Tryd.underlying81 (by rfl) (hi_3 _)) ?_
  refine flow_take (i := 9) (.agg (c3 (C3.shift ((x).b)))) (by rfl) (by kernel_rfl) (by kernel_rfl) (by kernel_rfl) (by rfl) (by kernel_rfl) (List.Sublist.refl _) (gives_call (vl := [.agg (c3 ((x).b))]) (by kernel_rfl) (by rfl) (fun w h => t_shift _ w (hG.keep h.below))) ?_
  refine flow_take (i := 10) (.agg (c3 (((x).a) + (C3.shift ((x).b))))) (by rfl) (by kernel_rfl) (by kernel_rfl) (by kernel_rfl) (by rfl) (by kernel_rfl) (List.Sublist.refl _) (gives_call (vl := [.agg (c3 ((x).a)), .agg (c3 (C3.shift ((x).b)))]) (by kernel_rfl) (by rfl) (fun w h => t_cadd _ _ w (hG.keep h.below))) ?_
  refine flow_take (i := 11) (.agg (c3 ((((x).a) + ((x).b)) * (((x).a) + (C3.shift ((x).b)))))) (by rfl) (by kernel_rfl) (by kernel_rfl) (by kernel_rfl) (by rfl) (by kernel_rfl) (List.Sublist.refl _) (gives_call (vl := [.agg (c3 (((x).a) + ((x).b))), .agg (c3 (((x).a) + (C3.shift ((x).b))))]) (by kernel_rfl) (by rfl) (fun w h => t_cmul _ _ w (hG.keep h.below))) ?_
  refine flow_one 12 (by kernel_rfl) ?_
  refine F_alloc _ (by rfl) (by rfl) z_3 (c3 (0 : C3)) rfl (List.Sublist.refl _) ?_; intro g4
  refine flow_one 13 (by kernel_rfl) ?_
  refine F_store (t := 81) 0 g4 (c3 (0 : C3)) (c3 ((((x).a) + ((x).b)) * (((x).a) + (C3.shift ((x).b))))) (by rfl) (by rfl) (by rfl) (by rfl) (by rfl) (hi_3 _) ((c3_size _).trans (c3_size _).symm) (c3_one _) (.inr (List.Sublist.cons _ (List.Sublist.refl _))) ?_
  simp only [List.set_cons_zero, List.set_cons_succ]
  refine flow_done (by kernel_rfl) ?_
  intro w3 hw3
  refine seq_flow (by kernel_rfl) hw3 [] [(g4, 81, (c3 ((((x).a) + ((x).b)) * (((x).a) + (C3.shift ((x).b)))))), (g3, 81, (c3 (((x).a) * ((x).b)))), (g1, 83, (c12 (x)))] 11 (by rfl) ?_
  refine flow_take (i := 0) (.agg (c3 ((((x).a) + ((x).b)) * (((x).a) + (C3.shift ((x).b)))))) (by rfl) (by kernel_rfl) (by kernel_rfl) (by kernel_rfl) (by rfl) (by kernel_rfl) (List.Sublist.cons_cons _ (List.Sublist.cons_cons _ (List.Sublist.cons _ (List.Sublist.refl _)))) (gives_load g4 0 81 (c3 ((((x).a) + ((x).b)) * (((x).a) + (C3.shift ((x).b))))) (c3 ((((x).a) + ((x).b)) * (((x).a) + (C3.shift ((x).b))))) _ (by rfl) (fun _ h => h.blk 0 (by rfl)) (Sl.refl _) Tryd.underlying81 (by rfl) (hi_3 _)) ?_
  refine flow_take (i := 1) (.agg (c3 (((x).a) * ((x).b)))) (by rfl) (by kernel_rfl) (by kernel_rfl) (by kernel_rfl) (by rfl) (by kernel_rfl) (List.Sublist.cons_cons _ (List.Sublist.cons_cons _ (List.Sublist.cons _ (List.Sublist.refl _)))) (gives_load g3 0 81 (c3 (((x).a) * ((x).b))) (c3 (((x).a) * ((x).b))) _ (by rfl) (fun _ h => h.blk 1 (by rfl)) (Sl.refl _) Tryd.underlying81 (by rfl) (hi_3 _)) ?_
  refine flow_take (i := 2) (.agg (c3 (((((x).a) + ((x).b)) * (((x).a) + (C3.shift ((x).b)))) - (((x).a) * ((x).b))))) (by rfl) (by kernel_rfl) (by kernel_rfl) (by kernel_rfl) (by rfl) (by kernel_rfl) (List.Sublist.cons_cons _ (List.Sublist.cons_cons _ (List.Sublist.cons _ (List.Sublist.refl _)))) (gives_call (vl := [.agg (c3 ((((x).a) + ((x).b)) * (((x).a) + (C3.shift ((x).b))))), .agg (c3 (((x).a) * ((x).b)))]) (by kernel_rfl) (by rfl) (fun w h => t_csub _ _ w (hG.keep h.below))) ?_
  refine flow_take (i := 3) (.agg (c3 (((x).a) * ((x).b)))) (by rfl) (by kernel_rfl) (by kernel_rfl) (by kernel_rfl) (by rfl) (by kernel_rfl) (List.Sublist.cons_cons _ (List.Sublist.cons_cons _ (List.Sublist.cons _ (List.Sublist.refl _)))) (gives_load g3 0 81 (c3 (((x).a) * ((x).b))) (c3 (((x).a) * ((x).b))) _ (by rfl) (fun _ h => h.blk 1 (by rfl)) (Sl.refl _) Tryd.underlying81 (by rfl) (hi_3 _)) ?_
  refine flow_take (i := 4) (.agg (c3 (C3.shift (((x).a) * ((x).b))))) (by rfl) (by kernel_rfl) (by kernel_rfl) (by kernel_rfl) (by rfl) (by kernel_rfl) (List.Sublist.cons_cons _ (List.Sublist.cons_cons _ (List.Sublist.cons _ (List.Sublist.refl _)))) (gives_call (vl := [.agg (c3 (((x).a) * ((x).b)))]) (by kernel_rfl) (by rfl) (fun w h => t_shift _ w (hG.keep h.below))) ?_
  refine flow_take (i := 5) (.agg (c3 ((((((x).a) + ((x).b)) * (((x).a) + (C3.shift ((x).b)))) - (((x).a) * ((x).b))) - (C3.shift (((x).a) * ((x).b)))))) (by rfl) (by kernel_rfl) (by kernel_rfl) (by kernel_rfl) (by rfl) (by kernel_rfl) (List.Sublist.cons_cons _ (List.Sublist.cons_cons _ (List.Sublist.cons _ (List.Sublist.refl _)))) (gives_call (vl := [.agg (c3 (((((x).a) + ((x).b)) * (((x).a) + (C3.shift ((x).b)))) - (((x).a) * ((x).b)))), .agg (c3 (C3.shift (((x).a) * ((x).b))))]) (by kernel_rfl) (by rfl) (fun w h => t_csub _ _ w (hG.keep h.below))) ?_
  refine flow_take (i := 6) (.agg (c3 (((x).a) * ((x).b)))) (by rfl) (by kernel_rfl) (by kernel_rfl) (by kernel_rfl) (by rfl) (by kernel_rfl) (List.Sublist.cons_cons _ (List.Sublist.cons_cons _ (List.Sublist.cons _ (List.Sublist.refl _)))) (gives_load g3 0 81 (c3 (((x).a) * ((x).b))) (c3 (((x).a) * ((x).b))) _ (by rfl) (fun _ h => h.blk 1 (by rfl)) (Sl.refl _) Tryd.underlying81 (by rfl) (hi_3 _)) ?_
  refine flow_take (i := 7) (.agg (c3 (((x).a) * ((x).b)))) (by rfl) (by kernel_rfl) (by kernel_rfl) (by kernel_rfl) (by rfl) (by kernel_rfl) (List.Sublist.cons_cons _ (List.Sublist.cons_cons _ (List.Sublist.cons _ (List.Sublist.refl _)))) (gives_load g3 0 81 (c3 (((x).a) * ((x).b))) (c3 (((x).a) * ((x).b))) _ (by rfl) (fun _ h => h.blk 1 (by rfl)) (Sl.refl _) Tryd.underlying81 (by rfl) (hi_3 _)) ?_
  refine flow_take (i := 8) (.agg (c3 ((((x).a) * ((x).b)) + (((x).a) * ((x).b))))) (by rfl) (by kernel_rfl) (by kernel_rfl) (by kernel_rfl) (by rfl) (by kernel_rfl) (List.Sublist.cons_cons _ (List.Sublist.cons_cons _ (List.Sublist.cons _ (List.Sublist.refl _)))) (gives_call (vl := [.agg (c3 (((x).a) * ((x).b))), .agg (c3 (((x).a) * ((x).b)))]) (by kernel_rfl) (by rfl) (fun w h => t_cadd _ _ w (hG.keep h.below))) ?_
  refine flow_take (i := 9) (.agg (c12 (⟨(((((x).a) + ((x).b)) * (((x).a) + (C3.shift ((x).b)))) - (((x).a) * ((x).b))) - (C3.shift (((x).a) * ((x).b))), (((x).a) * ((x).b)) + (((x).a) * ((x).b))⟩ : T12))) (by rfl) (by kernel_rfl) (by kernel_rfl) (by kernel_rfl) (by rfl) (by kernel_rfl) (List.Sublist.cons_cons _ (List.Sublist.cons_cons _ (List.Sublist.cons _ (List.Sublist.refl _)))) (gb_tower [(0, (c3 ((((((x).a) + ((x).b)) * (((x).a) + (C3.shift ((x).b)))) - (((x).a) * ((x).b))) - (C3.shift (((x).a) * ((x).b)))))), (1, (c3 ((((x).a) * ((x).b)) + (((x).a) * ((x).b)))))] ⟨congrArg some (c3_size _).symm, congrArg some (c3_size _).symm, trivial⟩ (by rfl) (c12 (⟨(((((x).a) + ((x).b)) * (((x).a) + (C3.shift ((x).b)))) - (((x).a) * ((x).b))) - (C3.shift (((x).a) * ((x).b))), (((x).a) * ((x).b)) + (((x).a) * ((x).b))⟩ : T12)) (by rfl)) ?_
  refine flow_one 10 (by kernel_rfl) ?_
  refine F_store (t := 83) 2 g2 (c12 (0 : T12)) (c12 (⟨(((((x).a) + ((x).b)) * (((x).a) + (C3.shift ((x).b)))) - (((x).a) * ((x).b))) - (C3.shift (((x).a) * ((x).b))), (((x).a) * ((x).b)) + (((x).a) * ((x).b))⟩ : T12)) (by rfl) (by rfl) (by rfl) (by rfl) (by rfl) (hi_12 _) ((c12_size _).trans (c12_size _).symm) (c12_one _) (.inr (List.Sublist.cons_cons _ (List.Sublist.cons_cons _ (List.Sublist.cons _ (List.Sublist.refl _))))) ?_
  simp only [List.set_cons_zero, List.set_cons_succ]
  refine flow_done (by kernel_rfl) ?_
  intro w4 hw4
  refine wp_ret ?_
  change bodyPost _ _ _ Exit.ret _ _
  refine (ret_cell (by rfl) (by rfl) (by rfl) (hw4.blk 2 (by rfl)) Tryd.underlying83 (by rfl) (hi_12 _) ⟨?_, hw4.below⟩)
  refine congrArg (fun z : T12 => Ending.returned (.agg (c12 z))) ?_
  apply T12.same
  · show (x.a + x.b) * (x.a + x.b.shift) - x.a * x.b - (x.a * x.b).shift = x.a * x.a + (x.b * x.b).shift
    rw [C3.rg.mc x.a x.b, C3.shift_mul, C3.shift_mul, ← C3.rg.mc x.a x.b]
    exact tw_k2 C3.rg _ _ _
  · exact tw_k3 C3.rg _ _
set_option maxRecDepth 100000 in
set_option maxHeartbeats 4000000 in
theorem t_conj (x : T12) (v : World) (hG : Glo v) : Rets 51 #[.agg (c12 (x))] v (.agg (c12 x.conj)) := by
  refine calls_fr1 Tryd.func51 rfl (by rfl : _ = 10) (by rfl) ?_
  have hw := Hbl.nil v
  refine seq_plain hw [0, 1] (by rfl) ?_
  refine L_box (.agg (c12 (x))) (by rfl) (by rfl) (by rfl) (c12 (x)) (by rfl) ?_; intro g1
  refine L_alloc _ (by rfl) (by rfl) z_12 (c12 (0 : T12)) rfl ?_; intro g2
  refine L_end ?_
  intro w1 hw1
  refine seq_flow (by kernel_rfl) hw1 [] [(g1, 83, (c12 (x)))] 8 (by rfl) ?_
  refine flow_take (i := 0) (.pointer (some ⟨g1, 0, none⟩)) (by rfl) (by kernel_rfl) (by kernel_rfl) (by kernel_rfl) (by rfl) (by kernel_rfl) (List.Sublist.cons _ (List.Sublist.refl _)) (gives_value _ fun _ => by kernel_rfl) ?_
  refine flow_take (i := 1) (.agg (c3 ((x).a))) (by rfl) (by kernel_rfl) (by kernel_rfl) (by kernel_rfl) (by rfl) (by kernel_rfl) (List.Sublist.cons _ (List.Sublist.refl _)) (gives_load g1 0 83 (c12 (x)) (c3 ((x).a)) _ (by rfl) (fun _ h => h.blk 0 (by rfl)) (sl_12a (x) _ _ (Sl.refl _)) Tryd.underlying81 (by rfl) (hi_3 _)) ?_
  refine flow_take (i := 2) (.agg (c3 (0 : C3))) (by rfl) (by kernel_rfl) (by kernel_rfl) (by kernel_rfl) (by rfl) (by kernel_rfl) (List.Sublist.cons _ (List.Sublist.refl _)) (gb_cubic [] trivial (by rfl) (c3 (0 : C3)) (by rfl)) ?_
  refine flow_take (i := 3) (.pointer (some ⟨g1, 36, none⟩)) (by rfl) (by kernel_rfl) (by kernel_rfl) (by kernel_rfl) (by rfl) (by kernel_rfl) (List.Sublist.cons _ (List.Sublist.refl _)) (gives_value _ fun _ => by kernel_rfl) ?_
  refine flow_take (i := 4) (.agg (c3 ((x).b))) (by rfl) (by kernel_rfl) (by kernel_rfl) (by kernel_rfl) (by rfl) (by kernel_rfl) (List.Sublist.cons _ (List.Sublist.refl _)) (gives_load g1 36 83 (c12 (x)) (c3 ((x).b)) _ (by rfl) (fun _ h => h.blk 0 (by rfl)) (sl_12b (x) _ _ 36 (Sl.refl _) (by rfl)) Tryd.underlying81 (by rfl) (hi_3 _)) ?_
  refine flow_take (i := 5) (.agg (c3 ((0 : C3) - ((x).b)))) (by rfl) (by kernel_rfl) (by kernel_rfl) (by kernel_rfl) (by rfl) (by kernel_rfl) (List.Sublist.cons _ (List.Sublist.refl _)) (gives_call (vl := [.agg (c3 (0 : C3)), .agg (c3 ((x).b))]) (by kernel_rfl) (by rfl) (fun w h => t_csub _ _ w (hG.keep h.below))) ?_
  refine flow_take (i := 6) (.agg (c12 (⟨(x).a, (0 : C3) - ((x).b)⟩ : T12))) (by rfl) (by kernel_rfl) (by kernel_rfl) (by kernel_rfl) (by rfl) (by kernel_rfl) (List.Sublist.cons _ (List.Sublist.refl _)) (gb_tower [(0, (c3 ((x).a))), (1, (c3 ((0 : C3) - ((x).b))))] ⟨congrArg some (c3_size _).symm, congrArg some (c3_size _).symm, trivial⟩ (by rfl) (c12 (⟨(x).a, (0 : C3) - ((x).b)⟩ : T12)) (by rfl)) ?_
  refine flow_one 7 (by kernel_rfl) ?_
  refine F_store (t := 83) 0 g2 (c12 (0 : T12)) (c12 (⟨(x).a, (0 : C3) - ((x).b)⟩ : T12)) (by rfl) (by rfl) (by rfl) (by rfl) (by rfl) (hi_12 _) ((c12_size _).trans (c12_size _).symm) (c12_one _) (.inr (List.Sublist.cons _ (List.Sublist.refl _))) ?_
  simp only [List.set_cons_zero, List.set_cons_succ]
  refine flow_done (by kernel_rfl) ?_
  intro w2 hw2
  refine wp_ret ?_
  change bodyPost _ _ _ Exit.ret _ _
  refine (ret_cell (by rfl) (by rfl) (by rfl) (hw2.blk 0 (by rfl)) Tryd.underlying83 (by rfl) (hi_12 _) ⟨?_, hw2.below⟩)
  refine congrArg (fun z : T12 => Ending.returned (.agg (c12 z))) ?_
  exact T12.same rfl (C3.zero_sub _)
set_option maxRecDepth 100000 in
set_option maxHeartbeats 4000000 in
theorem t_line (x : T12) (p q r : F2) (v : World) (hG : Glo v) : Rets 49 #[.agg (c12 (x)), .agg (c2 (p)), .agg (c2 (q)), .agg (c2 (r))] v (.agg (c12 (x * T12.mk (C3.mk p q 0) (C3.mk 0 r 0)))) := by
  refine calls_fr4 Tryd.func49 rfl (by rfl : _ = 42) (by rfl) ?_
  have hw := Hbl.nil v
  refine seq_plain hw [0, 1, 2, 3, 4] (by rfl) ?_
  refine L_box (.agg (c12 (x))) (by rfl) (by rfl) (by rfl) (c12 (x)) (by rfl) ?_; intro g1
  refine L_box (.agg (c2 (p))) (by rfl) (by rfl) (by rfl) (c2 (p)) (by rfl) ?_; intro g2
  refine L_box (.agg (c2 (q))) (by rfl) (by rfl) (by rfl) (c2 (q)) (by rfl) ?_; intro g3
  refine L_box (.agg (c2 (r))) (by rfl) (by rfl) (by rfl) (c2 (r)) (by rfl) ?_; intro g4
  refine L_alloc _ (by rfl) (by rfl) z_12 (c12 (0 : T12)) rfl ?_; intro g5
  refine L_end ?_
  intro w1 hw1
  refine seq_flow_to (fun a w => ∃ g_9 g_10, a = fr 42 [(9, .pointer (some ⟨g_9, 0, none⟩)), (10, .pointer (some ⟨g_10, 0, none⟩)), (21, .agg (c3 (C3.shift (C3.scale ((x).b) (r))))), (20, .agg (c3 (C3.scale ((x).b) (r)))), (19, .agg (c2 (r))), (18, .agg (c3 ((x).b))), (17, .pointer (some ⟨g1, 36, none⟩)), (16, .agg (c3 (((x).a) * C3.mk (p) (q) 0))), (15, .agg (c2 (q))), (14, .agg (c2 (p))), (13, .agg (c3 ((x).a))), (12, .pointer (some ⟨g1, 0, none⟩)), (8, .pointer (some ⟨g5, 0, none⟩)), (7, .pointer (some ⟨g4, 0, none⟩)), (6, .pointer (some ⟨g3, 0, none⟩)), (5, .pointer (some ⟨g2, 0, none⟩)), (4, .pointer (some ⟨g1, 0, none⟩)), (3, .agg (c2 (r))), (2, .agg (c2 (q))), (1, .agg (c2 (p))), (0, .agg (c12 (x)))] ∧ Hbl v [(g_9, 81, (c3 (((x).a) * C3.mk (p) (q) 0))), (g_10, 81, (c3 (C3.shift (C3.scale ((x).b) (r))))), (g5, 83, (c12 (0 : T12))), (g4, 37, (c2 (r))), (g3, 37, (c2 (q))), (g2, 37, (c2 (p))), (g1, 83, (c12 (x)))] w) (by kernel_rfl) hw1 [] [(g5, 83, (c12 (0 : T12))), (g4, 37, (c2 (r))), (g3, 37, (c2 (q))), (g2, 37, (c2 (p))), (g1, 83, (c12 (x)))] 14 (by rfl) ?_ ?_
  ·
    refine flow_take (i := 0) (.pointer (some ⟨g1, 0, none⟩)) (by rfl) (by kernel_rfl) (by kernel_rfl) (by kernel_rfl) (by rfl) (by kernel_rfl) (List.Sublist.refl _) (gives_value _ fun _ => by kernel_rfl) ?_
    refine flow_take (i := 1) (.agg (c3 ((x).a))) (by rfl) (by kernel_rfl) (by kernel_rfl) (by kernel_rfl) (by rfl) (by kernel_rfl) (List.Sublist.refl _) (gives_load g1 0 83 (c12 (x)) (c3 ((x).a)) _ (by rfl) (fun _ h => h.blk 4 (by rfl)) (sl_12a (x) _ _ (Sl.refl _)) Tryd.underlying81 (by rfl) (hi_3 _)) ?_
    refine flow_take (i := 2) (.agg (c2 (p))) (by rfl) (by kernel_rfl) (by kernel_rfl) (by kernel_rfl) (by rfl) (by kernel_rfl) (List.Sublist.refl _) (gives_load g2 0 37 (c2 (p)) (c2 (p)) _ (by rfl) (fun _ h => h.blk 3 (by rfl)) (Sl.refl _) Tryd.underlying37 (by rfl) (hi_2 _)) ?_
    refine flow_take (i := 3) (.agg (c2 (q))) (by rfl) (by kernel_rfl) (by kernel_rfl) (by kernel_rfl) (by rfl) (by kernel_rfl) (List.Sublist.refl _) (gives_load g3 0 37 (c2 (q)) (c2 (q)) _ (by rfl) (fun _ h => h.blk 2 (by rfl)) (Sl.refl _) Tryd.underlying37 (by rfl) (hi_2 _)) ?_
    refine flow_take (i := 4) (.agg (c3 (((x).a) * C3.mk (p) (q) 0))) (by rfl) (by kernel_rfl) (by kernel_rfl) (by kernel_rfl) (by rfl) (by kernel_rfl) (List.Sublist.refl _) (gives_call (vl := [.agg (c3 ((x).a)), .agg (c2 (p)), .agg (c2 (q))]) (by kernel_rfl) (by rfl) (fun w h => t_cline _ _ _ w (hG.keep h.below))) ?_
    refine flow_take (i := 5) (.pointer (some ⟨g1, 36, none⟩)) (by rfl) (by kernel_rfl) (by kernel_rfl) (by kernel_rfl) (by rfl) (by kernel_rfl) (List.Sublist.refl _) (gives_value _ fun _ => by kernel_rfl) ?_
    refine flow_take (i := 6) (.agg (c3 ((x).b))) (by rfl) (by kernel_rfl) (by kernel_rfl) (by kernel_rfl) (by rfl) (by kernel_rfl) (List.Sublist.refl _) (gives_load g1 36 83 (c12 (x)) (c3 ((x).b)) _ (by rfl) (fun _ h => h.blk 4 (by rfl)) (sl_12b (x) _ _ 36 (Sl.refl _) (by rfl)) Tryd.underlying81 (by rfl) (hi_3 _)) ?_
    refine flow_take (i := 7) (.agg (c2 (r))) (by rfl) (by kernel_rfl) (by kernel_rfl) (by kernel_rfl) (by rfl) (by kernel_rfl) (List.Sublist.refl _) (gives_load g4 0 37 (c2 (r)) (c2 (r)) _ (by rfl) (fun _ h => h.blk 1 (by rfl)) (Sl.refl _) Tryd.underlying37 (by rfl) (hi_2 _)) ?_
    refine flow_take (i := 8) (.agg (c3 (C3.scale ((x).b) (r)))) (by rfl) (by kernel_rfl) (by kernel_rfl) (by kernel_rfl) (by rfl) (by kernel_rfl) (List.Sublist.refl _) (gives_call (vl := [.agg (c3 ((x).b)), .agg (c2 (r))]) (by kernel_rfl) (by rfl) (fun w h => t_scale _ _ w (hG.keep h.below))) ?_
    refine flow_take (i := 9) (.agg (c3 (C3.shift (C3.scale ((x).b) (r))))) (by rfl) (by kernel_rfl) (by kernel_rfl) (by kernel_rfl) (by rfl) (by kernel_rfl) (List.Sublist.refl _) (gives_call (vl := [.agg (c3 (C3.scale ((x).b) (r)))]) (by kernel_rfl) (by rfl) (fun w h => t_shift _ w (hG.keep h.below))) ?_
    refine flow_two 10 11 (by kernel_rfl) ?_ ?_
    ·
      refine F_alloc _ (by rfl) (by rfl) z_3 (c3 (0 : C3)) rfl (List.Sublist.refl _) ?_; intro g_9
      refine flow_one 11 (by kernel_rfl) ?_
      refine F_alloc _ (by rfl) (by rfl) z_3 (c3 (0 : C3)) rfl (List.Sublist.cons _ (List.Sublist.refl _)) ?_; intro g_10
      refine flow_one 12 (by kernel_rfl) ?_
      refine F_store (t := 81) 1 g_9 (c3 (0 : C3)) (c3 (((x).a) * C3.mk (p) (q) 0)) (by rfl) (by rfl) (by rfl) (by rfl) (by rfl) (hi_3 _) ((c3_size _).trans (c3_size _).symm) (c3_one _) (.inr (List.Sublist.cons _ (List.Sublist.cons _ (List.Sublist.refl _)))) ?_
      simp only [List.set_cons_zero, List.set_cons_succ]
      refine flow_one 13 (by kernel_rfl) ?_
      refine F_store (t := 81) 0 g_10 (c3 (0 : C3)) (c3 (C3.shift (C3.scale ((x).b) (r)))) (by rfl) (by rfl) (by rfl) (by rfl) (by rfl) (hi_3 _) ((c3_size _).trans (c3_size _).symm) (c3_one _) (.inr (List.Sublist.cons _ (List.Sublist.cons _ (List.Sublist.refl _)))) ?_
      simp only [List.set_cons_zero, List.set_cons_succ]
      refine flow_done (by kernel_rfl) ?_
      intro wz hz
      exact ⟨g_9, g_10, ((fr_comm _ _ _ _ (by decide))), hz.perm (List.Perm.swap _ _ _)⟩
    ·
      refine F_alloc _ (by rfl) (by rfl) z_3 (c3 (0 : C3)) rfl (List.Sublist.refl _) ?_; intro g_10
      refine flow_one 10 (by kernel_rfl) ?_
      refine F_alloc _ (by rfl) (by rfl) z_3 (c3 (0 : C3)) rfl (List.Sublist.cons _ (List.Sublist.refl _)) ?_; intro g_9
      refine flow_one 12 (by kernel_rfl) ?_
      refine F_store (t := 81) 0 g_9 (c3 (0 : C3)) (c3 (((x).a) * C3.mk (p) (q) 0)) (by rfl) (by rfl) (by rfl) (by rfl) (by rfl) (hi_3 _) ((c3_size _).trans (c3_size _).symm) (c3_one _) (.inr (List.Sublist.cons _ (List.Sublist.cons _ (List.Sublist.refl _)))) ?_
      simp only [List.set_cons_zero, List.set_cons_succ]
      refine flow_one 13 (by kernel_rfl) ?_
      refine F_store (t := 81) 1 g_10 (c3 (0 : C3)) (c3 (C3.shift (C3.scale ((x).b) (r)))) (by rfl) (by rfl) (by rfl) (by rfl) (by rfl) (hi_3 _) ((c3_size _).trans (c3_size _).symm) (c3_one _) (.inr (List.Sublist.cons _ (List.Sublist.cons _ (List.Sublist.refl _)))) ?_
      simp only [List.set_cons_zero, List.set_cons_succ]
      refine flow_done (by kernel_rfl) ?_
      intro wz hz
      exact ⟨g_9, g_10, rfl, hz.perm (List.Perm.refl _)⟩
  ·
    rintro a0 w2 ⟨g6, g7, rfl, hw2⟩
    refine seq_flow (by kernel_rfl) hw2 [] [(g6, 81, (c3 (((x).a) * C3.mk (p) (q) 0))), (g7, 81, (c3 (C3.shift (C3.scale ((x).b) (r))))), (g5, 83, (c12 (0 : T12))), (g4, 37, (c2 (r))), (g3, 37, (c2 (q))), (g2, 37, (c2 (p))), (g1, 83, (c12 (x)))] 12 (by rfl) ?_
    refine flow_take (i := 0) (.pointer (some ⟨g1, 0, none⟩)) (by rfl) (by kernel_rfl) (by kernel_rfl) (by kernel_rfl) (by rfl) (by kernel_rfl) (List.Sublist.refl _) (gives_value _ fun _ => by kernel_rfl) ?_
    refine flow_take (i := 1) (.agg (c3 ((x).a))) (by rfl) (by kernel_rfl) (by kernel_rfl) (by kernel_rfl) (by rfl) (by kernel_rfl) (List.Sublist.refl _) (gives_load g1 0 83 (c12 (x)) (c3 ((x).a)) _ (by rfl) (fun _ h => h.blk 6 (by rfl)) (sl_12a (x) _ _ (Sl.refl _)) Tryd.underlying81 (by rfl) (hi_3 _)) ?_
    refine flow_take (i := 2) (.pointer (some ⟨g1, 36, none⟩)) (by rfl) (by kernel_rfl) (by kernel_rfl) (by kernel_rfl) (by rfl) (by kernel_rfl) (List.Sublist.refl _) (gives_value _ fun _ => by kernel_rfl) ?_
    refine flow_take (i := 3) (.agg (c3 ((x).b))) (by rfl) (by kernel_rfl) (by kernel_rfl) (by kernel_rfl) (by rfl) (by kernel_rfl) (List.Sublist.refl _) (gives_load g1 36 83 (c12 (x)) (c3 ((x).b)) _ (by rfl) (fun _ h => h.blk 6 (by rfl)) (sl_12b (x) _ _ 36 (Sl.refl _) (by rfl)) Tryd.underlying81 (by rfl) (hi_3 _)) ?_
    refine flow_take (i := 4) (.agg (c3 (((x).a) + ((x).b)))) (by rfl) (by kernel_rfl) (by kernel_rfl) (by kernel_rfl) (by rfl) (by kernel_rfl) (List.Sublist.refl _) (gives_call (vl := [.agg (c3 ((x).a)), .agg (c3 ((x).b))]) (by kernel_rfl) (by rfl) (fun w h => t_cadd _ _ w (hG.keep h.below))) ?_
    refine flow_take (i := 5) (.agg (c2 (p))) (by rfl) (by kernel_rfl) (by kernel_rfl) (by kernel_rfl) (by rfl) (by kernel_rfl) (List.Sublist.refl _) (gives_load g2 0 37 (c2 (p)) (c2 (p)) _ (by rfl) (fun _ h => h.blk 5 (by rfl)) (Sl.refl _) Tryd.underlying37 (by rfl) (hi_2 _)) ?_
    refine flow_take (i := 6) (.agg (c2 (q))) (by rfl) (by kernel_rfl) (by kernel_rfl) (by kernel_rfl) (by rfl) (by kernel_rfl) (List.Sublist.refl _) (gives_load g3 0 37 (c2 (q)) (c2 (q)) _ (by rfl) (fun _ h => h.blk 4 (by rfl)) (Sl.refl _) Tryd.underlying37 (by rfl) (hi_2 _)) ?_
    refine flow_take (i := 7) (.agg (c2 (r))) (by rfl) (by kernel_rfl) (by kernel_rfl) (by kernel_rfl) (by rfl) (by kernel_rfl) (List.Sublist.refl _) (gives_load g4 0 37 (c2 (r)) (c2 (r)) _ (by rfl) (fun _ h => h.blk 3 (by rfl)) (Sl.refl _) Tryd.underlying37 (by rfl) (hi_2 _)) ?_
    refine flow_take (i := 8) (.agg (c2 ((q) + (r)))) (by rfl) (by kernel_rfl) (by kernel_rfl) (by kernel_rfl) (by rfl) (by kernel_rfl) (List.Sublist.refl _) (gives_call (vl := [.agg (c2 (q)), .agg (c2 (r))]) (by kernel_rfl) (by rfl) (fun w h => q_add _ _ w (hG.keep h.below))) ?_
    refine flow_take (i := 9) (.agg (c3 ((((x).a) + ((x).b)) * C3.mk (p) ((q) + (r)) 0))) (by rfl) (by kernel_rfl) (by kernel_rfl) (by kernel_rfl) (by rfl) (by kernel_rfl) (List.Sublist.refl _) (gives_call (vl := [.agg (c3 (((x).a) + ((x).b))), .agg (c2 (p)), .agg (c2 ((q) + (r)))]) (by kernel_rfl) (by rfl) (fun w h => t_cline _ _ _ w (hG.keep h.below))) ?_
    refine flow_one 10 (by kernel_rfl) ?_
    refine F_alloc _ (by rfl) (by rfl) z_3 (c3 (0 : C3)) rfl (List.Sublist.refl _) ?_; intro g8
    refine flow_one 11 (by kernel_rfl) ?_
    refine F_store (t := 81) 0 g8 (c3 (0 : C3)) (c3 ((((x).a) + ((x).b)) * C3.mk (p) ((q) + (r)) 0)) (by rfl) (by rfl) (by rfl) (by rfl) (by rfl) (hi_3 _) ((c3_size _).trans (c3_size _).symm) (c3_one _) (.inr (List.Sublist.cons _ (List.Sublist.refl _))) ?_
    simp only [List.set_cons_zero, List.set_cons_succ]
    refine flow_done (by kernel_rfl) ?_
    intro w3 hw3
    refine seq_flow (by kernel_rfl) hw3 [] [(g8, 81, (c3 ((((x).a) + ((x).b)) * C3.mk (p) ((q) + (r)) 0))), (g6, 81, (c3 (((x).a) * C3.mk (p) (q) 0))), (g7, 81, (c3 (C3.shift (C3.scale ((x).b) (r))))), (g4, 37, (c2 (r))), (g3, 37, (c2 (q))), (g2, 37, (c2 (p))), (g1, 83, (c12 (x)))] 11 (by rfl) ?_
    refine flow_take (i := 0) (.agg (c3 (((x).a) * C3.mk (p) (q) 0))) (by rfl) (by kernel_rfl) (by kernel_rfl) (by kernel_rfl) (by rfl) (by kernel_rfl) (List.Sublist.cons_cons _ (List.Sublist.cons_cons _ (List.Sublist.cons_cons _ (List.Sublist.cons _ (List.Sublist.refl _))))) (gives_load g6 0 81 (c3 (((x).a) * C3.mk (p) (q) 0)) (c3 (((x).a) * C3.mk (p) (q) 0)) _ (by rfl) (fun _ h => h.blk 1 (by rfl)) (Sl.refl _) Tryd.underlying81 (by rfl) (hi_3 _)) ?_
    refine flow_take (i := 1) (.agg (c3 (C3.shift (C3.scale ((x).b) (r))))) (by rfl) (by kernel_rfl) (by kernel_rfl) (by kernel_rfl) (by rfl) (by kernel_rfl) (List.Sublist.cons_cons _ (List.Sublist.cons_cons _ (List.Sublist.cons_cons _ (List.Sublist.cons _ (List.Sublist.refl _))))) (gives_load g7 0 81 (c3 (C3.shift (C3.scale ((x).b) (r)))) (c3 (C3.shift (C3.scale ((x).b) (r)))) _ (by rfl) (fun _ h => h.blk 2 (by rfl)) (Sl.refl _) Tryd.underlying81 (by rfl) (hi_3 _)) ?_
    refine flow_take (i := 2) (.agg (c3 (C3.shift (C3.shift (C3.scale ((x).b) (r)))))) (by rfl) (by kernel_rfl) (by kernel_rfl) (by kernel_rfl) (by rfl) (by kernel_rfl) (List.Sublist.cons_cons _ (List.Sublist.cons_cons _ (List.Sublist.cons_cons _ (List.Sublist.cons _ (List.Sublist.refl _))))) (gives_call (vl := [.agg (c3 (C3.shift (C3.scale ((x).b) (r))))]) (by kernel_rfl) (by rfl) (fun w h => t_shift _ w (hG.keep h.below))) ?_
    refine flow_take (i := 3) (.agg (c3 ((((x).a) * C3.mk (p) (q) 0) + (C3.shift (C3.shift (C3.scale ((x).b) (r))))))) (by rfl) (by kernel_rfl) (by kernel_rfl) (by kernel_rfl) (by rfl) (by kernel_rfl) (List.Sublist.cons_cons _ (List.Sublist.cons_cons _ (List.Sublist.cons_cons _ (List.Sublist.cons _ (List.Sublist.refl _))))) (gives_call (vl := [.agg (c3 (((x).a) * C3.mk (p) (q) 0)), .agg (c3 (C3.shift (C3.shift (C3.scale ((x).b) (r)))))]) (by kernel_rfl) (by rfl) (fun w h => t_cadd _ _ w (hG.keep h.below))) ?_
    refine flow_take (i := 4) (.agg (c3 ((((x).a) + ((x).b)) * C3.mk (p) ((q) + (r)) 0))) (by rfl) (by kernel_rfl) (by kernel_rfl) (by kernel_rfl) (by rfl) (by kernel_rfl) (List.Sublist.cons_cons _ (List.Sublist.cons_cons _ (List.Sublist.cons_cons _ (List.Sublist.cons _ (List.Sublist.refl _))))) (gives_load g8 0 81 (c3 ((((x).a) + ((x).b)) * C3.mk (p) ((q) + (r)) 0)) (c3 ((((x).a) + ((x).b)) * C3.mk (p) ((q) + (r)) 0)) _ (by rfl) (fun _ h => h.blk 0 (by rfl)) (Sl.refl _) Tryd.underlying81 (by rfl) (hi_3 _)) ?_
    refine flow_take (i := 5) (.agg (c3 (((x).a) * C3.mk (p) (q) 0))) (by rfl) (by kernel_rfl) (by kernel_rfl) (by kernel_rfl) (by rfl) (by kernel_rfl) (List.Sublist.cons_cons _ (List.Sublist.cons_cons _ (List.Sublist.cons_cons _ (List.Sublist.cons _ (List.Sublist.refl _))))) (gives_load g6 0 81 (c3 (((x).a) * C3.mk (p) (q) 0)) (c3 (((x).a) * C3.mk (p) (q) 0)) _ (by rfl) (fun _ h => h.blk 1 (by rfl)) (Sl.refl _) Tryd.underlying81 (by rfl) (hi_3 _)) ?_
    refine flow_take (i := 6) (.agg (c3 (((((x).a) + ((x).b)) * C3.mk (p) ((q) + (r)) 0) - (((x).a) * C3.mk (p) (q) 0)))) (by rfl) (by kernel_rfl) (by kernel_rfl) (by kernel_rfl) (by rfl) (by kernel_rfl) (List.Sublist.cons_cons _ (List.Sublist.cons_cons _ (List.Sublist.cons_cons _ (List.Sublist.cons _ (List.Sublist.refl _))))) (gives_call (vl := [.agg (c3 ((((x).a) + ((x).b)) * C3.mk (p) ((q) + (r)) 0)), .agg (c3 (((x).a) * C3.mk (p) (q) 0))]) (by kernel_rfl) (by rfl) (fun w h => t_csub _ _ w (hG.keep h.below))) ?_
    refine flow_take (i := 7) (.agg (c3 (C3.shift (C3.scale ((x).b) (r))))) (by rfl) (by kernel_rfl) (by kernel_rfl) (by kernel_rfl) (by rfl) (by kernel_rfl) (List.Sublist.cons_cons _ (List.Sublist.cons_cons _ (List.Sublist.cons_cons _ (List.Sublist.cons _ (List.Sublist.refl _))))) (gives_load g7 0 81 (c3 (C3.shift (C3.scale ((x).b) (r)))) (c3 (C3.shift (C3.scale ((x).b) (r)))) _ (by rfl) (fun _ h => h.blk 2 (by rfl)) (Sl.refl _) Tryd.underlying81 (by rfl) (hi_3 _)) ?_
    refine flow_take (i := 8) (.agg (c3 ((((((x).a) + ((x).b)) * C3.mk (p) ((q) + (r)) 0) - (((x).a) * C3.mk (p) (q) 0)) - (C3.shift (C3.scale ((x).b) (r)))))) (by rfl) (by kernel_rfl) (by kernel_rfl) (by kernel_rfl) (by rfl) (by kernel_rfl) (List.Sublist.cons_cons _ (List.Sublist.cons_cons _ (List.Sublist.cons_cons _ (List.Sublist.cons _ (List.Sublist.refl _))))) (gives_call (vl := [.agg (c3 (((((x).a) + ((x).b)) * C3.mk (p) ((q) + (r)) 0) - (((x).a) * C3.mk (p) (q) 0))), .agg (c3 (C3.shift (C3.scale ((x).b) (r))))]) (by kernel_rfl) (by rfl) (fun w h => t_csub _ _ w (hG.keep h.below))) ?_
    refine flow_take (i := 9) (.agg (c12 (⟨(((x).a) * C3.mk (p) (q) 0) + (C3.shift (C3.shift (C3.scale ((x).b) (r)))), (((((x).a) + ((x).b)) * C3.mk (p) ((q) + (r)) 0) - (((x).a) * C3.mk (p) (q) 0)) - (C3.shift (C3.scale ((x).b) (r)))⟩ : T12))) (by rfl) (by kernel_rfl) (by kernel_rfl) (by kernel_rfl) (by rfl) (by kernel_rfl) (List.Sublist.cons_cons _ (List.Sublist.cons_cons _ (List.Sublist.cons_cons _ (List.Sublist.cons _ (List.Sublist.refl _))))) (gb_tower [(0, (c3 ((((x).a) * C3.mk (p) (q) 0) + (C3.shift (C3.shift (C3.scale ((x).b) (r))))))), (1, (c3 ((((((x).a) + ((x).b)) * C3.mk (p) ((q) + (r)) 0) - (((x).a) * C3.mk (p) (q) 0)) - (C3.shift (C3.scale ((x).b) (r))))))] ⟨congrArg some (c3_size _).symm, congrArg some (c3_size _).symm, trivial⟩ (by rfl) (c12 (⟨(((x).a) * C3.mk (p) (q) 0) + (C3.shift (C3.shift (C3.scale ((x).b) (r)))), (((((x).a) + ((x).b)) * C3.mk (p) ((q) + (r)) 0) - (((x).a) * C3.mk (p) (q) 0)) - (C3.shift (C3.scale ((x).b) (r)))⟩ : T12)) (by rfl)) ?_
    refine flow_one 10 (by kernel_rfl) ?_
    refine F_store (t := 83) 3 g5 (c12 (0 : T12)) (c12 (⟨(((x).a) * C3.mk (p) (q) 0) + (C3.shift (C3.shift (C3.scale ((x).b) (r)))), (((((x).a) + ((x).b)) * C3.mk (p) ((q) + (r)) 0) - (((x).a) * C3.mk (p) (q) 0)) - (C3.shift (C3.scale ((x).b) (r)))⟩ : T12)) (by rfl) (by rfl) (by rfl) (by rfl) (by rfl) (hi_12 _) ((c12_size _).trans (c12_size _).symm) (c12_one _) (.inr (List.Sublist.cons_cons _ (List.Sublist.cons_cons _ (List.Sublist.cons_cons _ (List.Sublist.cons _ (List.Sublist.refl _)))))) ?_
    simp only [List.set_cons_zero, List.set_cons_succ]
    refine flow_done (by kernel_rfl) ?_
    intro w4 hw4
    refine wp_ret ?_
    change bodyPost _ _ _ Exit.ret _ _
    refine (ret_cell (by rfl) (by rfl) (by rfl) (hw4.blk 3 (by rfl)) Tryd.underlying83 (by rfl) (hi_12 _) ⟨?_, hw4.below⟩)
    refine congrArg (fun z : T12 => Ending.returned (.agg (c12 z))) ?_
    have e1 : (x.b.scale r).shift = x.b * C3.mk 0 r 0 := by
      apply C3.same <;> apply F2.same <;> simp only [C3.shift_a, C3.shift_b, C3.shift_c, C3.scale, C3.mul_a, C3.mul_b, C3.mul_c, C3.add_a, C3.add_b, C3.add_c, C3.sub_a, C3.sub_b, C3.sub_c, F2.add_a, F2.add_b, F2.sub_a, F2.sub_b, F2.mul_a, F2.mul_b, F2.up_a, F2.up_b, F2.zero_a, F2.zero_b, Fp.mz] <;> grind
    have e2 : C3.mk p (q + r) 0 = C3.mk p q 0 + C3.mk 0 r 0 := by apply C3.same <;> simp only [C3.add_a, C3.add_b, C3.add_c, F2.rg.az]
    apply T12.same
    · show x.a * C3.mk p q 0 + (x.b.scale r).shift.shift = _
      rw [e1]
      rfl
    · show (x.a + x.b) * C3.mk p (q + r) 0 - x.a * C3.mk p q 0 - (x.b.scale r).shift = _
      rw [e1, e2]
      exact tw_k1 C3.rg _ _ _ _
set_option maxRecDepth 100000 in
set_option maxHeartbeats 4000000 in
theorem t_one  (v : World) (hG : Glo v) : Rets 91 #[] v (.agg (c12 1)) := by
  obtain ⟨k0, hk0⟩ : ∃ k : F2, k = F2.sm 1 0 := ⟨_, rfl⟩
  refine calls_fr0 Tryd.func91 rfl (by rfl : _ = 4) ?_
  have hw := Hbl.nil v
  refine seq_plain hw [0] (by rfl) ?_
  refine L_alloc _ (by rfl) (by rfl) z_12 (c12 (0 : T12)) rfl ?_; intro g1
  refine L_end ?_
  intro w1 hw1
  refine seq_plain hw1 [0, 1, 2, 3] (by rfl) ?_
  refine L_val (.agg (c2 (k0))) (by rfl) (by rfl) (gives_call (vl := [.int .u64 1, .int .u64 0]) (by kernel_rfl) (by rfl) (fun w h => by rw [hk0]; exact q_small _ _ w (hG.keep h.below) (by omega) (by simp only [Wd]; omega) (by omega) (by simp only [Wd]; omega))) ?_
  refine L_val (.agg (c3 (⟨k0, (0 : F2), (0 : F2)⟩ : C3))) (by rfl) (by rfl) (gb_cubic [(0, (c2 (k0)))] ⟨congrArg some (c2_size _).symm, trivial⟩ (by rfl) (c3 (⟨k0, (0 : F2), (0 : F2)⟩ : C3)) (by rfl)) ?_
  refine L_val (.agg (c12 (⟨(⟨k0, (0 : F2), (0 : F2)⟩ : C3), (0 : C3)⟩ : T12))) (by rfl) (by rfl) (gb_tower [(0, (c3 (⟨k0, (0 : F2), (0 : F2)⟩ : C3)))] ⟨congrArg some (c3_size _).symm, trivial⟩ (by rfl) (c12 (⟨(⟨k0, (0 : F2), (0 : F2)⟩ : C3), (0 : C3)⟩ : T12)) (by rfl)) ?_
  refine L_store (t := 83) 0 g1 (c12 (0 : T12)) (c12 (⟨(⟨k0, (0 : F2), (0 : F2)⟩ : C3), (0 : C3)⟩ : T12)) (by rfl) (by rfl) (by rfl) (by rfl) (by rfl) (hi_12 _) ((c12_size _).trans (c12_size _).symm) (c12_one _) ?_
  simp only [List.set_cons_zero, List.set_cons_succ]
  refine L_end ?_
  intro w2 hw2
  refine wp_ret ?_
  change bodyPost _ _ _ Exit.ret _ _
  refine (ret_cell (by rfl) (by rfl) (by rfl) (hw2.blk 0 (by rfl)) Tryd.underlying83 (by rfl) (hi_12 _) ⟨?_, hw2.below⟩)
  refine congrArg (fun z : T12 => Ending.returned (.agg (c12 z))) ?_
  rw [hk0]
  rfl
end Go.Proofs.YtialfoccalobpaaDoor
