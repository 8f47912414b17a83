/-
  fp2: the contracts.
-/
import Derived.Test.YtialfoccalobpaaDoorWBFlowE
namespace Go.Proofs.YtialfoccalobpaaDoor
set_option linter.unusedSimpArgs false
set_option linter.unusedVariables false
open Go.RowKit
attribute [local irreducible] wpL wpF fr Code.wp bodyPost
set_option maxRecDepth 100000 in
set_option maxHeartbeats 4000000 in
theorem q_add (x y : F2) (v : World) (hG : Glo0 v) : Rets 104 #[.agg (c2 (x)), .agg (c2 (y))] v (.agg (c2 (x + y))) := by
  refine calls_fr2 Tryd.func104 rfl (by rfl : _ = 16) (by rfl) ?_
  have hw := Hbl.nil v
  refine seq_plain hw [0, 1, 2] (by rfl) ?_
  refine L_box (.agg (c2 (x))) (by rfl) (by rfl) (by rfl) (c2 (x)) (by rfl) ?_; intro g1
  refine L_box (.agg (c2 (y))) (by rfl) (by rfl) (by rfl) (c2 (y)) (by rfl) ?_; intro g2
  refine L_alloc _ (by rfl) (by rfl) z_2 (c2 (0 : F2)) rfl ?_; intro g3
  refine L_end ?_
  intro w1 hw1
  refine seq_flow (by kernel_rfl) hw1 [] [(g2, 37, (c2 (y))), (g1, 37, (c2 (x)))] 12 (by rfl) ?_
  refine fTs (i := 0) (u := (.pointer (some ⟨g1, 0, none⟩))) (e := (List.Sublist.cons _ (List.Sublist.refl _))) (g := gk) (h := ?_)
  refine fTs (i := 1) (e := (List.Sublist.cons _ (List.Sublist.refl _))) (g := (gives_load g1 0 37 (c2 (x)) (pc ((x).a)) _ (by rfl) (fun _ h => h.blk 1 (by rfl)) (sl_2a (x) _ _ (Sl.refl _)) Tryd.underlying35 (by rfl) (hi_1 _))) (h := ?_)
  refine fTs (i := 2) (u := (.pointer (some ⟨g2, 0, none⟩))) (e := (List.Sublist.cons _ (List.Sublist.refl _))) (g := gk) (h := ?_)
  refine fTs (i := 3) (e := (List.Sublist.cons _ (List.Sublist.refl _))) (g := (gives_load g2 0 37 (c2 (y)) (pc ((y).a)) _ (by rfl) (fun _ h => h.blk 0 (by rfl)) (sl_2a (y) _ _ (Sl.refl _)) Tryd.underlying35 (by rfl) (hi_1 _))) (h := ?_)
  refine fTs (i := 4) (e := (List.Sublist.cons _ (List.Sublist.refl _))) (g := (gives_call (vl := [.agg (pc ((x).a)), .agg (pc ((y).a))]) (by kernel_rfl) (by rfl) (fun w h => v_add _ _ w (hG.keep h.below)))) (h := ?_)
  refine fTs (i := 5) (u := (.pointer (some ⟨g1, 6, none⟩))) (e := (List.Sublist.cons _ (List.Sublist.refl _))) (g := gk) (h := ?_)
  refine fTs (i := 6) (e := (List.Sublist.cons _ (List.Sublist.refl _))) (g := (gives_load g1 6 37 (c2 (x)) (pc ((x).b)) _ (by rfl) (fun _ h => h.blk 1 (by rfl)) (sl_2b (x) _ _ 6 (Sl.refl _) (by rfl)) Tryd.underlying35 (by rfl) (hi_1 _))) (h := ?_)
  refine fTs (i := 7) (u := (.pointer (some ⟨g2, 6, none⟩))) (e := (List.Sublist.cons _ (List.Sublist.refl _))) (g := gk) (h := ?_)
  refine fTs (i := 8) (e := (List.Sublist.cons _ (List.Sublist.refl _))) (g := (gives_load g2 6 37 (c2 (y)) (pc ((y).b)) _ (by rfl) (fun _ h => h.blk 0 (by rfl)) (sl_2b (y) _ _ 6 (Sl.refl _) (by rfl)) Tryd.underlying35 (by rfl) (hi_1 _))) (h := ?_)
  refine fTs (i := 9) (e := (List.Sublist.cons _ (List.Sublist.refl _))) (g := (gives_call (vl := [.agg (pc ((x).b)), .agg (pc ((y).b))]) (by kernel_rfl) (by rfl) (fun w h => v_add _ _ w (hG.keep h.below)))) (h := ?_)
  refine fTs (i := 10) (u := (.agg (c2 (⟨((x).a) + ((y).a), ((x).b) + ((y).b)⟩ : F2)))) (e := (List.Sublist.cons _ (List.Sublist.refl _))) (g := (gb_fp2 [(0, (pc (((x).a) + ((y).a)))), (1, (pc (((x).b) + ((y).b))))] ⟨congrArg some (pc_size _).symm, congrArg some (pc_size _).symm, trivial⟩ (by rfl) (c2 (⟨((x).a) + ((y).a), ((x).b) + ((y).b)⟩ : F2)) (by rfl))) (h := ?_)
  refine flow_one 11 (by kernel_rfl) ?_
  refine F_store (t := 37) 0 g3 _ _ (by rfl) (by rfl) (by rfl) (by rfl) (by rfl) (hi_2 _) ((c2_size _).trans (c2_size _).symm) (c2_one _) (.inr (List.Sublist.cons _ (List.Sublist.refl _))) ?_
  simp only [List.set_cons_zero, List.set_cons_succ]
  refine flow_done (by kernel_rfl) ?_
  intro w2 hw2
  refine wp_ret ?_
  change bodyPost _ _ _ Exit.ret _ _
  refine (ret_cell (by rfl) (by rfl) (by rfl) (hw2.blk 0 (by rfl)) Tryd.underlying37 (by rfl) (hi_2 _) ⟨?_, hw2.below⟩)
  exact rfl
set_option maxRecDepth 100000 in
set_option maxHeartbeats 4000000 in
theorem q_sub (x y : F2) (v : World) (hG : Glo0 v) : Rets 139 #[.agg (c2 (x)), .agg (c2 (y))] v (.agg (c2 (x - y))) := by
  refine calls_fr2 Tryd.func139 rfl (by rfl : _ = 16) (by rfl) ?_
  have hw := Hbl.nil v
  refine seq_plain hw [0, 1, 2] (by rfl) ?_
  refine L_box (.agg (c2 (x))) (by rfl) (by rfl) (by rfl) (c2 (x)) (by rfl) ?_; intro g1
  refine L_box (.agg (c2 (y))) (by rfl) (by rfl) (by rfl) (c2 (y)) (by rfl) ?_; intro g2
  refine L_alloc _ (by rfl) (by rfl) z_2 (c2 (0 : F2)) rfl ?_; intro g3
  refine L_end ?_
  intro w1 hw1
  refine seq_flow (by kernel_rfl) hw1 [] [(g2, 37, (c2 (y))), (g1, 37, (c2 (x)))] 12 (by rfl) ?_
  refine fTs (i := 0) (u := (.pointer (some ⟨g1, 0, none⟩))) (e := (List.Sublist.cons _ (List.Sublist.refl _))) (g := gk) (h := ?_)
  refine fTs (i := 1) (e := (List.Sublist.cons _ (List.Sublist.refl _))) (g := (gives_load g1 0 37 (c2 (x)) (pc ((x).a)) _ (by rfl) (fun _ h => h.blk 1 (by rfl)) (sl_2a (x) _ _ (Sl.refl _)) Tryd.underlying35 (by rfl) (hi_1 _))) (h := ?_)
  refine fTs (i := 2) (u := (.pointer (some ⟨g2, 0, none⟩))) (e := (List.Sublist.cons _ (List.Sublist.refl _))) (g := gk) (h := ?_)
  refine fTs (i := 3) (e := (List.Sublist.cons _ (List.Sublist.refl _))) (g := (gives_load g2 0 37 (c2 (y)) (pc ((y).a)) _ (by rfl) (fun _ h => h.blk 0 (by rfl)) (sl_2a (y) _ _ (Sl.refl _)) Tryd.underlying35 (by rfl) (hi_1 _))) (h := ?_)
  refine fTs (i := 4) (e := (List.Sublist.cons _ (List.Sublist.refl _))) (g := (gives_call (vl := [.agg (pc ((x).a)), .agg (pc ((y).a))]) (by kernel_rfl) (by rfl) (fun w h => v_sub _ _ w (hG.keep h.below)))) (h := ?_)
  refine fTs (i := 5) (u := (.pointer (some ⟨g1, 6, none⟩))) (e := (List.Sublist.cons _ (List.Sublist.refl _))) (g := gk) (h := ?_)
  refine fTs (i := 6) (e := (List.Sublist.cons _ (List.Sublist.refl _))) (g := (gives_load g1 6 37 (c2 (x)) (pc ((x).b)) _ (by rfl) (fun _ h => h.blk 1 (by rfl)) (sl_2b (x) _ _ 6 (Sl.refl _) (by rfl)) Tryd.underlying35 (by rfl) (hi_1 _))) (h := ?_)
  refine fTs (i := 7) (u := (.pointer (some ⟨g2, 6, none⟩))) (e := (List.Sublist.cons _ (List.Sublist.refl _))) (g := gk) (h := ?_)
  refine fTs (i := 8) (e := (List.Sublist.cons _ (List.Sublist.refl _))) (g := (gives_load g2 6 37 (c2 (y)) (pc ((y).b)) _ (by rfl) (fun _ h => h.blk 0 (by rfl)) (sl_2b (y) _ _ 6 (Sl.refl _) (by rfl)) Tryd.underlying35 (by rfl) (hi_1 _))) (h := ?_)
  refine fTs (i := 9) (e := (List.Sublist.cons _ (List.Sublist.refl _))) (g := (gives_call (vl := [.agg (pc ((x).b)), .agg (pc ((y).b))]) (by kernel_rfl) (by rfl) (fun w h => v_sub _ _ w (hG.keep h.below)))) (h := ?_)
  refine fTs (i := 10) (u := (.agg (c2 (⟨((x).a) - ((y).a), ((x).b) - ((y).b)⟩ : F2)))) (e := (List.Sublist.cons _ (List.Sublist.refl _))) (g := (gb_fp2 [(0, (pc (((x).a) - ((y).a)))), (1, (pc (((x).b) - ((y).b))))] ⟨congrArg some (pc_size _).symm, congrArg some (pc_size _).symm, trivial⟩ (by rfl) (c2 (⟨((x).a) - ((y).a), ((x).b) - ((y).b)⟩ : F2)) (by rfl))) (h := ?_)
  refine flow_one 11 (by kernel_rfl) ?_
  refine F_store (t := 37) 0 g3 _ _ (by rfl) (by rfl) (by rfl) (by rfl) (by rfl) (hi_2 _) ((c2_size _).trans (c2_size _).symm) (c2_one _) (.inr (List.Sublist.cons _ (List.Sublist.refl _))) ?_
  simp only [List.set_cons_zero, List.set_cons_succ]
  refine flow_done (by kernel_rfl) ?_
  intro w2 hw2
  refine wp_ret ?_
  change bodyPost _ _ _ Exit.ret _ _
  refine (ret_cell (by rfl) (by rfl) (by rfl) (hw2.blk 0 (by rfl)) Tryd.underlying37 (by rfl) (hi_2 _) ⟨?_, hw2.below⟩)
  exact rfl
set_option maxRecDepth 100000 in
set_option maxHeartbeats 4000000 in
theorem q_neg (x : F2) (v : World) (hG : Glo0 v) : Rets 84 #[.agg (c2 (x))] v (.agg (c2 (-x))) := by
  refine calls_fr1 Tryd.func84 rfl (by rfl : _ = 10) (by rfl) ?_
  have hw := Hbl.nil v
  refine seq_plain hw [0, 1] (by rfl) ?_
  refine L_box (.agg (c2 (x))) (by rfl) (by rfl) (by rfl) (c2 (x)) (by rfl) ?_; intro g1
  refine L_alloc _ (by rfl) (by rfl) z_2 (c2 (0 : F2)) rfl ?_; intro g2
  refine L_end ?_
  intro w1 hw1
  refine seq_flow (by kernel_rfl) hw1 [] [(g1, 37, (c2 (x)))] 8 (by rfl) ?_
  refine fTs (i := 0) (u := (.pointer (some ⟨g1, 0, none⟩))) (e := (List.Sublist.cons _ (List.Sublist.refl _))) (g := gk) (h := ?_)
  refine fTs (i := 1) (e := (List.Sublist.cons _ (List.Sublist.refl _))) (g := (gives_load g1 0 37 (c2 (x)) (pc ((x).a)) _ (by rfl) (fun _ h => h.blk 0 (by rfl)) (sl_2a (x) _ _ (Sl.refl _)) Tryd.underlying35 (by rfl) (hi_1 _))) (h := ?_)
  refine fTs (i := 2) (e := (List.Sublist.cons _ (List.Sublist.refl _))) (g := (gives_call (vl := [.agg (pc ((x).a))]) (by kernel_rfl) (by rfl) (fun w h => v_neg _ w (hG.keep h.below)))) (h := ?_)
  refine fTs (i := 3) (u := (.pointer (some ⟨g1, 6, none⟩))) (e := (List.Sublist.cons _ (List.Sublist.refl _))) (g := gk) (h := ?_)
  refine fTs (i := 4) (e := (List.Sublist.cons _ (List.Sublist.refl _))) (g := (gives_load g1 6 37 (c2 (x)) (pc ((x).b)) _ (by rfl) (fun _ h => h.blk 0 (by rfl)) (sl_2b (x) _ _ 6 (Sl.refl _) (by rfl)) Tryd.underlying35 (by rfl) (hi_1 _))) (h := ?_)
  refine fTs (i := 5) (e := (List.Sublist.cons _ (List.Sublist.refl _))) (g := (gives_call (vl := [.agg (pc ((x).b))]) (by kernel_rfl) (by rfl) (fun w h => v_neg _ w (hG.keep h.below)))) (h := ?_)
  refine fTs (i := 6) (u := (.agg (c2 (⟨-((x).a), -((x).b)⟩ : F2)))) (e := (List.Sublist.cons _ (List.Sublist.refl _))) (g := (gb_fp2 [(0, (pc (-((x).a)))), (1, (pc (-((x).b))))] ⟨congrArg some (pc_size _).symm, congrArg some (pc_size _).symm, trivial⟩ (by rfl) (c2 (⟨-((x).a), -((x).b)⟩ : F2)) (by rfl))) (h := ?_)
  refine flow_one 7 (by kernel_rfl) ?_
  refine F_store (t := 37) 0 g2 _ _ (by rfl) (by rfl) (by rfl) (by rfl) (by rfl) (hi_2 _) ((c2_size _).trans (c2_size _).symm) (c2_one _) (.inr (List.Sublist.cons _ (List.Sublist.refl _))) ?_
  simp only [List.set_cons_zero, List.set_cons_succ]
  refine flow_done (by kernel_rfl) ?_
  intro w2 hw2
  refine wp_ret ?_
  change bodyPost _ _ _ Exit.ret _ _
  refine (ret_cell (by rfl) (by rfl) (by rfl) (hw2.blk 0 (by rfl)) Tryd.underlying37 (by rfl) (hi_2 _) ⟨?_, hw2.below⟩)
  exact rfl
set_option maxRecDepth 100000 in
set_option maxHeartbeats 4000000 in
theorem q_conj (x : F2) (v : World) (hG : Glo0 v) : Rets 181 #[.agg (c2 (x))] v (.agg (c2 x.conj)) := by
  refine calls_fr1 Tryd.func181 rfl (by rfl : _ = 9) (by rfl) ?_
  have hw := Hbl.nil v
  refine seq_plain hw [0, 1] (by rfl) ?_
  refine L_box (.agg (c2 (x))) (by rfl) (by rfl) (by rfl) (c2 (x)) (by rfl) ?_; intro g1
  refine L_alloc _ (by rfl) (by rfl) z_2 (c2 (0 : F2)) rfl ?_; intro g2
  refine L_end ?_
  intro w1 hw1
  refine seq_flow (by kernel_rfl) hw1 [] [(g1, 37, (c2 (x)))] 7 (by rfl) ?_
  refine fTs (i := 0) (u := (.pointer (some ⟨g1, 0, none⟩))) (e := (List.Sublist.cons _ (List.Sublist.refl _))) (g := gk) (h := ?_)
  refine fTs (i := 1) (e := (List.Sublist.cons _ (List.Sublist.refl _))) (g := (gives_load g1 0 37 (c2 (x)) (pc ((x).a)) _ (by rfl) (fun _ h => h.blk 0 (by rfl)) (sl_2a (x) _ _ (Sl.refl _)) Tryd.underlying35 (by rfl) (hi_1 _))) (h := ?_)
  refine fTs (i := 2) (u := (.pointer (some ⟨g1, 6, none⟩))) (e := (List.Sublist.cons _ (List.Sublist.refl _))) (g := gk) (h := ?_)
  refine fTs (i := 3) (e := (List.Sublist.cons _ (List.Sublist.refl _))) (g := (gives_load g1 6 37 (c2 (x)) (pc ((x).b)) _ (by rfl) (fun _ h => h.blk 0 (by rfl)) (sl_2b (x) _ _ 6 (Sl.refl _) (by rfl)) Tryd.underlying35 (by rfl) (hi_1 _))) (h := ?_)
  refine fTs (i := 4) (e := (List.Sublist.cons _ (List.Sublist.refl _))) (g := (gives_call (vl := [.agg (pc ((x).b))]) (by kernel_rfl) (by rfl) (fun w h => v_neg _ w (hG.keep h.below)))) (h := ?_)
  refine fTs (i := 5) (u := (.agg (c2 (⟨(x).a, -((x).b)⟩ : F2)))) (e := (List.Sublist.cons _ (List.Sublist.refl _))) (g := (gb_fp2 [(0, (pc ((x).a))), (1, (pc (-((x).b))))] ⟨congrArg some (pc_size _).symm, congrArg some (pc_size _).symm, trivial⟩ (by rfl) (c2 (⟨(x).a, -((x).b)⟩ : F2)) (by rfl))) (h := ?_)
  refine flow_one 6 (by kernel_rfl) ?_
  refine F_store (t := 37) 0 g2 _ _ (by rfl) (by rfl) (by rfl) (by rfl) (by rfl) (hi_2 _) ((c2_size _).trans (c2_size _).symm) (c2_one _) (.inr (List.Sublist.cons _ (List.Sublist.refl _))) ?_
  simp only [List.set_cons_zero, List.set_cons_succ]
  refine flow_done (by kernel_rfl) ?_
  intro w2 hw2
  refine wp_ret ?_
  change bodyPost _ _ _ Exit.ret _ _
  refine (ret_cell (by rfl) (by rfl) (by rfl) (hw2.blk 0 (by rfl)) Tryd.underlying37 (by rfl) (hi_2 _) ⟨?_, hw2.below⟩)
  exact rfl
set_option maxRecDepth 100000 in
set_option maxHeartbeats 4000000 in
theorem q_mul (x y : F2) (v : World) (hG : Glo0 v) : Rets 133 #[.agg (c2 (x)), .agg (c2 (y))] v (.agg (c2 (x * y))) := by
  refine calls_fr2 Tryd.func133 rfl (by rfl : _ = 38) (by rfl) ?_
  have hw := Hbl.nil v
  refine seq_plain hw [0, 1, 2] (by rfl) ?_
  refine L_box (.agg (c2 (x))) (by rfl) (by rfl) (by rfl) (c2 (x)) (by rfl) ?_; intro g1
  refine L_box (.agg (c2 (y))) (by rfl) (by rfl) (by rfl) (c2 (y)) (by rfl) ?_; intro g2
  refine L_alloc _ (by rfl) (by rfl) z_2 (c2 (0 : F2)) rfl ?_; intro g3
  refine L_end ?_
  intro w1 hw1
  refine seq_flow_to (fun a w => ∃ g_5 g_6, a = fr 38 [(5, .pointer (some ⟨g_5, 0, none⟩)), (6, .pointer (some ⟨g_6, 0, none⟩)), (17, .agg (pc (((x).b) * ((y).b)))), (16, .agg (pc ((y).b))), (15, .pointer (some ⟨g2, 6, none⟩)), (14, .agg (pc ((x).b))), (13, .pointer (some ⟨g1, 6, none⟩)), (12, .agg (pc (((x).a) * ((y).a)))), (11, .agg (pc ((y).a))), (10, .pointer (some ⟨g2, 0, none⟩)), (9, .agg (pc ((x).a))), (8, .pointer (some ⟨g1, 0, none⟩)), (4, .pointer (some ⟨g3, 0, none⟩)), (3, .pointer (some ⟨g2, 0, none⟩)), (2, .pointer (some ⟨g1, 0, none⟩)), (1, .agg (c2 (y))), (0, .agg (c2 (x)))] ∧ Hbl v [(g_5, 35, (pc (((x).a) * ((y).a)))), (g_6, 35, (pc (((x).b) * ((y).b)))), (g3, 37, (c2 (0 : F2))), (g2, 37, (c2 (y))), (g1, 37, (c2 (x)))] w) (by kernel_rfl) hw1 [] [(g3, 37, (c2 (0 : F2))), (g2, 37, (c2 (y))), (g1, 37, (c2 (x)))] 14 (by rfl) ?_ ?_
  ·
    refine fT (i := 0) (u := (.pointer (some ⟨g1, 0, none⟩))) (g := gk) (h := ?_)
    refine fT (i := 1) (g := (gives_load g1 0 37 (c2 (x)) (pc ((x).a)) _ (by rfl) (fun _ h => h.blk 2 (by rfl)) (sl_2a (x) _ _ (Sl.refl _)) Tryd.underlying35 (by rfl) (hi_1 _))) (h := ?_)
    refine fT (i := 2) (u := (.pointer (some ⟨g2, 0, none⟩))) (g := gk) (h := ?_)
    refine fT (i := 3) (g := (gives_load g2 0 37 (c2 (y)) (pc ((y).a)) _ (by rfl) (fun _ h => h.blk 1 (by rfl)) (sl_2a (y) _ _ (Sl.refl _)) Tryd.underlying35 (by rfl) (hi_1 _))) (h := ?_)
    refine fT (i := 4) (g := (gives_call (vl := [.agg (pc ((x).a)), .agg (pc ((y).a))]) (by kernel_rfl) (by rfl) (fun w h => v_mul _ _ w (hG.keep h.below)))) (h := ?_)
    refine fT (i := 5) (u := (.pointer (some ⟨g1, 6, none⟩))) (g := gk) (h := ?_)
    refine fT (i := 6) (g := (gives_load g1 6 37 (c2 (x)) (pc ((x).b)) _ (by rfl) (fun _ h => h.blk 2 (by rfl)) (sl_2b (x) _ _ 6 (Sl.refl _) (by rfl)) Tryd.underlying35 (by rfl) (hi_1 _))) (h := ?_)
    refine fT (i := 7) (u := (.pointer (some ⟨g2, 6, none⟩))) (g := gk) (h := ?_)
    refine fT (i := 8) (g := (gives_load g2 6 37 (c2 (y)) (pc ((y).b)) _ (by rfl) (fun _ h => h.blk 1 (by rfl)) (sl_2b (y) _ _ 6 (Sl.refl _) (by rfl)) Tryd.underlying35 (by rfl) (hi_1 _))) (h := ?_)
    refine fT (i := 9) (g := (gives_call (vl := [.agg (pc ((x).b)), .agg (pc ((y).b))]) (by kernel_rfl) (by rfl) (fun w h => v_mul _ _ w (hG.keep h.below)))) (h := ?_)
    refine flow_two 10 11 (by kernel_rfl) ?_ ?_
    ·
      refine F_alloc _ (by rfl) (by rfl) z_1 (pc (0 : Fp)) rfl (List.Sublist.refl _) ?_; intro g_5
      refine flow_one 11 (by kernel_rfl) ?_
      refine F_alloc _ (by rfl) (by rfl) z_1 (pc (0 : Fp)) rfl (List.Sublist.cons _ (List.Sublist.refl _)) ?_; intro g_6
      refine flow_one 12 (by kernel_rfl) ?_
      refine F_store (t := 35) 1 g_5 _ _ (by rfl) (by rfl) (by rfl) (by rfl) (by rfl) (hi_1 _) ((pc_size _).trans (pc_size _).symm) (pc_one _) (.inr (List.Sublist.cons _ (List.Sublist.cons _ (List.Sublist.refl _)))) ?_
      simp only [List.set_cons_zero, List.set_cons_succ]
      refine flow_one 13 (by kernel_rfl) ?_
      refine F_store (t := 35) 0 g_6 _ _ (by rfl) (by rfl) (by rfl) (by rfl) (by rfl) (hi_1 _) ((pc_size _).trans (pc_size _).symm) (pc_one _) (.inr (List.Sublist.cons _ (List.Sublist.cons _ (List.Sublist.refl _)))) ?_
      simp only [List.set_cons_zero, List.set_cons_succ]
      refine flow_done (by kernel_rfl) ?_
      intro wz hz
      exact ⟨g_5, g_6, ((fr_comm _ _ _ _ (by decide))), hz.perm (List.Perm.swap _ _ _)⟩
    ·
      refine F_alloc _ (by rfl) (by rfl) z_1 (pc (0 : Fp)) rfl (List.Sublist.refl _) ?_; intro g_6
      refine flow_one 10 (by kernel_rfl) ?_
      refine F_alloc _ (by rfl) (by rfl) z_1 (pc (0 : Fp)) rfl (List.Sublist.cons _ (List.Sublist.refl _)) ?_; intro g_5
      refine flow_one 12 (by kernel_rfl) ?_
      refine F_store (t := 35) 0 g_5 _ _ (by rfl) (by rfl) (by rfl) (by rfl) (by rfl) (hi_1 _) ((pc_size _).trans (pc_size _).symm) (pc_one _) (.inr (List.Sublist.cons _ (List.Sublist.cons _ (List.Sublist.refl _)))) ?_
      simp only [List.set_cons_zero, List.set_cons_succ]
      refine flow_one 13 (by kernel_rfl) ?_
      refine F_store (t := 35) 1 g_6 _ _ (by rfl) (by rfl) (by rfl) (by rfl) (by rfl) (hi_1 _) ((pc_size _).trans (pc_size _).symm) (pc_one _) (.inr (List.Sublist.cons _ (List.Sublist.cons _ (List.Sublist.refl _)))) ?_
      simp only [List.set_cons_zero, List.set_cons_succ]
      refine flow_done (by kernel_rfl) ?_
      intro wz hz
      exact ⟨g_5, g_6, rfl, hz.perm (List.Perm.refl _)⟩
  ·
    rintro a0 w2 ⟨g4, g5, rfl, hw2⟩
    refine seq_flow (by kernel_rfl) hw2 [] [(g4, 35, (pc (((x).a) * ((y).a)))), (g5, 35, (pc (((x).b) * ((y).b)))), (g3, 37, (c2 (0 : F2))), (g2, 37, (c2 (y))), (g1, 37, (c2 (x)))] 13 (by rfl) ?_
    refine fT (i := 0) (u := (.pointer (some ⟨g1, 0, none⟩))) (g := gk) (h := ?_)
    refine fT (i := 1) (g := (gives_load g1 0 37 (c2 (x)) (pc ((x).a)) _ (by rfl) (fun _ h => h.blk 4 (by rfl)) (sl_2a (x) _ _ (Sl.refl _)) Tryd.underlying35 (by rfl) (hi_1 _))) (h := ?_)
    refine fT (i := 2) (u := (.pointer (some ⟨g1, 6, none⟩))) (g := gk) (h := ?_)
    refine fT (i := 3) (g := (gives_load g1 6 37 (c2 (x)) (pc ((x).b)) _ (by rfl) (fun _ h => h.blk 4 (by rfl)) (sl_2b (x) _ _ 6 (Sl.refl _) (by rfl)) Tryd.underlying35 (by rfl) (hi_1 _))) (h := ?_)
    refine fT (i := 4) (g := (gives_call (vl := [.agg (pc ((x).a)), .agg (pc ((x).b))]) (by kernel_rfl) (by rfl) (fun w h => v_add _ _ w (hG.keep h.below)))) (h := ?_)
    refine fT (i := 5) (u := (.pointer (some ⟨g2, 0, none⟩))) (g := gk) (h := ?_)
    refine fT (i := 6) (g := (gives_load g2 0 37 (c2 (y)) (pc ((y).a)) _ (by rfl) (fun _ h => h.blk 3 (by rfl)) (sl_2a (y) _ _ (Sl.refl _)) Tryd.underlying35 (by rfl) (hi_1 _))) (h := ?_)
    refine fT (i := 7) (u := (.pointer (some ⟨g2, 6, none⟩))) (g := gk) (h := ?_)
    refine fT (i := 8) (g := (gives_load g2 6 37 (c2 (y)) (pc ((y).b)) _ (by rfl) (fun _ h => h.blk 3 (by rfl)) (sl_2b (y) _ _ 6 (Sl.refl _) (by rfl)) Tryd.underlying35 (by rfl) (hi_1 _))) (h := ?_)
    refine fT (i := 9) (g := (gives_call (vl := [.agg (pc ((y).a)), .agg (pc ((y).b))]) (by kernel_rfl) (by rfl) (fun w h => v_add _ _ w (hG.keep h.below)))) (h := ?_)
    refine fT (i := 10) (g := (gives_call (vl := [.agg (pc (((x).a) + ((x).b))), .agg (pc (((y).a) + ((y).b)))]) (by kernel_rfl) (by rfl) (fun w h => v_mul _ _ w (hG.keep h.below)))) (h := ?_)
    refine flow_one 11 (by kernel_rfl) ?_
    refine F_alloc _ (by rfl) (by rfl) z_1 (pc (0 : Fp)) rfl (List.Sublist.refl _) ?_; intro g6
    refine flow_one 12 (by kernel_rfl) ?_
    refine F_store (t := 35) 0 g6 _ _ (by rfl) (by rfl) (by rfl) (by rfl) (by rfl) (hi_1 _) ((pc_size _).trans (pc_size _).symm) (pc_one _) (.inr (List.Sublist.cons _ (List.Sublist.refl _))) ?_
    simp only [List.set_cons_zero, List.set_cons_succ]
    refine flow_done (by kernel_rfl) ?_
    intro w3 hw3
    refine seq_flow (by kernel_rfl) hw3 [] [(g6, 35, (pc ((((x).a) + ((x).b)) * (((y).a) + ((y).b))))), (g4, 35, (pc (((x).a) * ((y).a)))), (g5, 35, (pc (((x).b) * ((y).b)))), (g2, 37, (c2 (y))), (g1, 37, (c2 (x)))] 10 (by rfl) ?_
    refine fTs (i := 0) (e := (List.Sublist.cons_cons _ (List.Sublist.cons_cons _ (List.Sublist.cons_cons _ (List.Sublist.cons _ (List.Sublist.refl _)))))) (g := (gL g4 35 (pc (((x).a) * ((y).a))) 1 Tryd.underlying35 (hi_1 _))) (h := ?_)
    refine fTs (i := 1) (e := (List.Sublist.cons_cons _ (List.Sublist.cons_cons _ (List.Sublist.cons_cons _ (List.Sublist.cons _ (List.Sublist.refl _)))))) (g := (gL g5 35 (pc (((x).b) * ((y).b))) 2 Tryd.underlying35 (hi_1 _))) (h := ?_)
    refine fTs (i := 2) (e := (List.Sublist.cons_cons _ (List.Sublist.cons_cons _ (List.Sublist.cons_cons _ (List.Sublist.cons _ (List.Sublist.refl _)))))) (g := (gives_call (vl := [.agg (pc (((x).a) * ((y).a))), .agg (pc (((x).b) * ((y).b)))]) (by kernel_rfl) (by rfl) (fun w h => v_sub _ _ w (hG.keep h.below)))) (h := ?_)
    refine fTs (i := 3) (e := (List.Sublist.cons_cons _ (List.Sublist.cons_cons _ (List.Sublist.cons_cons _ (List.Sublist.cons _ (List.Sublist.refl _)))))) (g := (gL g6 35 (pc ((((x).a) + ((x).b)) * (((y).a) + ((y).b)))) 0 Tryd.underlying35 (hi_1 _))) (h := ?_)
    refine fTs (i := 4) (e := (List.Sublist.cons_cons _ (List.Sublist.cons_cons _ (List.Sublist.cons_cons _ (List.Sublist.cons _ (List.Sublist.refl _)))))) (g := (gL g4 35 (pc (((x).a) * ((y).a))) 1 Tryd.underlying35 (hi_1 _))) (h := ?_)
    refine fTs (i := 5) (e := (List.Sublist.cons_cons _ (List.Sublist.cons_cons _ (List.Sublist.cons_cons _ (List.Sublist.cons _ (List.Sublist.refl _)))))) (g := (gives_call (vl := [.agg (pc ((((x).a) + ((x).b)) * (((y).a) + ((y).b)))), .agg (pc (((x).a) * ((y).a)))]) (by kernel_rfl) (by rfl) (fun w h => v_sub _ _ w (hG.keep h.below)))) (h := ?_)
    refine fTs (i := 6) (e := (List.Sublist.cons_cons _ (List.Sublist.cons_cons _ (List.Sublist.cons_cons _ (List.Sublist.cons _ (List.Sublist.refl _)))))) (g := (gL g5 35 (pc (((x).b) * ((y).b))) 2 Tryd.underlying35 (hi_1 _))) (h := ?_)
    refine fTs (i := 7) (e := (List.Sublist.cons_cons _ (List.Sublist.cons_cons _ (List.Sublist.cons_cons _ (List.Sublist.cons _ (List.Sublist.refl _)))))) (g := (gives_call (vl := [.agg (pc (((((x).a) + ((x).b)) * (((y).a) + ((y).b))) - (((x).a) * ((y).a)))), .agg (pc (((x).b) * ((y).b)))]) (by kernel_rfl) (by rfl) (fun w h => v_sub _ _ w (hG.keep h.below)))) (h := ?_)
    refine fTs (i := 8) (u := (.agg (c2 (⟨(((x).a) * ((y).a)) - (((x).b) * ((y).b)), (((((x).a) + ((x).b)) * (((y).a) + ((y).b))) - (((x).a) * ((y).a))) - (((x).b) * ((y).b))⟩ : F2)))) (e := (List.Sublist.cons_cons _ (List.Sublist.cons_cons _ (List.Sublist.cons_cons _ (List.Sublist.cons _ (List.Sublist.refl _)))))) (g := (gb_fp2 [(0, (pc ((((x).a) * ((y).a)) - (((x).b) * ((y).b))))), (1, (pc ((((((x).a) + ((x).b)) * (((y).a) + ((y).b))) - (((x).a) * ((y).a))) - (((x).b) * ((y).b)))))] ⟨congrArg some (pc_size _).symm, congrArg some (pc_size _).symm, trivial⟩ (by rfl) (c2 (⟨(((x).a) * ((y).a)) - (((x).b) * ((y).b)), (((((x).a) + ((x).b)) * (((y).a) + ((y).b))) - (((x).a) * ((y).a))) - (((x).b) * ((y).b))⟩ : F2)) (by rfl))) (h := ?_)
    refine flow_one 9 (by kernel_rfl) ?_
    refine F_store (t := 37) 3 g3 _ _ (by rfl) (by rfl) (by rfl) (by rfl) (by rfl) (hi_2 _) ((c2_size _).trans (c2_size _).symm) (c2_one _) (.inr (List.Sublist.cons_cons _ (List.Sublist.cons_cons _ (List.Sublist.cons_cons _ (List.Sublist.cons _ (List.Sublist.refl _)))))) ?_
    simp only [List.set_cons_zero, List.set_cons_succ]
    refine flow_done (by kernel_rfl) ?_
    intro w4 hw4
    refine wp_ret ?_
    change bodyPost _ _ _ Exit.ret _ _
    refine (ret_cell (by rfl) (by rfl) (by rfl) (hw4.blk 3 (by rfl)) Tryd.underlying37 (by rfl) (hi_2 _) ⟨?_, hw4.below⟩)
    refine congrArg (fun z : F2 => Ending.returned (.agg (c2 z))) ?_
    apply F2.same <;> simp only [F2.mul_a, F2.mul_b] <;> grind
set_option maxRecDepth 100000 in
set_option maxHeartbeats 4000000 in
theorem q_square (x : F2) (v : World) (hG : Glo0 v) : Rets 132 #[.agg (c2 (x))] v (.agg (c2 (x * x))) := by
  refine calls_fr1 Tryd.func132 rfl (by rfl : _ = 24) (by rfl) ?_
  have hw := Hbl.nil v
  refine seq_plain hw [0, 1] (by rfl) ?_
  refine L_box (.agg (c2 (x))) (by rfl) (by rfl) (by rfl) (c2 (x)) (by rfl) ?_; intro g1
  refine L_alloc _ (by rfl) (by rfl) z_2 (c2 (0 : F2)) rfl ?_; intro g2
  refine L_end ?_
  intro w1 hw1
  refine seq_plain hw1 [0, 1, 2, 3, 4, 5, 6] (by rfl) ?_
  refine L_val (.pointer (some ⟨g1, 0, none⟩)) (by rfl) (by rfl) gk ?_
  refine L_val (.agg (pc ((x).a))) (by rfl) (by rfl) (gives_load g1 0 37 (c2 (x)) (pc ((x).a)) _ (by rfl) (fun _ h => h.blk 1 (by rfl)) (sl_2a (x) _ _ (Sl.refl _)) Tryd.underlying35 (by rfl) (hi_1 _)) ?_
  refine L_val (.pointer (some ⟨g1, 6, none⟩)) (by rfl) (by rfl) gk ?_
  refine L_val (.agg (pc ((x).b))) (by rfl) (by rfl) (gives_load g1 6 37 (c2 (x)) (pc ((x).b)) _ (by rfl) (fun _ h => h.blk 1 (by rfl)) (sl_2b (x) _ _ 6 (Sl.refl _) (by rfl)) Tryd.underlying35 (by rfl) (hi_1 _)) ?_
  refine L_val (.agg (pc (((x).a) * ((x).b)))) (by rfl) (by rfl) (gives_call (vl := [.agg (pc ((x).a)), .agg (pc ((x).b))]) (by kernel_rfl) (by rfl) (fun w h => v_mul _ _ w (hG.keep h.below))) ?_
  refine L_alloc _ (by rfl) (by rfl) z_1 (pc (0 : Fp)) rfl ?_; intro g3
  refine L_store (t := 35) 0 g3 _ _ (by rfl) (by rfl) (by rfl) (by rfl) (by rfl) (hi_1 _) ((pc_size _).trans (pc_size _).symm) (pc_one _) ?_
  simp only [List.set_cons_zero, List.set_cons_succ]
  refine L_end ?_
  intro w2 hw2
  refine seq_flow (by kernel_rfl) hw2 [] [(g3, 35, (pc (((x).a) * ((x).b)))), (g1, 37, (c2 (x)))] 16 (by rfl) ?_
  refine fTs (i := 0) (u := (.pointer (some ⟨g1, 0, none⟩))) (e := (List.Sublist.cons_cons _ (List.Sublist.cons _ (List.Sublist.refl _)))) (g := gk) (h := ?_)
  refine fTs (i := 1) (e := (List.Sublist.cons_cons _ (List.Sublist.cons _ (List.Sublist.refl _)))) (g := (gives_load g1 0 37 (c2 (x)) (pc ((x).a)) _ (by rfl) (fun _ h => h.blk 1 (by rfl)) (sl_2a (x) _ _ (Sl.refl _)) Tryd.underlying35 (by rfl) (hi_1 _))) (h := ?_)
  refine fTs (i := 2) (u := (.pointer (some ⟨g1, 6, none⟩))) (e := (List.Sublist.cons_cons _ (List.Sublist.cons _ (List.Sublist.refl _)))) (g := gk) (h := ?_)
  refine fTs (i := 3) (e := (List.Sublist.cons_cons _ (List.Sublist.cons _ (List.Sublist.refl _)))) (g := (gives_load g1 6 37 (c2 (x)) (pc ((x).b)) _ (by rfl) (fun _ h => h.blk 1 (by rfl)) (sl_2b (x) _ _ 6 (Sl.refl _) (by rfl)) Tryd.underlying35 (by rfl) (hi_1 _))) (h := ?_)
  refine fTs (i := 4) (e := (List.Sublist.cons_cons _ (List.Sublist.cons _ (List.Sublist.refl _)))) (g := (gives_call (vl := [.agg (pc ((x).a)), .agg (pc ((x).b))]) (by kernel_rfl) (by rfl) (fun w h => v_add _ _ w (hG.keep h.below)))) (h := ?_)
  refine fTs (i := 5) (u := (.pointer (some ⟨g1, 0, none⟩))) (e := (List.Sublist.cons_cons _ (List.Sublist.cons _ (List.Sublist.refl _)))) (g := gk) (h := ?_)
  refine fTs (i := 6) (e := (List.Sublist.cons_cons _ (List.Sublist.cons _ (List.Sublist.refl _)))) (g := (gives_load g1 0 37 (c2 (x)) (pc ((x).a)) _ (by rfl) (fun _ h => h.blk 1 (by rfl)) (sl_2a (x) _ _ (Sl.refl _)) Tryd.underlying35 (by rfl) (hi_1 _))) (h := ?_)
  refine fTs (i := 7) (u := (.pointer (some ⟨g1, 6, none⟩))) (e := (List.Sublist.cons_cons _ (List.Sublist.cons _ (List.Sublist.refl _)))) (g := gk) (h := ?_)
  refine fTs (i := 8) (e := (List.Sublist.cons_cons _ (List.Sublist.cons _ (List.Sublist.refl _)))) (g := (gives_load g1 6 37 (c2 (x)) (pc ((x).b)) _ (by rfl) (fun _ h => h.blk 1 (by rfl)) (sl_2b (x) _ _ 6 (Sl.refl _) (by rfl)) Tryd.underlying35 (by rfl) (hi_1 _))) (h := ?_)
  refine fTs (i := 9) (e := (List.Sublist.cons_cons _ (List.Sublist.cons _ (List.Sublist.refl _)))) (g := (gives_call (vl := [.agg (pc ((x).a)), .agg (pc ((x).b))]) (by kernel_rfl) (by rfl) (fun w h => v_sub _ _ w (hG.keep h.below)))) (h := ?_)
  refine fTs (i := 10) (e := (List.Sublist.cons_cons _ (List.Sublist.cons _ (List.Sublist.refl _)))) (g := (gives_call (vl := [.agg (pc (((x).a) + ((x).b))), .agg (pc (((x).a) - ((x).b)))]) (by kernel_rfl) (by rfl) (fun w h => v_mul _ _ w (hG.keep h.below)))) (h := ?_)
  refine fTs (i := 11) (e := (List.Sublist.cons_cons _ (List.Sublist.cons _ (List.Sublist.refl _)))) (g := (gL g3 35 (pc (((x).a) * ((x).b))) 0 Tryd.underlying35 (hi_1 _))) (h := ?_)
  refine fTs (i := 12) (e := (List.Sublist.cons_cons _ (List.Sublist.cons _ (List.Sublist.refl _)))) (g := (gL g3 35 (pc (((x).a) * ((x).b))) 0 Tryd.underlying35 (hi_1 _))) (h := ?_)
  refine fTs (i := 13) (e := (List.Sublist.cons_cons _ (List.Sublist.cons _ (List.Sublist.refl _)))) (g := (gives_call (vl := [.agg (pc (((x).a) * ((x).b))), .agg (pc (((x).a) * ((x).b)))]) (by kernel_rfl) (by rfl) (fun w h => v_add _ _ w (hG.keep h.below)))) (h := ?_)
  refine fTs (i := 14) (u := (.agg (c2 (⟨(((x).a) + ((x).b)) * (((x).a) - ((x).b)), (((x).a) * ((x).b)) + (((x).a) * ((x).b))⟩ : F2)))) (e := (List.Sublist.cons_cons _ (List.Sublist.cons _ (List.Sublist.refl _)))) (g := (gb_fp2 [(0, (pc ((((x).a) + ((x).b)) * (((x).a) - ((x).b))))), (1, (pc ((((x).a) * ((x).b)) + (((x).a) * ((x).b)))))] ⟨congrArg some (pc_size _).symm, congrArg some (pc_size _).symm, trivial⟩ (by rfl) (c2 (⟨(((x).a) + ((x).b)) * (((x).a) - ((x).b)), (((x).a) * ((x).b)) + (((x).a) * ((x).b))⟩ : F2)) (by rfl))) (h := ?_)
  refine flow_one 15 (by kernel_rfl) ?_
  refine F_store (t := 37) 1 g2 _ _ (by rfl) (by rfl) (by rfl) (by rfl) (by rfl) (hi_2 _) ((c2_size _).trans (c2_size _).symm) (c2_one _) (.inr (List.Sublist.cons_cons _ (List.Sublist.cons _ (List.Sublist.refl _)))) ?_
  simp only [List.set_cons_zero, List.set_cons_succ]
  refine flow_done (by kernel_rfl) ?_
  intro w3 hw3
  refine wp_ret ?_
  change bodyPost _ _ _ Exit.ret _ _
  refine (ret_cell (by rfl) (by rfl) (by rfl) (hw3.blk 1 (by rfl)) Tryd.underlying37 (by rfl) (hi_2 _) ⟨?_, hw3.below⟩)
  refine congrArg (fun z : F2 => Ending.returned (.agg (c2 z))) ?_
  apply F2.same <;> simp only [F2.mul_a, F2.mul_b] <;> grind
/-- x times a number of the field beneath. -/
def F2.scale (x : F2) (k : Fp) : F2 := ⟨x.a * k, x.b * k⟩
set_option maxRecDepth 100000 in
set_option maxHeartbeats 4000000 in
theorem q_scale (x : F2) (k : Fp) (v : World) (hG : Glo0 v) : Rets 182 #[.agg (c2 (x)), .agg (pc (k))] v (.agg (c2 (x.scale k))) := by
  refine calls_fr2 Tryd.func182 rfl (by rfl : _ = 14) (by rfl) ?_
  have hw := Hbl.nil v
  refine seq_plain hw [0, 1, 2] (by rfl) ?_
  refine L_box (.agg (c2 (x))) (by rfl) (by rfl) (by rfl) (c2 (x)) (by rfl) ?_; intro g1
  refine L_box (.agg (pc (k))) (by rfl) (by rfl) (by rfl) (pc (k)) (by rfl) ?_; intro g2
  refine L_alloc _ (by rfl) (by rfl) z_2 (c2 (0 : F2)) rfl ?_; intro g3
  refine L_end ?_
  intro w1 hw1
  refine seq_flow (by kernel_rfl) hw1 [] [(g2, 35, (pc (k))), (g1, 37, (c2 (x)))] 10 (by rfl) ?_
  refine fTs (i := 0) (u := (.pointer (some ⟨g1, 0, none⟩))) (e := (List.Sublist.cons _ (List.Sublist.refl _))) (g := gk) (h := ?_)
  refine fTs (i := 1) (e := (List.Sublist.cons _ (List.Sublist.refl _))) (g := (gives_load g1 0 37 (c2 (x)) (pc ((x).a)) _ (by rfl) (fun _ h => h.blk 1 (by rfl)) (sl_2a (x) _ _ (Sl.refl _)) Tryd.underlying35 (by rfl) (hi_1 _))) (h := ?_)
  refine fTs (i := 2) (e := (List.Sublist.cons _ (List.Sublist.refl _))) (g := (gL g2 35 (pc (k)) 0 Tryd.underlying35 (hi_1 _))) (h := ?_)
  refine fTs (i := 3) (e := (List.Sublist.cons _ (List.Sublist.refl _))) (g := (gives_call (vl := [.agg (pc ((x).a)), .agg (pc (k))]) (by kernel_rfl) (by rfl) (fun w h => v_mul _ _ w (hG.keep h.below)))) (h := ?_)
  refine fTs (i := 4) (u := (.pointer (some ⟨g1, 6, none⟩))) (e := (List.Sublist.cons _ (List.Sublist.refl _))) (g := gk) (h := ?_)
  refine fTs (i := 5) (e := (List.Sublist.cons _ (List.Sublist.refl _))) (g := (gives_load g1 6 37 (c2 (x)) (pc ((x).b)) _ (by rfl) (fun _ h => h.blk 1 (by rfl)) (sl_2b (x) _ _ 6 (Sl.refl _) (by rfl)) Tryd.underlying35 (by rfl) (hi_1 _))) (h := ?_)
  refine fTs (i := 6) (e := (List.Sublist.cons _ (List.Sublist.refl _))) (g := (gL g2 35 (pc (k)) 0 Tryd.underlying35 (hi_1 _))) (h := ?_)
  refine fTs (i := 7) (e := (List.Sublist.cons _ (List.Sublist.refl _))) (g := (gives_call (vl := [.agg (pc ((x).b)), .agg (pc (k))]) (by kernel_rfl) (by rfl) (fun w h => v_mul _ _ w (hG.keep h.below)))) (h := ?_)
  refine fTs (i := 8) (u := (.agg (c2 (⟨((x).a) * (k), ((x).b) * (k)⟩ : F2)))) (e := (List.Sublist.cons _ (List.Sublist.refl _))) (g := (gb_fp2 [(0, (pc (((x).a) * (k)))), (1, (pc (((x).b) * (k))))] ⟨congrArg some (pc_size _).symm, congrArg some (pc_size _).symm, trivial⟩ (by rfl) (c2 (⟨((x).a) * (k), ((x).b) * (k)⟩ : F2)) (by rfl))) (h := ?_)
  refine flow_one 9 (by kernel_rfl) ?_
  refine F_store (t := 37) 0 g3 _ _ (by rfl) (by rfl) (by rfl) (by rfl) (by rfl) (hi_2 _) ((c2_size _).trans (c2_size _).symm) (c2_one _) (.inr (List.Sublist.cons _ (List.Sublist.refl _))) ?_
  simp only [List.set_cons_zero, List.set_cons_succ]
  refine flow_done (by kernel_rfl) ?_
  intro w2 hw2
  refine wp_ret ?_
  change bodyPost _ _ _ Exit.ret _ _
  refine (ret_cell (by rfl) (by rfl) (by rfl) (hw2.blk 0 (by rfl)) Tryd.underlying37 (by rfl) (hi_2 _) ⟨?_, hw2.below⟩)
  exact rfl
set_option maxRecDepth 100000 in
set_option maxHeartbeats 4000000 in
theorem q_norm (x : F2) (v : World) (hG : Glo0 v) : Rets 183 #[.agg (c2 (x))] v (.agg (pc x.norm)) := by
  refine calls_fr1 Tryd.func183 rfl (by rfl : _ = 10) (by rfl) ?_
  have hw := Hbl.nil v
  refine seq_plain hw [0, 1] (by rfl) ?_
  refine L_box (.agg (c2 (x))) (by rfl) (by rfl) (by rfl) (c2 (x)) (by rfl) ?_; intro g1
  refine L_alloc _ (by rfl) (by rfl) z_1 (pc (0 : Fp)) rfl ?_; intro g2
  refine L_end ?_
  intro w1 hw1
  refine seq_flow (by kernel_rfl) hw1 [] [(g1, 37, (c2 (x)))] 8 (by rfl) ?_
  refine fTs (i := 0) (u := (.pointer (some ⟨g1, 0, none⟩))) (e := (List.Sublist.cons _ (List.Sublist.refl _))) (g := gk) (h := ?_)
  refine fTs (i := 1) (e := (List.Sublist.cons _ (List.Sublist.refl _))) (g := (gives_load g1 0 37 (c2 (x)) (pc ((x).a)) _ (by rfl) (fun _ h => h.blk 0 (by rfl)) (sl_2a (x) _ _ (Sl.refl _)) Tryd.underlying35 (by rfl) (hi_1 _))) (h := ?_)
  refine fTs (i := 2) (e := (List.Sublist.cons _ (List.Sublist.refl _))) (g := (gives_call (vl := [.agg (pc ((x).a))]) (by kernel_rfl) (by rfl) (fun w h => v_square _ w (hG.keep h.below)))) (h := ?_)
  refine fTs (i := 3) (u := (.pointer (some ⟨g1, 6, none⟩))) (e := (List.Sublist.cons _ (List.Sublist.refl _))) (g := gk) (h := ?_)
  refine fTs (i := 4) (e := (List.Sublist.cons _ (List.Sublist.refl _))) (g := (gives_load g1 6 37 (c2 (x)) (pc ((x).b)) _ (by rfl) (fun _ h => h.blk 0 (by rfl)) (sl_2b (x) _ _ 6 (Sl.refl _) (by rfl)) Tryd.underlying35 (by rfl) (hi_1 _))) (h := ?_)
  refine fTs (i := 5) (e := (List.Sublist.cons _ (List.Sublist.refl _))) (g := (gives_call (vl := [.agg (pc ((x).b))]) (by kernel_rfl) (by rfl) (fun w h => v_square _ w (hG.keep h.below)))) (h := ?_)
  refine fTs (i := 6) (e := (List.Sublist.cons _ (List.Sublist.refl _))) (g := (gives_call (vl := [.agg (pc (((x).a) * ((x).a))), .agg (pc (((x).b) * ((x).b)))]) (by kernel_rfl) (by rfl) (fun w h => v_add _ _ w (hG.keep h.below)))) (h := ?_)
  refine flow_one 7 (by kernel_rfl) ?_
  refine F_store (t := 35) 0 g2 _ _ (by rfl) (by rfl) (by rfl) (by rfl) (by rfl) (hi_1 _) ((pc_size _).trans (pc_size _).symm) (pc_one _) (.inr (List.Sublist.cons _ (List.Sublist.refl _))) ?_
  simp only [List.set_cons_zero, List.set_cons_succ]
  refine flow_done (by kernel_rfl) ?_
  intro w2 hw2
  refine wp_ret ?_
  change bodyPost _ _ _ Exit.ret _ _
  refine (ret_cell (by rfl) (by rfl) (by rfl) (hw2.blk 0 (by rfl)) Tryd.underlying35 (by rfl) (hi_1 _) ⟨?_, hw2.below⟩)
  exact rfl
/-- 1/x; of 0 it is 0. -/
def F2.inv (x : F2) : F2 := x.conj.scale x.norm.inv
set_option maxRecDepth 100000 in
set_option maxHeartbeats 4000000 in
theorem q_inv (x : F2) (v : World) (hG : Glo v) : Rets 178 #[.agg (c2 (x))] v (.agg (c2 x.inv)) := by
  refine calls_fr1 Tryd.func178 rfl (by rfl : _ = 9) (by rfl) ?_
  have hw := Hbl.nil v
  refine seq_plain hw [0, 1] (by rfl) ?_
  refine L_box (.agg (c2 (x))) (by rfl) (by rfl) (by rfl) (c2 (x)) (by rfl) ?_; intro g1
  refine L_alloc _ (by rfl) (by rfl) z_2 (c2 (0 : F2)) rfl ?_; intro g2
  refine L_end ?_
  intro w1 hw1
  refine seq_flow (by kernel_rfl) hw1 [] [(g1, 37, (c2 (x)))] 7 (by rfl) ?_
  refine fTs (i := 0) (e := (List.Sublist.cons _ (List.Sublist.refl _))) (g := (gL g1 37 (c2 (x)) 0 Tryd.underlying37 (hi_2 _))) (h := ?_)
  refine fTs (i := 1) (e := (List.Sublist.cons _ (List.Sublist.refl _))) (g := (gives_call (vl := [.agg (c2 (x))]) (by kernel_rfl) (by rfl) (fun w h => q_conj _ w (hG.keep h.below)))) (h := ?_)
  refine fTs (i := 2) (e := (List.Sublist.cons _ (List.Sublist.refl _))) (g := (gL g1 37 (c2 (x)) 0 Tryd.underlying37 (hi_2 _))) (h := ?_)
  refine fTs (i := 3) (e := (List.Sublist.cons _ (List.Sublist.refl _))) (g := (gives_call (vl := [.agg (c2 (x))]) (by kernel_rfl) (by rfl) (fun w h => q_norm _ w (hG.keep h.below)))) (h := ?_)
  refine fTs (i := 4) (e := (List.Sublist.cons _ (List.Sublist.refl _))) (g := (gives_call (vl := [.agg (pc (F2.norm (x)))]) (by kernel_rfl) (by rfl) (fun w h => v_inv _ w (hG.keep h.below)))) (h := ?_)
  refine fTs (i := 5) (e := (List.Sublist.cons _ (List.Sublist.refl _))) (g := (gives_call (vl := [.agg (c2 (F2.conj (x))), .agg (pc (Fp.inv (F2.norm (x))))]) (by kernel_rfl) (by rfl) (fun w h => q_scale _ _ w (hG.keep h.below)))) (h := ?_)
  refine flow_one 6 (by kernel_rfl) ?_
  refine F_store (t := 37) 0 g2 _ _ (by rfl) (by rfl) (by rfl) (by rfl) (by rfl) (hi_2 _) ((c2_size _).trans (c2_size _).symm) (c2_one _) (.inr (List.Sublist.cons _ (List.Sublist.refl _))) ?_
  simp only [List.set_cons_zero, List.set_cons_succ]
  refine flow_done (by kernel_rfl) ?_
  intro w2 hw2
  refine wp_ret ?_
  change bodyPost _ _ _ Exit.ret _ _
  refine (ret_cell (by rfl) (by rfl) (by rfl) (hw2.blk 0 (by rfl)) Tryd.underlying37 (by rfl) (hi_2 _) ⟨?_, hw2.below⟩)
  exact rfl
/-- Small numbers. -/
def F2.sm (a b : Int) : F2 := ⟨Fp.n a, Fp.n b⟩
set_option maxRecDepth 100000 in
set_option maxHeartbeats 4000000 in
theorem q_small (m n : Int) (v : World) (hG : Glo0 v) (hm0 : 0 ≤ m) (hm : m < Wd) (hn0 : 0 ≤ n) (hn : n < Wd) : Rets 89 #[.int .u64 m, .int .u64 n] v (.agg (c2 (F2.sm m n))) := by
  refine calls_fr2 Tryd.func89 rfl (by rfl : _ = 10) (by rfl) ?_
  have hw := Hbl.nil v
  refine seq_plain hw [0] (by rfl) ?_
  refine L_alloc _ (by rfl) (by rfl) z_2 (c2 (0 : F2)) rfl ?_; intro g1
  refine L_end ?_
  intro w1 hw1
  refine seq_plain hw1 [0, 1, 2, 3, 4, 5] (by rfl) ?_
  refine lv (.int .u64 m) (h := ?_)
  refine L_val (.agg (pc (Fp.n m))) (by rfl) (by rfl) (gives_call (vl := [.int .u64 m]) (by kernel_rfl) (by rfl) (fun w h => v_of _ w (hG.keep h.below) hm0 hm)) ?_
  refine lv (.int .u64 n) (h := ?_)
  refine L_val (.agg (pc (Fp.n n))) (by rfl) (by rfl) (gives_call (vl := [.int .u64 n]) (by kernel_rfl) (by rfl) (fun w h => v_of _ w (hG.keep h.below) hn0 hn)) ?_
  refine L_val (.agg (c2 (⟨Fp.n m, Fp.n n⟩ : F2))) (by rfl) (by rfl) (gb_fp2 [(0, (pc (Fp.n m))), (1, (pc (Fp.n n)))] ⟨congrArg some (pc_size _).symm, congrArg some (pc_size _).symm, trivial⟩ (by rfl) (c2 (⟨Fp.n m, Fp.n n⟩ : F2)) (by rfl)) ?_
  refine L_store (t := 37) 0 g1 _ _ (by rfl) (by rfl) (by rfl) (by rfl) (by rfl) (hi_2 _) ((c2_size _).trans (c2_size _).symm) (c2_one _) ?_
  simp only [List.set_cons_zero, List.set_cons_succ]
  refine L_end ?_
  intro w2 hw2
  refine wp_ret ?_
  change bodyPost _ _ _ Exit.ret _ _
  refine (ret_cell (by rfl) (by rfl) (by rfl) (hw2.blk 0 (by rfl)) Tryd.underlying37 (by rfl) (hi_2 _) ⟨?_, hw2.below⟩)
  exact rfl
set_option maxRecDepth 100000 in
set_option maxHeartbeats 4000000 in
theorem q_zero (x : F2) (v : World) (hG : Glo0 v) : Rets 180 #[.agg (c2 (x))] v (.bool (decide (x = 0))) := by
  refine calls_fr1 Tryd.func180 rfl (by rfl : _ = 6) (by rfl) ?_
  have hw := Hbl.nil v
  refine seq_plain hw [0, 1] (by rfl) ?_
  refine L_box (.agg (c2 (x))) (by rfl) (by rfl) (by rfl) (c2 (x)) (by rfl) ?_; intro g1
  refine lv (.bool false) (h := ?_)
  refine L_end ?_
  intro w1 hw1
  refine seq_plain hw1 [0, 1, 2, 3] (by rfl) ?_
  refine L_val (.agg (c2 (x))) (by rfl) (by rfl) (gL g1 37 (c2 (x)) 0 Tryd.underlying37 (hi_2 _)) ?_
  refine L_val (.agg (c2 (0 : F2))) (by rfl) (by rfl) (gb_fp2 [] trivial (by rfl) (c2 (0 : F2)) (by rfl)) ?_
  refine L_val (.bool (decide ((x) = (0 : F2)))) (by rfl) (by rfl) (gives_eql (c2 (x)) (c2 (0 : F2)) (decide ((x) = (0 : F2))) (by rfl) (by rfl) (by kernel_rfl) (fun w => eq_2 (x) (0 : F2) 9996 w)) ?_
  refine lv (.bool (decide ((x) = (0 : F2)))) (h := ?_)
  refine L_end ?_
  intro w2 hw2
  refine wp_ret ?_
  change bodyPost _ _ _ Exit.ret _ _
  refine (ret_tmp (by rfl) (by rfl) (by rfl) ⟨?_, hw2.below⟩)
  exact rfl
end Go.Proofs.YtialfoccalobpaaDoor
