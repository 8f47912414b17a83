/-
  The line through two points: what the law of sums asks of it.
-/
import Derived.Test.YtifnnckbcjafgaaDoorQGs
namespace Go.Proofs.YtifnnckbcjafgaaDoor
set_option linter.unusedSimpArgs false
set_option linter.unusedVariables false
open Go.RowKit
attribute [local irreducible] wpL wpF fr Code.wp bodyPost
set_option maxRecDepth 100000 in
set_option maxHeartbeats 4000000 in
theorem k2_three (p : Pt F2) (v : World) (hG : Glo v) (he : p.x * p.x * (p.x * p.x) + p.x * p.x * (p.x * p.x) + p.x * p.x * (p.x * p.x) + (p.x * p.x * (p.x * p.x) + p.x * p.x * (p.x * p.x) + p.x * p.x * (p.x * p.x)) + (p.x * p.x * (p.x * p.x) + p.x * p.x * (p.x * p.x) + p.x * p.x * (p.x * p.x)) = p.x * (p.y * p.y) + p.x * (p.y * p.y) + p.x * (p.y * p.y) + (p.x * (p.y * p.y) + p.x * (p.y * p.y) + p.x * (p.y * p.y)) + (p.x * (p.y * p.y) + p.x * (p.y * p.y) + p.x * (p.y * p.y) + (p.x * (p.y * p.y) + p.x * (p.y * p.y) + p.x * (p.y * p.y)))) : Rets 81 #[.agg (cg2 (p))] v (.bool true) := by
  refine calls_fr1 Tryd.func81 rfl (by rfl : _ = 40) (by rfl) ?_
  have hw := Hbl.nil v
  refine seq_plain hw [0, 1] (by rfl) ?_
  refine L_box (.agg (cg2 (p))) (by rfl) (by rfl) (by rfl) (cg2 (p)) (by rfl) ?_; intro g1
  refine L_val (.bool false) (by rfl) (by rfl) (gives_value _ fun _ => by rfl) ?_
  refine L_end ?_
  intro w1 hw1
  refine seq_plain hw1 [0, 1, 2, 3, 4, 5] (by rfl) ?_
  refine L_val (.pointer (some ⟨g1, 0, none⟩)) (by rfl) (by rfl) (gives_value _ fun _ => by kernel_rfl) ?_
  refine L_val (.agg (c2 ((p).x))) (by rfl) (by rfl) (gives_load g1 0 59 (cg2 (p)) (c2 ((p).x)) _ (by rfl) (fun _ h => h.blk 0 (by rfl)) (sl_g2x (p) _ _ (Sl.refl _)) Tryd.underlying57 (by rfl) (hi_2 _)) ?_
  refine L_val (.agg (c2 (((p).x) * ((p).x)))) (by rfl) (by rfl) (gives_call (vl := [.agg (c2 ((p).x))]) (by kernel_rfl) (by rfl) (fun w h => q_square _ w (hG.keep h.below))) ?_
  refine L_val (.agg (c2 ((((p).x) * ((p).x)) * (((p).x) * ((p).x))))) (by rfl) (by rfl) (gives_call (vl := [.agg (c2 (((p).x) * ((p).x)))]) (by kernel_rfl) (by rfl) (fun w h => q_square _ w (hG.keep h.below))) ?_
  refine L_alloc _ (by rfl) (by rfl) z_2 (c2 (0 : F2)) rfl ?_; intro g2
  refine L_store (t := 57) 0 g2 _ _ (by rfl) (by rfl) (by rfl) (by rfl) (by rfl) (hi_2 _) ((c2_size _).trans (c2_size _).symm) (c2_one _) ?_
  simp only [List.set_cons_zero, List.set_cons_succ]
  refine L_end ?_
  intro w2 hw2
  refine seq_flow (by kernel_rfl) hw2 [] [(g2, 57, (c2 ((((p).x) * ((p).x)) * (((p).x) * ((p).x))))), (g1, 59, (cg2 (p)))] 8 (by rfl) ?_
  refine fT (i := 0) (u := (.pointer (some ⟨g1, 0, none⟩))) (g := (gives_value _ fun _ => by kernel_rfl)) (h := ?_)
  refine fT (i := 1) (g := (gives_load g1 0 59 (cg2 (p)) (c2 ((p).x)) _ (by rfl) (fun _ h => h.blk 1 (by rfl)) (sl_g2x (p) _ _ (Sl.refl _)) Tryd.underlying57 (by rfl) (hi_2 _))) (h := ?_)
  refine fT (i := 2) (u := (.pointer (some ⟨g1, 12, none⟩))) (g := (gives_value _ fun _ => by kernel_rfl)) (h := ?_)
  refine fT (i := 3) (g := (gives_load g1 12 59 (cg2 (p)) (c2 ((p).y)) _ (by rfl) (fun _ h => h.blk 1 (by rfl)) (sl_g2y (p) _ _ 12 (Sl.refl _) (by rfl)) Tryd.underlying57 (by rfl) (hi_2 _))) (h := ?_)
  refine fT (i := 4) (g := (gives_call (vl := [.agg (c2 ((p).y))]) (by kernel_rfl) (by rfl) (fun w h => q_square _ w (hG.keep h.below)))) (h := ?_)
  refine fT (i := 5) (g := (gives_call (vl := [.agg (c2 ((p).x)), .agg (c2 (((p).y) * ((p).y)))]) (by kernel_rfl) (by rfl) (fun w h => q_mul _ _ w (hG.keep h.below)))) (h := ?_)
  refine flow_one 6 (by kernel_rfl) ?_
  refine F_alloc _ (by rfl) (by rfl) z_2 (c2 (0 : F2)) rfl (List.Sublist.refl _) ?_; intro g3
  refine flow_one 7 (by kernel_rfl) ?_
  refine F_store (t := 57) 0 g3 _ _ (by rfl) (by rfl) (by rfl) (by rfl) (by rfl) (hi_2 _) ((c2_size _).trans (c2_size _).symm) (c2_one _) (.inr (List.Sublist.cons _ (List.Sublist.refl _))) ?_
  simp only [List.set_cons_zero, List.set_cons_succ]
  refine flow_done (by kernel_rfl) ?_
  intro w3 hw3
  refine seq_flow (by kernel_rfl) hw3 [] [(g3, 57, (c2 (((p).x) * (((p).y) * ((p).y))))), (g2, 57, (c2 ((((p).x) * ((p).x)) * (((p).x) * ((p).x))))), (g1, 59, (cg2 (p)))] 7 (by rfl) ?_
  refine fT (i := 0) (g := (gL g2 57 (c2 ((((p).x) * ((p).x)) * (((p).x) * ((p).x)))) 1 Tryd.underlying57 (hi_2 _))) (h := ?_)
  refine fT (i := 1) (g := (gL g2 57 (c2 ((((p).x) * ((p).x)) * (((p).x) * ((p).x)))) 1 Tryd.underlying57 (hi_2 _))) (h := ?_)
  refine fT (i := 2) (g := (gives_call (vl := [.agg (c2 ((((p).x) * ((p).x)) * (((p).x) * ((p).x)))), .agg (c2 ((((p).x) * ((p).x)) * (((p).x) * ((p).x))))]) (by kernel_rfl) (by rfl) (fun w h => q_add _ _ w (hG.keep h.below)))) (h := ?_)
  refine fT (i := 3) (g := (gL g2 57 (c2 ((((p).x) * ((p).x)) * (((p).x) * ((p).x)))) 1 Tryd.underlying57 (hi_2 _))) (h := ?_)
  refine fT (i := 4) (g := (gives_call (vl := [.agg (c2 (((((p).x) * ((p).x)) * (((p).x) * ((p).x))) + ((((p).x) * ((p).x)) * (((p).x) * ((p).x))))), .agg (c2 ((((p).x) * ((p).x)) * (((p).x) * ((p).x))))]) (by kernel_rfl) (by rfl) (fun w h => q_add _ _ w (hG.keep h.below)))) (h := ?_)
  refine flow_one 5 (by kernel_rfl) ?_
  refine F_alloc _ (by rfl) (by rfl) z_2 (c2 (0 : F2)) rfl (List.Sublist.refl _) ?_; intro g4
  refine flow_one 6 (by kernel_rfl) ?_
  refine F_store (t := 57) 0 g4 _ _ (by rfl) (by rfl) (by rfl) (by rfl) (by rfl) (hi_2 _) ((c2_size _).trans (c2_size _).symm) (c2_one _) (.inr (List.Sublist.cons _ (List.Sublist.refl _))) ?_
  simp only [List.set_cons_zero, List.set_cons_succ]
  refine flow_done (by kernel_rfl) ?_
  intro w4 hw4
  refine seq_flow (by kernel_rfl) hw4 [5] [(g4, 57, (c2 ((((((p).x) * ((p).x)) * (((p).x) * ((p).x))) + ((((p).x) * ((p).x)) * (((p).x) * ((p).x)))) + ((((p).x) * ((p).x)) * (((p).x) * ((p).x)))))), (g3, 57, (c2 (((p).x) * (((p).y) * ((p).y))))), (g2, 57, (c2 ((((p).x) * ((p).x)) * (((p).x) * ((p).x))))), (g1, 59, (cg2 (p)))] 6 (by rfl) ?_
  refine fT (i := 0) (g := (gL g4 57 (c2 ((((((p).x) * ((p).x)) * (((p).x) * ((p).x))) + ((((p).x) * ((p).x)) * (((p).x) * ((p).x)))) + ((((p).x) * ((p).x)) * (((p).x) * ((p).x))))) 0 Tryd.underlying57 (hi_2 _))) (h := ?_)
  refine fT (i := 1) (g := (gL g4 57 (c2 ((((((p).x) * ((p).x)) * (((p).x) * ((p).x))) + ((((p).x) * ((p).x)) * (((p).x) * ((p).x)))) + ((((p).x) * ((p).x)) * (((p).x) * ((p).x))))) 0 Tryd.underlying57 (hi_2 _))) (h := ?_)
  refine fT (i := 2) (g := (gives_call (vl := [.agg (c2 ((((((p).x) * ((p).x)) * (((p).x) * ((p).x))) + ((((p).x) * ((p).x)) * (((p).x) * ((p).x)))) + ((((p).x) * ((p).x)) * (((p).x) * ((p).x))))), .agg (c2 ((((((p).x) * ((p).x)) * (((p).x) * ((p).x))) + ((((p).x) * ((p).x)) * (((p).x) * ((p).x)))) + ((((p).x) * ((p).x)) * (((p).x) * ((p).x)))))]) (by kernel_rfl) (by rfl) (fun w h => q_add _ _ w (hG.keep h.below)))) (h := ?_)
  refine fT (i := 3) (g := (gL g4 57 (c2 ((((((p).x) * ((p).x)) * (((p).x) * ((p).x))) + ((((p).x) * ((p).x)) * (((p).x) * ((p).x)))) + ((((p).x) * ((p).x)) * (((p).x) * ((p).x))))) 0 Tryd.underlying57 (hi_2 _))) (h := ?_)
  refine fT (i := 4) (g := (gives_call (vl := [.agg (c2 (((((((p).x) * ((p).x)) * (((p).x) * ((p).x))) + ((((p).x) * ((p).x)) * (((p).x) * ((p).x)))) + ((((p).x) * ((p).x)) * (((p).x) * ((p).x)))) + ((((((p).x) * ((p).x)) * (((p).x) * ((p).x))) + ((((p).x) * ((p).x)) * (((p).x) * ((p).x)))) + ((((p).x) * ((p).x)) * (((p).x) * ((p).x)))))), .agg (c2 ((((((p).x) * ((p).x)) * (((p).x) * ((p).x))) + ((((p).x) * ((p).x)) * (((p).x) * ((p).x)))) + ((((p).x) * ((p).x)) * (((p).x) * ((p).x)))))]) (by kernel_rfl) (by rfl) (fun w h => q_add _ _ w (hG.keep h.below)))) (h := ?_)
  refine flow_one 5 (by kernel_rfl) ?_
  refine F_store (t := 57) 0 g4 _ _ (by rfl) (by rfl) (by rfl) (by rfl) (by rfl) (hi_2 _) ((c2_size _).trans (c2_size _).symm) (c2_one _) (.inl (by decide)) ?_
  simp only [List.set_cons_zero, List.set_cons_succ]
  refine flow_done (by kernel_rfl) ?_
  intro w5 hw5
  refine seq_flow (by kernel_rfl) hw5 [] [(g4, 57, (c2 ((((((((p).x) * ((p).x)) * (((p).x) * ((p).x))) + ((((p).x) * ((p).x)) * (((p).x) * ((p).x)))) + ((((p).x) * ((p).x)) * (((p).x) * ((p).x)))) + ((((((p).x) * ((p).x)) * (((p).x) * ((p).x))) + ((((p).x) * ((p).x)) * (((p).x) * ((p).x)))) + ((((p).x) * ((p).x)) * (((p).x) * ((p).x))))) + ((((((p).x) * ((p).x)) * (((p).x) * ((p).x))) + ((((p).x) * ((p).x)) * (((p).x) * ((p).x)))) + ((((p).x) * ((p).x)) * (((p).x) * ((p).x))))))), (g3, 57, (c2 (((p).x) * (((p).y) * ((p).y))))), (g2, 57, (c2 ((((p).x) * ((p).x)) * (((p).x) * ((p).x))))), (g1, 59, (cg2 (p)))] 7 (by rfl) ?_
  refine fT (i := 0) (g := (gL g3 57 (c2 (((p).x) * (((p).y) * ((p).y)))) 1 Tryd.underlying57 (hi_2 _))) (h := ?_)
  refine fT (i := 1) (g := (gL g3 57 (c2 (((p).x) * (((p).y) * ((p).y)))) 1 Tryd.underlying57 (hi_2 _))) (h := ?_)
  refine fT (i := 2) (g := (gives_call (vl := [.agg (c2 (((p).x) * (((p).y) * ((p).y)))), .agg (c2 (((p).x) * (((p).y) * ((p).y))))]) (by kernel_rfl) (by rfl) (fun w h => q_add _ _ w (hG.keep h.below)))) (h := ?_)
  refine fT (i := 3) (g := (gL g3 57 (c2 (((p).x) * (((p).y) * ((p).y)))) 1 Tryd.underlying57 (hi_2 _))) (h := ?_)
  refine fT (i := 4) (g := (gives_call (vl := [.agg (c2 ((((p).x) * (((p).y) * ((p).y))) + (((p).x) * (((p).y) * ((p).y))))), .agg (c2 (((p).x) * (((p).y) * ((p).y))))]) (by kernel_rfl) (by rfl) (fun w h => q_add _ _ w (hG.keep h.below)))) (h := ?_)
  refine flow_one 5 (by kernel_rfl) ?_
  refine F_alloc _ (by rfl) (by rfl) z_2 (c2 (0 : F2)) rfl (List.Sublist.refl _) ?_; intro g5
  refine flow_one 6 (by kernel_rfl) ?_
  refine F_store (t := 57) 0 g5 _ _ (by rfl) (by rfl) (by rfl) (by rfl) (by rfl) (hi_2 _) ((c2_size _).trans (c2_size _).symm) (c2_one _) (.inr (List.Sublist.cons _ (List.Sublist.refl _))) ?_
  simp only [List.set_cons_zero, List.set_cons_succ]
  refine flow_done (by kernel_rfl) ?_
  intro w6 hw6
  refine seq_plain hw6 [0, 1, 2, 3] (by rfl) ?_
  refine L_val (.agg (c2 (((((p).x) * (((p).y) * ((p).y))) + (((p).x) * (((p).y) * ((p).y)))) + (((p).x) * (((p).y) * ((p).y)))))) (by rfl) (by rfl) (gL g5 57 (c2 (((((p).x) * (((p).y) * ((p).y))) + (((p).x) * (((p).y) * ((p).y)))) + (((p).x) * (((p).y) * ((p).y))))) 0 Tryd.underlying57 (hi_2 _)) ?_
  refine L_val (.agg (c2 (((((p).x) * (((p).y) * ((p).y))) + (((p).x) * (((p).y) * ((p).y)))) + (((p).x) * (((p).y) * ((p).y)))))) (by rfl) (by rfl) (gL g5 57 (c2 (((((p).x) * (((p).y) * ((p).y))) + (((p).x) * (((p).y) * ((p).y)))) + (((p).x) * (((p).y) * ((p).y))))) 0 Tryd.underlying57 (hi_2 _)) ?_
  refine L_val (.agg (c2 ((((((p).x) * (((p).y) * ((p).y))) + (((p).x) * (((p).y) * ((p).y)))) + (((p).x) * (((p).y) * ((p).y)))) + (((((p).x) * (((p).y) * ((p).y))) + (((p).x) * (((p).y) * ((p).y)))) + (((p).x) * (((p).y) * ((p).y))))))) (by rfl) (by rfl) (gives_call (vl := [.agg (c2 (((((p).x) * (((p).y) * ((p).y))) + (((p).x) * (((p).y) * ((p).y)))) + (((p).x) * (((p).y) * ((p).y))))), .agg (c2 (((((p).x) * (((p).y) * ((p).y))) + (((p).x) * (((p).y) * ((p).y)))) + (((p).x) * (((p).y) * ((p).y)))))]) (by kernel_rfl) (by rfl) (fun w h => q_add _ _ w (hG.keep h.below))) ?_
  refine L_store (t := 57) 0 g5 _ _ (by rfl) (by rfl) (by rfl) (by rfl) (by rfl) (hi_2 _) ((c2_size _).trans (c2_size _).symm) (c2_one _) ?_
  simp only [List.set_cons_zero, List.set_cons_succ]
  refine L_end ?_
  intro w7 hw7
  refine seq_flow (by kernel_rfl) hw7 [] [(g5, 57, (c2 ((((((p).x) * (((p).y) * ((p).y))) + (((p).x) * (((p).y) * ((p).y)))) + (((p).x) * (((p).y) * ((p).y)))) + (((((p).x) * (((p).y) * ((p).y))) + (((p).x) * (((p).y) * ((p).y)))) + (((p).x) * (((p).y) * ((p).y))))))), (g4, 57, (c2 ((((((((p).x) * ((p).x)) * (((p).x) * ((p).x))) + ((((p).x) * ((p).x)) * (((p).x) * ((p).x)))) + ((((p).x) * ((p).x)) * (((p).x) * ((p).x)))) + ((((((p).x) * ((p).x)) * (((p).x) * ((p).x))) + ((((p).x) * ((p).x)) * (((p).x) * ((p).x)))) + ((((p).x) * ((p).x)) * (((p).x) * ((p).x))))) + ((((((p).x) * ((p).x)) * (((p).x) * ((p).x))) + ((((p).x) * ((p).x)) * (((p).x) * ((p).x)))) + ((((p).x) * ((p).x)) * (((p).x) * ((p).x))))))), (g3, 57, (c2 (((p).x) * (((p).y) * ((p).y))))), (g2, 57, (c2 ((((p).x) * ((p).x)) * (((p).x) * ((p).x))))), (g1, 59, (cg2 (p)))] 6 (by rfl) ?_
  refine fT (i := 0) (g := (gL g4 57 (c2 ((((((((p).x) * ((p).x)) * (((p).x) * ((p).x))) + ((((p).x) * ((p).x)) * (((p).x) * ((p).x)))) + ((((p).x) * ((p).x)) * (((p).x) * ((p).x)))) + ((((((p).x) * ((p).x)) * (((p).x) * ((p).x))) + ((((p).x) * ((p).x)) * (((p).x) * ((p).x)))) + ((((p).x) * ((p).x)) * (((p).x) * ((p).x))))) + ((((((p).x) * ((p).x)) * (((p).x) * ((p).x))) + ((((p).x) * ((p).x)) * (((p).x) * ((p).x)))) + ((((p).x) * ((p).x)) * (((p).x) * ((p).x)))))) 1 Tryd.underlying57 (hi_2 _))) (h := ?_)
  refine fT (i := 1) (g := (gL g5 57 (c2 ((((((p).x) * (((p).y) * ((p).y))) + (((p).x) * (((p).y) * ((p).y)))) + (((p).x) * (((p).y) * ((p).y)))) + (((((p).x) * (((p).y) * ((p).y))) + (((p).x) * (((p).y) * ((p).y)))) + (((p).x) * (((p).y) * ((p).y)))))) 0 Tryd.underlying57 (hi_2 _))) (h := ?_)
  refine fT (i := 2) (g := (gL g5 57 (c2 ((((((p).x) * (((p).y) * ((p).y))) + (((p).x) * (((p).y) * ((p).y)))) + (((p).x) * (((p).y) * ((p).y)))) + (((((p).x) * (((p).y) * ((p).y))) + (((p).x) * (((p).y) * ((p).y)))) + (((p).x) * (((p).y) * ((p).y)))))) 0 Tryd.underlying57 (hi_2 _))) (h := ?_)
  refine fT (i := 3) (g := (gives_call (vl := [.agg (c2 ((((((p).x) * (((p).y) * ((p).y))) + (((p).x) * (((p).y) * ((p).y)))) + (((p).x) * (((p).y) * ((p).y)))) + (((((p).x) * (((p).y) * ((p).y))) + (((p).x) * (((p).y) * ((p).y)))) + (((p).x) * (((p).y) * ((p).y)))))), .agg (c2 ((((((p).x) * (((p).y) * ((p).y))) + (((p).x) * (((p).y) * ((p).y)))) + (((p).x) * (((p).y) * ((p).y)))) + (((((p).x) * (((p).y) * ((p).y))) + (((p).x) * (((p).y) * ((p).y)))) + (((p).x) * (((p).y) * ((p).y))))))]) (by kernel_rfl) (by rfl) (fun w h => q_add _ _ w (hG.keep h.below)))) (h := ?_)
  refine fT (i := 4) (u := (.bool true)) (g := (gives_eql (c2 ((((((((p).x) * ((p).x)) * (((p).x) * ((p).x))) + ((((p).x) * ((p).x)) * (((p).x) * ((p).x)))) + ((((p).x) * ((p).x)) * (((p).x) * ((p).x)))) + ((((((p).x) * ((p).x)) * (((p).x) * ((p).x))) + ((((p).x) * ((p).x)) * (((p).x) * ((p).x)))) + ((((p).x) * ((p).x)) * (((p).x) * ((p).x))))) + ((((((p).x) * ((p).x)) * (((p).x) * ((p).x))) + ((((p).x) * ((p).x)) * (((p).x) * ((p).x)))) + ((((p).x) * ((p).x)) * (((p).x) * ((p).x)))))) (c2 (((((((p).x) * (((p).y) * ((p).y))) + (((p).x) * (((p).y) * ((p).y)))) + (((p).x) * (((p).y) * ((p).y)))) + (((((p).x) * (((p).y) * ((p).y))) + (((p).x) * (((p).y) * ((p).y)))) + (((p).x) * (((p).y) * ((p).y))))) + ((((((p).x) * (((p).y) * ((p).y))) + (((p).x) * (((p).y) * ((p).y)))) + (((p).x) * (((p).y) * ((p).y)))) + (((((p).x) * (((p).y) * ((p).y))) + (((p).x) * (((p).y) * ((p).y)))) + (((p).x) * (((p).y) * ((p).y))))))) true (by rfl) (by rfl) (by kernel_rfl) (fun w => eq_2_t (d := 9996) w he))) (h := ?_)
  refine fT (i := 5) (u := (.bool true)) (g := (gives_value _ fun _ => by rfl)) (h := ?_)
  refine flow_done (by kernel_rfl) ?_
  intro w8 hw8
  refine wp_ret ?_
  change bodyPost _ _ _ Exit.ret _ _
  refine (ret_tmp (by rfl) (by rfl) (by rfl) ⟨rfl, hw8.below⟩)
set_option maxRecDepth 100000 in
set_option maxHeartbeats 4000000 in
theorem k2_lambda (p q r : Pt F2) (v : World) (hG : Glo v) (he : (p.x + q.x + r.x) * ((q.x - p.x) * (q.x - p.x)) = (q.y - p.y) * (q.y - p.y)) : Rets 82 #[.agg (cg2 (p)), .agg (cg2 (q)), .agg (cg2 (r))] v (.bool true) := by
  refine calls_fr3 Tryd.func82 rfl (by rfl : _ = 33) (by rfl) ?_
  have hw := Hbl.nil v
  refine seq_plain hw [0, 1, 2, 3] (by rfl) ?_
  refine L_box (.agg (cg2 (p))) (by rfl) (by rfl) (by rfl) (cg2 (p)) (by rfl) ?_; intro g1
  refine L_box (.agg (cg2 (q))) (by rfl) (by rfl) (by rfl) (cg2 (q)) (by rfl) ?_; intro g2
  refine L_box (.agg (cg2 (r))) (by rfl) (by rfl) (by rfl) (cg2 (r)) (by rfl) ?_; intro g3
  refine L_val (.bool false) (by rfl) (by rfl) (gives_value _ fun _ => by rfl) ?_
  refine L_end ?_
  intro w1 hw1
  refine seq_plain hw1 [0, 1, 2, 3, 4, 5, 6] (by rfl) ?_
  refine L_val (.pointer (some ⟨g2, 0, none⟩)) (by rfl) (by rfl) (gives_value _ fun _ => by kernel_rfl) ?_
  refine L_val (.agg (c2 ((q).x))) (by rfl) (by rfl) (gives_load g2 0 59 (cg2 (q)) (c2 ((q).x)) _ (by rfl) (fun _ h => h.blk 1 (by rfl)) (sl_g2x (q) _ _ (Sl.refl _)) Tryd.underlying57 (by rfl) (hi_2 _)) ?_
  refine L_val (.pointer (some ⟨g1, 0, none⟩)) (by rfl) (by rfl) (gives_value _ fun _ => by kernel_rfl) ?_
  refine L_val (.agg (c2 ((p).x))) (by rfl) (by rfl) (gives_load g1 0 59 (cg2 (p)) (c2 ((p).x)) _ (by rfl) (fun _ h => h.blk 2 (by rfl)) (sl_g2x (p) _ _ (Sl.refl _)) Tryd.underlying57 (by rfl) (hi_2 _)) ?_
  refine L_val (.agg (c2 (((q).x) - ((p).x)))) (by rfl) (by rfl) (gives_call (vl := [.agg (c2 ((q).x)), .agg (c2 ((p).x))]) (by kernel_rfl) (by rfl) (fun w h => q_sub _ _ w (hG.keep h.below))) ?_
  refine L_alloc _ (by rfl) (by rfl) z_2 (c2 (0 : F2)) rfl ?_; intro g4
  refine L_store (t := 57) 0 g4 _ _ (by rfl) (by rfl) (by rfl) (by rfl) (by rfl) (hi_2 _) ((c2_size _).trans (c2_size _).symm) (c2_one _) ?_
  simp only [List.set_cons_zero, List.set_cons_succ]
  refine L_end ?_
  intro w2 hw2
  refine seq_plain hw2 [0, 1, 2, 3, 4, 5, 6] (by rfl) ?_
  refine L_val (.pointer (some ⟨g2, 12, none⟩)) (by rfl) (by rfl) (gives_value _ fun _ => by kernel_rfl) ?_
  refine L_val (.agg (c2 ((q).y))) (by rfl) (by rfl) (gives_load g2 12 59 (cg2 (q)) (c2 ((q).y)) _ (by rfl) (fun _ h => h.blk 2 (by rfl)) (sl_g2y (q) _ _ 12 (Sl.refl _) (by rfl)) Tryd.underlying57 (by rfl) (hi_2 _)) ?_
  refine L_val (.pointer (some ⟨g1, 12, none⟩)) (by rfl) (by rfl) (gives_value _ fun _ => by kernel_rfl) ?_
  refine L_val (.agg (c2 ((p).y))) (by rfl) (by rfl) (gives_load g1 12 59 (cg2 (p)) (c2 ((p).y)) _ (by rfl) (fun _ h => h.blk 3 (by rfl)) (sl_g2y (p) _ _ 12 (Sl.refl _) (by rfl)) Tryd.underlying57 (by rfl) (hi_2 _)) ?_
  refine L_val (.agg (c2 (((q).y) - ((p).y)))) (by rfl) (by rfl) (gives_call (vl := [.agg (c2 ((q).y)), .agg (c2 ((p).y))]) (by kernel_rfl) (by rfl) (fun w h => q_sub _ _ w (hG.keep h.below))) ?_
  refine L_alloc _ (by rfl) (by rfl) z_2 (c2 (0 : F2)) rfl ?_; intro g5
  refine L_store (t := 57) 0 g5 _ _ (by rfl) (by rfl) (by rfl) (by rfl) (by rfl) (hi_2 _) ((c2_size _).trans (c2_size _).symm) (c2_one _) ?_
  simp only [List.set_cons_zero, List.set_cons_succ]
  refine L_end ?_
  intro w3 hw3
  refine seq_flow (by kernel_rfl) hw3 [] [(g5, 57, (c2 (((q).y) - ((p).y)))), (g4, 57, (c2 (((q).x) - ((p).x)))), (g3, 59, (cg2 (r))), (g2, 59, (cg2 (q))), (g1, 59, (cg2 (p)))] 15 (by rfl) ?_
  refine fT (i := 0) (u := (.pointer (some ⟨g1, 0, none⟩))) (g := (gives_value _ fun _ => by kernel_rfl)) (h := ?_)
  refine fT (i := 1) (g := (gives_load g1 0 59 (cg2 (p)) (c2 ((p).x)) _ (by rfl) (fun _ h => h.blk 4 (by rfl)) (sl_g2x (p) _ _ (Sl.refl _)) Tryd.underlying57 (by rfl) (hi_2 _))) (h := ?_)
  refine fT (i := 2) (u := (.pointer (some ⟨g2, 0, none⟩))) (g := (gives_value _ fun _ => by kernel_rfl)) (h := ?_)
  refine fT (i := 3) (g := (gives_load g2 0 59 (cg2 (q)) (c2 ((q).x)) _ (by rfl) (fun _ h => h.blk 3 (by rfl)) (sl_g2x (q) _ _ (Sl.refl _)) Tryd.underlying57 (by rfl) (hi_2 _))) (h := ?_)
  refine fT (i := 4) (g := (gives_call (vl := [.agg (c2 ((p).x)), .agg (c2 ((q).x))]) (by kernel_rfl) (by rfl) (fun w h => q_add _ _ w (hG.keep h.below)))) (h := ?_)
  refine fT (i := 5) (u := (.pointer (some ⟨g3, 0, none⟩))) (g := (gives_value _ fun _ => by kernel_rfl)) (h := ?_)
  refine fT (i := 6) (g := (gives_load g3 0 59 (cg2 (r)) (c2 ((r).x)) _ (by rfl) (fun _ h => h.blk 2 (by rfl)) (sl_g2x (r) _ _ (Sl.refl _)) Tryd.underlying57 (by rfl) (hi_2 _))) (h := ?_)
  refine fT (i := 7) (g := (gives_call (vl := [.agg (c2 (((p).x) + ((q).x))), .agg (c2 ((r).x))]) (by kernel_rfl) (by rfl) (fun w h => q_add _ _ w (hG.keep h.below)))) (h := ?_)
  refine fT (i := 8) (g := (gL g4 57 (c2 (((q).x) - ((p).x))) 1 Tryd.underlying57 (hi_2 _))) (h := ?_)
  refine fT (i := 9) (g := (gives_call (vl := [.agg (c2 (((q).x) - ((p).x)))]) (by kernel_rfl) (by rfl) (fun w h => q_square _ w (hG.keep h.below)))) (h := ?_)
  refine fT (i := 10) (g := (gives_call (vl := [.agg (c2 ((((p).x) + ((q).x)) + ((r).x))), .agg (c2 ((((q).x) - ((p).x)) * (((q).x) - ((p).x))))]) (by kernel_rfl) (by rfl) (fun w h => q_mul _ _ w (hG.keep h.below)))) (h := ?_)
  refine fT (i := 11) (g := (gL g5 57 (c2 (((q).y) - ((p).y))) 0 Tryd.underlying57 (hi_2 _))) (h := ?_)
  refine fT (i := 12) (g := (gives_call (vl := [.agg (c2 (((q).y) - ((p).y)))]) (by kernel_rfl) (by rfl) (fun w h => q_square _ w (hG.keep h.below)))) (h := ?_)
  refine fT (i := 13) (u := (.bool true)) (g := (gives_eql (c2 (((((p).x) + ((q).x)) + ((r).x)) * ((((q).x) - ((p).x)) * (((q).x) - ((p).x))))) (c2 ((((q).y) - ((p).y)) * (((q).y) - ((p).y)))) true (by rfl) (by rfl) (by kernel_rfl) (fun w => eq_2_t (d := 9996) w he))) (h := ?_)
  refine fT (i := 14) (u := (.bool true)) (g := (gives_value _ fun _ => by rfl)) (h := ?_)
  refine flow_done (by kernel_rfl) ?_
  intro w4 hw4
  refine wp_ret ?_
  change bodyPost _ _ _ Exit.ret _ _
  refine (ret_tmp (by rfl) (by rfl) (by rfl) ⟨rfl, hw4.below⟩)
set_option maxRecDepth 100000 in
set_option maxHeartbeats 4000000 in
theorem k2_sides1 (p q r : Pt F2) (v : World) (hG : Glo v) (h1 : p = 0) (he : q = -r) : Rets 43 #[.agg (cg2 (p)), .agg (cg2 (q)), .agg (cg2 (r))] v (.bool true) := by
  refine calls_fr3 Tryd.func43 rfl (by rfl : _ = 140) (by rfl) ?_
  have hw := Hbl.nil v
  refine seq_plain hw [0, 1, 2, 3] (by rfl) ?_
  refine L_box (.agg (cg2 (p))) (by rfl) (by rfl) (by rfl) (cg2 (p)) (by rfl) ?_; intro g1
  refine L_box (.agg (cg2 (q))) (by rfl) (by rfl) (by rfl) (cg2 (q)) (by rfl) ?_; intro g2
  refine L_box (.agg (cg2 (r))) (by rfl) (by rfl) (by rfl) (cg2 (r)) (by rfl) ?_; intro g3
  refine L_val (.bool false) (by rfl) (by rfl) (gives_value _ fun _ => by rfl) ?_
  refine L_end ?_
  intro w1 hw1
  refine seq_plain hw1 [0, 1, 2] (by rfl) ?_
  refine L_val (.agg (cg2 (0 : Pt F2))) (by rfl) (by rfl) (gb_g2 [] trivial (by rfl) (cg2 (0 : Pt F2)) (by rfl)) ?_
  refine L_alloc _ (by rfl) (by rfl) z_g2 (cg2 (0 : Pt F2)) rfl ?_; intro g4
  refine L_store (t := 59) 0 g4 _ _ (by rfl) (by rfl) (by rfl) (by rfl) (by rfl) (hi_g2 _) ((cg2_size _).trans (cg2_size _).symm) (cg2_one _) ?_
  simp only [List.set_cons_zero, List.set_cons_succ]
  refine L_end ?_
  intro w2 hw2
  refine wp_seq ?_
  refine seq_plain hw2 [0, 1, 2, 3, 4, 5, 6, 7, 8, 9, 10, 11, 12] (by rfl) ?_
  refine L_val (.agg (cg2 (p))) (by rfl) (by rfl) (gL g1 59 (cg2 (p)) 3 Tryd.underlying59 (hi_g2 _)) ?_
  refine L_val (.agg (cg2 (0 : Pt F2))) (by rfl) (by rfl) (gL g4 59 (cg2 (0 : Pt F2)) 0 Tryd.underlying59 (hi_g2 _)) ?_
  refine L_val (.bool true) (by rfl) (by rfl) (gives_eql (cg2 (p)) (cg2 (0 : Pt F2)) true (by rfl) (by rfl) (by kernel_rfl) (fun w => eq_g2_t (d := 9995) w h1)) ?_
  refine L_val (.bool true) (by rfl) (by rfl) (gives_value _ fun _ => by rfl) ?_
  refine L_skip (dj := 13) (by rfl) (by rfl) (by rfl) (by rfl) (by rfl) ?_
  refine L_skip (dj := 13) (by rfl) (by rfl) (by rfl) (by rfl) (by rfl) ?_
  refine L_skip (dj := 13) (by rfl) (by rfl) (by rfl) (by rfl) (by rfl) ?_
  refine L_val (.bool true) (by rfl) (by rfl) (gives_value _ fun _ => by rfl) ?_
  refine L_val (.bool true) (by rfl) (by rfl) (gives_value _ fun _ => by rfl) ?_
  refine L_skip (dj := 18) (by rfl) (by rfl) (by rfl) (by rfl) (by rfl) ?_
  refine L_skip (dj := 18) (by rfl) (by rfl) (by rfl) (by rfl) (by rfl) ?_
  refine L_skip (dj := 18) (by rfl) (by rfl) (by rfl) (by rfl) (by rfl) ?_
  refine L_val (.bool true) (by rfl) (by rfl) (gives_value _ fun _ => by rfl) ?_
  refine L_end ?_
  intro w3 hw3
  refine wp_cond_true (fr_at _ _ (by rfl) _) ?_
  refine seq_flow (by kernel_rfl) hw3 [] [(g4, 59, (cg2 (0 : Pt F2))), (g3, 59, (cg2 (r))), (g2, 59, (cg2 (q))), (g1, 59, (cg2 (p)))] 32 (by rfl) ?_
  refine fT (i := 0) (g := (gL g1 59 (cg2 (p)) 3 Tryd.underlying59 (hi_g2 _))) (h := ?_)
  refine fT (i := 1) (g := (gL g4 59 (cg2 (0 : Pt F2)) 0 Tryd.underlying59 (hi_g2 _))) (h := ?_)
  refine fT (i := 2) (u := (.bool true)) (g := (gives_eql (cg2 (p)) (cg2 (0 : Pt F2)) true (by rfl) (by rfl) (by kernel_rfl) (fun w => eq_g2_t (d := 9995) w h1))) (h := ?_)
  refine fT (i := 3) (u := (.bool true)) (g := (gives_value _ fun _ => by rfl)) (h := ?_)
  refine fG (i := 4) (dj := 26) (g := (gL g2 59 (cg2 (q)) 2 Tryd.underlying59 (hi_g2 _))) (h := ?_)
  refine fG (i := 5) (dj := 26) (g := (gL g3 59 (cg2 (r)) 1 Tryd.underlying59 (hi_g2 _))) (h := ?_)
  refine fG (i := 6) (dj := 26) (g := (gives_call (vl := [.agg (cg2 (r))]) (by kernel_rfl) (by rfl) (fun w h => k2_neg _ w (hG.keep h.below)))) (h := ?_)
  refine fG (i := 7) (dj := 26) (u := (.bool true)) (g := (gives_eql (cg2 (q)) (cg2 (-(r))) true (by rfl) (by rfl) (by kernel_rfl) (fun w => eq_g2_t (d := 9995) w he))) (h := ?_)
  refine fT (i := 8) (u := (.bool true)) (g := (gives_value _ fun _ => by rfl)) (h := ?_)
  refine fT (i := 9) (u := (.bool true)) (g := (gives_value _ fun _ => by rfl)) (h := ?_)
  refine fS (i := 10) (dj := 32) (h := ?_)
  refine fS (i := 11) (dj := 32) (h := ?_)
  refine fS (i := 12) (dj := 32) (h := ?_)
  refine fS (i := 13) (dj := 32) (h := ?_)
  refine flow_skip_u (i := 14) (dj := 36) (by rfl) (by kernel_rfl) (by kernel_rfl) (by kernel_rfl) (by rfl) (by kernel_rfl) (List.Sublist.refl _) (by rfl) (by rfl) (by rfl) ?_
  refine flow_skip_u (i := 15) (dj := 36) (by rfl) (by kernel_rfl) (by kernel_rfl) (by kernel_rfl) (by rfl) (by kernel_rfl) (List.Sublist.refl _) (by rfl) (by rfl) (by rfl) ?_
  refine flow_skip_u (i := 16) (dj := 36) (by rfl) (by kernel_rfl) (by kernel_rfl) (by kernel_rfl) (by rfl) (by kernel_rfl) (List.Sublist.refl _) (by rfl) (by rfl) (by rfl) ?_
  refine flow_skip_u (i := 17) (dj := 36) (by rfl) (by kernel_rfl) (by kernel_rfl) (by kernel_rfl) (by rfl) (by kernel_rfl) (List.Sublist.refl _) (by rfl) (by rfl) (by rfl) ?_
  refine fS (i := 18) (dj := 32) (h := ?_)
  refine fT (i := 19) (u := (.bool true)) (g := (gives_value _ fun _ => by rfl)) (h := ?_)
  refine fT (i := 20) (u := (.bool true)) (g := (gives_value _ fun _ => by rfl)) (h := ?_)
  refine fS (i := 21) (dj := 43) (h := ?_)
  refine fS (i := 22) (dj := 43) (h := ?_)
  refine fS (i := 23) (dj := 43) (h := ?_)
  refine fS (i := 24) (dj := 43) (h := ?_)
  refine flow_skip_u (i := 25) (dj := 47) (by rfl) (by kernel_rfl) (by kernel_rfl) (by kernel_rfl) (by rfl) (by kernel_rfl) (List.Sublist.refl _) (by rfl) (by rfl) (by rfl) ?_
  refine flow_skip_u (i := 26) (dj := 47) (by rfl) (by kernel_rfl) (by kernel_rfl) (by kernel_rfl) (by rfl) (by kernel_rfl) (List.Sublist.refl _) (by rfl) (by rfl) (by rfl) ?_
  refine flow_skip_u (i := 27) (dj := 47) (by rfl) (by kernel_rfl) (by kernel_rfl) (by kernel_rfl) (by rfl) (by kernel_rfl) (List.Sublist.refl _) (by rfl) (by rfl) (by rfl) ?_
  refine flow_skip_u (i := 28) (dj := 47) (by rfl) (by kernel_rfl) (by kernel_rfl) (by kernel_rfl) (by rfl) (by kernel_rfl) (List.Sublist.refl _) (by rfl) (by rfl) (by rfl) ?_
  refine fS (i := 29) (dj := 43) (h := ?_)
  refine fT (i := 30) (u := (.bool true)) (g := (gives_value _ fun _ => by rfl)) (h := ?_)
  refine fT (i := 31) (u := (.bool true)) (g := (gives_value _ fun _ => by rfl)) (h := ?_)
  refine flow_done (by kernel_rfl) ?_
  intro w4 hw4
  refine wp_ret ?_
  change bodyPost _ _ _ Exit.ret _ _
  refine (ret_tmp (by rfl) (by rfl) (by rfl) ⟨rfl, hw4.below⟩)
set_option maxRecDepth 100000 in
set_option maxHeartbeats 4000000 in
theorem k2_sides2 (p q r : Pt F2) (v : World) (hG : Glo v) (h1 : p ≠ 0) (h2 : q = 0) (he : p = -r) : Rets 43 #[.agg (cg2 (p)), .agg (cg2 (q)), .agg (cg2 (r))] v (.bool true) := by
  refine calls_fr3 Tryd.func43 rfl (by rfl : _ = 140) (by rfl) ?_
  have hw := Hbl.nil v
  refine seq_plain hw [0, 1, 2, 3] (by rfl) ?_
  refine L_box (.agg (cg2 (p))) (by rfl) (by rfl) (by rfl) (cg2 (p)) (by rfl) ?_; intro g1
  refine L_box (.agg (cg2 (q))) (by rfl) (by rfl) (by rfl) (cg2 (q)) (by rfl) ?_; intro g2
  refine L_box (.agg (cg2 (r))) (by rfl) (by rfl) (by rfl) (cg2 (r)) (by rfl) ?_; intro g3
  refine L_val (.bool false) (by rfl) (by rfl) (gives_value _ fun _ => by rfl) ?_
  refine L_end ?_
  intro w1 hw1
  refine seq_plain hw1 [0, 1, 2] (by rfl) ?_
  refine L_val (.agg (cg2 (0 : Pt F2))) (by rfl) (by rfl) (gb_g2 [] trivial (by rfl) (cg2 (0 : Pt F2)) (by rfl)) ?_
  refine L_alloc _ (by rfl) (by rfl) z_g2 (cg2 (0 : Pt F2)) rfl ?_; intro g4
  refine L_store (t := 59) 0 g4 _ _ (by rfl) (by rfl) (by rfl) (by rfl) (by rfl) (hi_g2 _) ((cg2_size _).trans (cg2_size _).symm) (cg2_one _) ?_
  simp only [List.set_cons_zero, List.set_cons_succ]
  refine L_end ?_
  intro w2 hw2
  refine wp_seq ?_
  refine seq_plain hw2 [0, 1, 2, 3, 4, 5, 6, 7, 8, 9, 10, 11, 12] (by rfl) ?_
  refine L_val (.agg (cg2 (p))) (by rfl) (by rfl) (gL g1 59 (cg2 (p)) 3 Tryd.underlying59 (hi_g2 _)) ?_
  refine L_val (.agg (cg2 (0 : Pt F2))) (by rfl) (by rfl) (gL g4 59 (cg2 (0 : Pt F2)) 0 Tryd.underlying59 (hi_g2 _)) ?_
  refine L_val (.bool false) (by rfl) (by rfl) (gives_eql (cg2 (p)) (cg2 (0 : Pt F2)) false (by rfl) (by rfl) (by kernel_rfl) (fun w => eq_g2_f (d := 9995) w h1)) ?_
  refine L_val (.bool false) (by rfl) (by rfl) (gives_value _ fun _ => by rfl) ?_
  refine L_val_g (dj := 13) (.agg (cg2 (q))) (by rfl) (by rfl) (by rfl) (by rfl) (by rfl) (gives_load g2 0 59 (cg2 (q)) (cg2 (q)) _ (by rfl) (fun _ h => h.blk 2 (by rfl)) (Sl.refl _) Tryd.underlying59 (by rfl) (hi_g2 _)) ?_
  refine L_val_g (dj := 13) (.agg (cg2 (0 : Pt F2))) (by rfl) (by rfl) (by rfl) (by rfl) (by rfl) (gives_load g4 0 59 (cg2 (0 : Pt F2)) (cg2 (0 : Pt F2)) _ (by rfl) (fun _ h => h.blk 0 (by rfl)) (Sl.refl _) Tryd.underlying59 (by rfl) (hi_g2 _)) ?_
  refine L_val_g (dj := 13) (.bool true) (by rfl) (by rfl) (by rfl) (by rfl) (by rfl) (gives_eql (cg2 (q)) (cg2 (0 : Pt F2)) true (by rfl) (by rfl) (by kernel_rfl) (fun w => eq_g2_t (d := 9995) w h2)) ?_
  refine L_val (.bool true) (by rfl) (by rfl) (gives_value _ fun _ => by rfl) ?_
  refine L_val (.bool true) (by rfl) (by rfl) (gives_value _ fun _ => by rfl) ?_
  refine L_skip (dj := 18) (by rfl) (by rfl) (by rfl) (by rfl) (by rfl) ?_
  refine L_skip (dj := 18) (by rfl) (by rfl) (by rfl) (by rfl) (by rfl) ?_
  refine L_skip (dj := 18) (by rfl) (by rfl) (by rfl) (by rfl) (by rfl) ?_
  refine L_val (.bool true) (by rfl) (by rfl) (gives_value _ fun _ => by rfl) ?_
  refine L_end ?_
  intro w3 hw3
  refine wp_cond_true (fr_at _ _ (by rfl) _) ?_
  refine seq_flow (by kernel_rfl) hw3 [] [(g4, 59, (cg2 (0 : Pt F2))), (g3, 59, (cg2 (r))), (g2, 59, (cg2 (q))), (g1, 59, (cg2 (p)))] 32 (by rfl) ?_
  refine fT (i := 0) (g := (gL g1 59 (cg2 (p)) 3 Tryd.underlying59 (hi_g2 _))) (h := ?_)
  refine fT (i := 1) (g := (gL g4 59 (cg2 (0 : Pt F2)) 0 Tryd.underlying59 (hi_g2 _))) (h := ?_)
  refine fT (i := 2) (u := (.bool false)) (g := (gives_eql (cg2 (p)) (cg2 (0 : Pt F2)) false (by rfl) (by rfl) (by kernel_rfl) (fun w => eq_g2_f (d := 9995) w h1))) (h := ?_)
  refine fT (i := 3) (u := (.bool false)) (g := (gives_value _ fun _ => by rfl)) (h := ?_)
  refine fS (i := 4) (dj := 26) (h := ?_)
  refine fS (i := 5) (dj := 26) (h := ?_)
  refine fS (i := 6) (dj := 26) (h := ?_)
  refine fS (i := 7) (dj := 26) (h := ?_)
  refine fT (i := 8) (u := (.bool false)) (g := (gives_value _ fun _ => by rfl)) (h := ?_)
  refine fT (i := 9) (u := (.bool false)) (g := (gives_value _ fun _ => by rfl)) (h := ?_)
  refine fG (i := 10) (dj := 32) (g := (gL g2 59 (cg2 (q)) 2 Tryd.underlying59 (hi_g2 _))) (h := ?_)
  refine fG (i := 11) (dj := 32) (g := (gL g4 59 (cg2 (0 : Pt F2)) 0 Tryd.underlying59 (hi_g2 _))) (h := ?_)
  refine fG (i := 12) (dj := 32) (u := (.bool true)) (g := (gives_eql (cg2 (q)) (cg2 (0 : Pt F2)) true (by rfl) (by rfl) (by kernel_rfl) (fun w => eq_g2_t (d := 9995) w h2))) (h := ?_)
  refine fG (i := 13) (dj := 32) (u := (.bool true)) (g := (gives_value _ fun _ => by rfl)) (h := ?_)
  refine fG (i := 14) (dj := 36) (g := (gL g1 59 (cg2 (p)) 3 Tryd.underlying59 (hi_g2 _))) (h := ?_)
  refine fG (i := 15) (dj := 36) (g := (gL g3 59 (cg2 (r)) 1 Tryd.underlying59 (hi_g2 _))) (h := ?_)
  refine fG (i := 16) (dj := 36) (g := (gives_call (vl := [.agg (cg2 (r))]) (by kernel_rfl) (by rfl) (fun w h => k2_neg _ w (hG.keep h.below)))) (h := ?_)
  refine fG (i := 17) (dj := 36) (u := (.bool true)) (g := (gives_eql (cg2 (p)) (cg2 (-(r))) true (by rfl) (by rfl) (by kernel_rfl) (fun w => eq_g2_t (d := 9995) w he))) (h := ?_)
  refine fG (i := 18) (dj := 32) (u := (.bool true)) (g := (gives_value _ fun _ => by rfl)) (h := ?_)
  refine fT (i := 19) (u := (.bool true)) (g := (gives_value _ fun _ => by rfl)) (h := ?_)
  refine fT (i := 20) (u := (.bool true)) (g := (gives_value _ fun _ => by rfl)) (h := ?_)
  refine fS (i := 21) (dj := 43) (h := ?_)
  refine fS (i := 22) (dj := 43) (h := ?_)
  refine fS (i := 23) (dj := 43) (h := ?_)
  refine fS (i := 24) (dj := 43) (h := ?_)
  refine flow_skip_u (i := 25) (dj := 47) (by rfl) (by kernel_rfl) (by kernel_rfl) (by kernel_rfl) (by rfl) (by kernel_rfl) (List.Sublist.refl _) (by rfl) (by rfl) (by rfl) ?_
  refine flow_skip_u (i := 26) (dj := 47) (by rfl) (by kernel_rfl) (by kernel_rfl) (by kernel_rfl) (by rfl) (by kernel_rfl) (List.Sublist.refl _) (by rfl) (by rfl) (by rfl) ?_
  refine flow_skip_u (i := 27) (dj := 47) (by rfl) (by kernel_rfl) (by kernel_rfl) (by kernel_rfl) (by rfl) (by kernel_rfl) (List.Sublist.refl _) (by rfl) (by rfl) (by rfl) ?_
  refine flow_skip_u (i := 28) (dj := 47) (by rfl) (by kernel_rfl) (by kernel_rfl) (by kernel_rfl) (by rfl) (by kernel_rfl) (List.Sublist.refl _) (by rfl) (by rfl) (by rfl) ?_
  refine fS (i := 29) (dj := 43) (h := ?_)
  refine fT (i := 30) (u := (.bool true)) (g := (gives_value _ fun _ => by rfl)) (h := ?_)
  refine fT (i := 31) (u := (.bool true)) (g := (gives_value _ fun _ => by rfl)) (h := ?_)
  refine flow_done (by kernel_rfl) ?_
  intro w4 hw4
  refine wp_ret ?_
  change bodyPost _ _ _ Exit.ret _ _
  refine (ret_tmp (by rfl) (by rfl) (by rfl) ⟨rfl, hw4.below⟩)
set_option maxRecDepth 100000 in
set_option maxHeartbeats 4000000 in
theorem k2_sides3 (p q r : Pt F2) (v : World) (hG : Glo v) (h1 : p ≠ 0) (h2 : q ≠ 0) (h3 : r = 0) (he : p = -q) : Rets 43 #[.agg (cg2 (p)), .agg (cg2 (q)), .agg (cg2 (r))] v (.bool true) := by
  refine calls_fr3 Tryd.func43 rfl (by rfl : _ = 140) (by rfl) ?_
  have hw := Hbl.nil v
  refine seq_plain hw [0, 1, 2, 3] (by rfl) ?_
  refine L_box (.agg (cg2 (p))) (by rfl) (by rfl) (by rfl) (cg2 (p)) (by rfl) ?_; intro g1
  refine L_box (.agg (cg2 (q))) (by rfl) (by rfl) (by rfl) (cg2 (q)) (by rfl) ?_; intro g2
  refine L_box (.agg (cg2 (r))) (by rfl) (by rfl) (by rfl) (cg2 (r)) (by rfl) ?_; intro g3
  refine L_val (.bool false) (by rfl) (by rfl) (gives_value _ fun _ => by rfl) ?_
  refine L_end ?_
  intro w1 hw1
  refine seq_plain hw1 [0, 1, 2] (by rfl) ?_
  refine L_val (.agg (cg2 (0 : Pt F2))) (by rfl) (by rfl) (gb_g2 [] trivial (by rfl) (cg2 (0 : Pt F2)) (by rfl)) ?_
  refine L_alloc _ (by rfl) (by rfl) z_g2 (cg2 (0 : Pt F2)) rfl ?_; intro g4
  refine L_store (t := 59) 0 g4 _ _ (by rfl) (by rfl) (by rfl) (by rfl) (by rfl) (hi_g2 _) ((cg2_size _).trans (cg2_size _).symm) (cg2_one _) ?_
  simp only [List.set_cons_zero, List.set_cons_succ]
  refine L_end ?_
  intro w2 hw2
  refine wp_seq ?_
  refine seq_plain hw2 [0, 1, 2, 3, 4, 5, 6, 7, 8, 9, 10, 11, 12] (by rfl) ?_
  refine L_val (.agg (cg2 (p))) (by rfl) (by rfl) (gL g1 59 (cg2 (p)) 3 Tryd.underlying59 (hi_g2 _)) ?_
  refine L_val (.agg (cg2 (0 : Pt F2))) (by rfl) (by rfl) (gL g4 59 (cg2 (0 : Pt F2)) 0 Tryd.underlying59 (hi_g2 _)) ?_
  refine L_val (.bool false) (by rfl) (by rfl) (gives_eql (cg2 (p)) (cg2 (0 : Pt F2)) false (by rfl) (by rfl) (by kernel_rfl) (fun w => eq_g2_f (d := 9995) w h1)) ?_
  refine L_val (.bool false) (by rfl) (by rfl) (gives_value _ fun _ => by rfl) ?_
  refine L_val_g (dj := 13) (.agg (cg2 (q))) (by rfl) (by rfl) (by rfl) (by rfl) (by rfl) (gives_load g2 0 59 (cg2 (q)) (cg2 (q)) _ (by rfl) (fun _ h => h.blk 2 (by rfl)) (Sl.refl _) Tryd.underlying59 (by rfl) (hi_g2 _)) ?_
  refine L_val_g (dj := 13) (.agg (cg2 (0 : Pt F2))) (by rfl) (by rfl) (by rfl) (by rfl) (by rfl) (gives_load g4 0 59 (cg2 (0 : Pt F2)) (cg2 (0 : Pt F2)) _ (by rfl) (fun _ h => h.blk 0 (by rfl)) (Sl.refl _) Tryd.underlying59 (by rfl) (hi_g2 _)) ?_
  refine L_val_g (dj := 13) (.bool false) (by rfl) (by rfl) (by rfl) (by rfl) (by rfl) (gives_eql (cg2 (q)) (cg2 (0 : Pt F2)) false (by rfl) (by rfl) (by kernel_rfl) (fun w => eq_g2_f (d := 9995) w h2)) ?_
  refine L_val (.bool false) (by rfl) (by rfl) (gives_value _ fun _ => by rfl) ?_
  refine L_val (.bool false) (by rfl) (by rfl) (gives_value _ fun _ => by rfl) ?_
  refine L_val_g (dj := 18) (.agg (cg2 (r))) (by rfl) (by rfl) (by rfl) (by rfl) (by rfl) (gives_load g3 0 59 (cg2 (r)) (cg2 (r)) _ (by rfl) (fun _ h => h.blk 1 (by rfl)) (Sl.refl _) Tryd.underlying59 (by rfl) (hi_g2 _)) ?_
  refine L_val_g (dj := 18) (.agg (cg2 (0 : Pt F2))) (by rfl) (by rfl) (by rfl) (by rfl) (by rfl) (gives_load g4 0 59 (cg2 (0 : Pt F2)) (cg2 (0 : Pt F2)) _ (by rfl) (fun _ h => h.blk 0 (by rfl)) (Sl.refl _) Tryd.underlying59 (by rfl) (hi_g2 _)) ?_
  refine L_val_g (dj := 18) (.bool true) (by rfl) (by rfl) (by rfl) (by rfl) (by rfl) (gives_eql (cg2 (r)) (cg2 (0 : Pt F2)) true (by rfl) (by rfl) (by kernel_rfl) (fun w => eq_g2_t (d := 9995) w h3)) ?_
  refine L_val (.bool true) (by rfl) (by rfl) (gives_value _ fun _ => by rfl) ?_
  refine L_end ?_
  intro w3 hw3
  refine wp_cond_true (fr_at _ _ (by rfl) _) ?_
  refine seq_flow (by kernel_rfl) hw3 [] [(g4, 59, (cg2 (0 : Pt F2))), (g3, 59, (cg2 (r))), (g2, 59, (cg2 (q))), (g1, 59, (cg2 (p)))] 32 (by rfl) ?_
  refine fT (i := 0) (g := (gL g1 59 (cg2 (p)) 3 Tryd.underlying59 (hi_g2 _))) (h := ?_)
  refine fT (i := 1) (g := (gL g4 59 (cg2 (0 : Pt F2)) 0 Tryd.underlying59 (hi_g2 _))) (h := ?_)
  refine fT (i := 2) (u := (.bool false)) (g := (gives_eql (cg2 (p)) (cg2 (0 : Pt F2)) false (by rfl) (by rfl) (by kernel_rfl) (fun w => eq_g2_f (d := 9995) w h1))) (h := ?_)
  refine fT (i := 3) (u := (.bool false)) (g := (gives_value _ fun _ => by rfl)) (h := ?_)
  refine fS (i := 4) (dj := 26) (h := ?_)
  refine fS (i := 5) (dj := 26) (h := ?_)
  refine fS (i := 6) (dj := 26) (h := ?_)
  refine fS (i := 7) (dj := 26) (h := ?_)
  refine fT (i := 8) (u := (.bool false)) (g := (gives_value _ fun _ => by rfl)) (h := ?_)
  refine fT (i := 9) (u := (.bool false)) (g := (gives_value _ fun _ => by rfl)) (h := ?_)
  refine fG (i := 10) (dj := 32) (g := (gL g2 59 (cg2 (q)) 2 Tryd.underlying59 (hi_g2 _))) (h := ?_)
  refine fG (i := 11) (dj := 32) (g := (gL g4 59 (cg2 (0 : Pt F2)) 0 Tryd.underlying59 (hi_g2 _))) (h := ?_)
  refine fG (i := 12) (dj := 32) (u := (.bool false)) (g := (gives_eql (cg2 (q)) (cg2 (0 : Pt F2)) false (by rfl) (by rfl) (by kernel_rfl) (fun w => eq_g2_f (d := 9995) w h2))) (h := ?_)
  refine fG (i := 13) (dj := 32) (u := (.bool false)) (g := (gives_value _ fun _ => by rfl)) (h := ?_)
  refine fS (i := 14) (dj := 36) (h := ?_)
  refine fS (i := 15) (dj := 36) (h := ?_)
  refine fS (i := 16) (dj := 36) (h := ?_)
  refine fS (i := 17) (dj := 36) (h := ?_)
  refine fG (i := 18) (dj := 32) (u := (.bool false)) (g := (gives_value _ fun _ => by rfl)) (h := ?_)
  refine fT (i := 19) (u := (.bool false)) (g := (gives_value _ fun _ => by rfl)) (h := ?_)
  refine fT (i := 20) (u := (.bool false)) (g := (gives_value _ fun _ => by rfl)) (h := ?_)
  refine fG (i := 21) (dj := 43) (g := (gL g3 59 (cg2 (r)) 1 Tryd.underlying59 (hi_g2 _))) (h := ?_)
  refine fG (i := 22) (dj := 43) (g := (gL g4 59 (cg2 (0 : Pt F2)) 0 Tryd.underlying59 (hi_g2 _))) (h := ?_)
  refine fG (i := 23) (dj := 43) (u := (.bool true)) (g := (gives_eql (cg2 (r)) (cg2 (0 : Pt F2)) true (by rfl) (by rfl) (by kernel_rfl) (fun w => eq_g2_t (d := 9995) w h3))) (h := ?_)
  refine fG (i := 24) (dj := 43) (u := (.bool true)) (g := (gives_value _ fun _ => by rfl)) (h := ?_)
  refine fG (i := 25) (dj := 47) (g := (gL g1 59 (cg2 (p)) 3 Tryd.underlying59 (hi_g2 _))) (h := ?_)
  refine fG (i := 26) (dj := 47) (g := (gL g2 59 (cg2 (q)) 2 Tryd.underlying59 (hi_g2 _))) (h := ?_)
  refine fG (i := 27) (dj := 47) (g := (gives_call (vl := [.agg (cg2 (q))]) (by kernel_rfl) (by rfl) (fun w h => k2_neg _ w (hG.keep h.below)))) (h := ?_)
  refine fG (i := 28) (dj := 47) (u := (.bool true)) (g := (gives_eql (cg2 (p)) (cg2 (-(q))) true (by rfl) (by rfl) (by kernel_rfl) (fun w => eq_g2_t (d := 9995) w he))) (h := ?_)
  refine fG (i := 29) (dj := 43) (u := (.bool true)) (g := (gives_value _ fun _ => by rfl)) (h := ?_)
  refine fT (i := 30) (u := (.bool true)) (g := (gives_value _ fun _ => by rfl)) (h := ?_)
  refine fT (i := 31) (u := (.bool true)) (g := (gives_value _ fun _ => by rfl)) (h := ?_)
  refine flow_done (by kernel_rfl) ?_
  intro w4 hw4
  refine wp_ret ?_
  change bodyPost _ _ _ Exit.ret _ _
  refine (ret_tmp (by rfl) (by rfl) (by rfl) ⟨rfl, hw4.below⟩)
set_option maxRecDepth 100000 in
set_option maxHeartbeats 4000000 in
theorem k2_sides4 (p q r : Pt F2) (v : World) (hG : Glo v) (h1 : p ≠ 0) (h2 : q ≠ 0) (h3 : r ≠ 0) (h4 : p = q) (hx : r.x ≠ p.x) (he : (p.y + p.y) * (r.y - p.y) = (p.x * p.x + p.x * p.x + p.x * p.x) * (r.x - p.x)) : Rets 43 #[.agg (cg2 (p)), .agg (cg2 (q)), .agg (cg2 (r))] v (.bool true) := by
  refine calls_fr3 Tryd.func43 rfl (by rfl : _ = 140) (by rfl) ?_
  have hw := Hbl.nil v
  refine seq_plain hw [0, 1, 2, 3] (by rfl) ?_
  refine L_box (.agg (cg2 (p))) (by rfl) (by rfl) (by rfl) (cg2 (p)) (by rfl) ?_; intro g1
  refine L_box (.agg (cg2 (q))) (by rfl) (by rfl) (by rfl) (cg2 (q)) (by rfl) ?_; intro g2
  refine L_box (.agg (cg2 (r))) (by rfl) (by rfl) (by rfl) (cg2 (r)) (by rfl) ?_; intro g3
  refine L_val (.bool false) (by rfl) (by rfl) (gives_value _ fun _ => by rfl) ?_
  refine L_end ?_
  intro w1 hw1
  refine seq_plain hw1 [0, 1, 2] (by rfl) ?_
  refine L_val (.agg (cg2 (0 : Pt F2))) (by rfl) (by rfl) (gb_g2 [] trivial (by rfl) (cg2 (0 : Pt F2)) (by rfl)) ?_
  refine L_alloc _ (by rfl) (by rfl) z_g2 (cg2 (0 : Pt F2)) rfl ?_; intro g4
  refine L_store (t := 59) 0 g4 _ _ (by rfl) (by rfl) (by rfl) (by rfl) (by rfl) (hi_g2 _) ((cg2_size _).trans (cg2_size _).symm) (cg2_one _) ?_
  simp only [List.set_cons_zero, List.set_cons_succ]
  refine L_end ?_
  intro w2 hw2
  refine wp_seq ?_
  refine seq_plain hw2 [0, 1, 2, 3, 4, 5, 6, 7, 8, 9, 10, 11, 12] (by rfl) ?_
  refine L_val (.agg (cg2 (p))) (by rfl) (by rfl) (gL g1 59 (cg2 (p)) 3 Tryd.underlying59 (hi_g2 _)) ?_
  refine L_val (.agg (cg2 (0 : Pt F2))) (by rfl) (by rfl) (gL g4 59 (cg2 (0 : Pt F2)) 0 Tryd.underlying59 (hi_g2 _)) ?_
  refine L_val (.bool false) (by rfl) (by rfl) (gives_eql (cg2 (p)) (cg2 (0 : Pt F2)) false (by rfl) (by rfl) (by kernel_rfl) (fun w => eq_g2_f (d := 9995) w h1)) ?_
  refine L_val (.bool false) (by rfl) (by rfl) (gives_value _ fun _ => by rfl) ?_
  refine L_val_g (dj := 13) (.agg (cg2 (q))) (by rfl) (by rfl) (by rfl) (by rfl) (by rfl) (gives_load g2 0 59 (cg2 (q)) (cg2 (q)) _ (by rfl) (fun _ h => h.blk 2 (by rfl)) (Sl.refl _) Tryd.underlying59 (by rfl) (hi_g2 _)) ?_
  refine L_val_g (dj := 13) (.agg (cg2 (0 : Pt F2))) (by rfl) (by rfl) (by rfl) (by rfl) (by rfl) (gives_load g4 0 59 (cg2 (0 : Pt F2)) (cg2 (0 : Pt F2)) _ (by rfl) (fun _ h => h.blk 0 (by rfl)) (Sl.refl _) Tryd.underlying59 (by rfl) (hi_g2 _)) ?_
  refine L_val_g (dj := 13) (.bool false) (by rfl) (by rfl) (by rfl) (by rfl) (by rfl) (gives_eql (cg2 (q)) (cg2 (0 : Pt F2)) false (by rfl) (by rfl) (by kernel_rfl) (fun w => eq_g2_f (d := 9995) w h2)) ?_
  refine L_val (.bool false) (by rfl) (by rfl) (gives_value _ fun _ => by rfl) ?_
  refine L_val (.bool false) (by rfl) (by rfl) (gives_value _ fun _ => by rfl) ?_
  refine L_val_g (dj := 18) (.agg (cg2 (r))) (by rfl) (by rfl) (by rfl) (by rfl) (by rfl) (gives_load g3 0 59 (cg2 (r)) (cg2 (r)) _ (by rfl) (fun _ h => h.blk 1 (by rfl)) (Sl.refl _) Tryd.underlying59 (by rfl) (hi_g2 _)) ?_
  refine L_val_g (dj := 18) (.agg (cg2 (0 : Pt F2))) (by rfl) (by rfl) (by rfl) (by rfl) (by rfl) (gives_load g4 0 59 (cg2 (0 : Pt F2)) (cg2 (0 : Pt F2)) _ (by rfl) (fun _ h => h.blk 0 (by rfl)) (Sl.refl _) Tryd.underlying59 (by rfl) (hi_g2 _)) ?_
  refine L_val_g (dj := 18) (.bool false) (by rfl) (by rfl) (by rfl) (by rfl) (by rfl) (gives_eql (cg2 (r)) (cg2 (0 : Pt F2)) false (by rfl) (by rfl) (by kernel_rfl) (fun w => eq_g2_f (d := 9995) w h3)) ?_
  refine L_val (.bool false) (by rfl) (by rfl) (gives_value _ fun _ => by rfl) ?_
  refine L_end ?_
  intro w3 hw3
  refine wp_cond_false (fr_at _ _ (by rfl) _) ?_
  refine wp_skip ?_
  change Code.wp _ _ _ _ _
  refine wp_seq ?_
  refine seq_plain hw3 [0, 1, 2] (by rfl) ?_
  refine L_val (.agg (cg2 (p))) (by rfl) (by rfl) (gL g1 59 (cg2 (p)) 3 Tryd.underlying59 (hi_g2 _)) ?_
  refine L_val (.agg (cg2 (q))) (by rfl) (by rfl) (gL g2 59 (cg2 (q)) 2 Tryd.underlying59 (hi_g2 _)) ?_
  refine L_val (.bool true) (by rfl) (by rfl) (gives_eql (cg2 (p)) (cg2 (q)) true (by rfl) (by rfl) (by kernel_rfl) (fun w => eq_g2_t (d := 9995) w h4)) ?_
  refine L_end ?_
  intro w4 hw4
  refine wp_cond_true (fr_at _ _ (by rfl) _) ?_
  refine seq_plain hw4 [0, 1, 2, 3, 4] (by rfl) ?_
  refine L_val (.pointer (some ⟨g1, 0, none⟩)) (by rfl) (by rfl) (gives_value _ fun _ => by kernel_rfl) ?_
  refine L_val (.agg (c2 ((p).x))) (by rfl) (by rfl) (gives_load g1 0 59 (cg2 (p)) (c2 ((p).x)) _ (by rfl) (fun _ h => h.blk 3 (by rfl)) (sl_g2x (p) _ _ (Sl.refl _)) Tryd.underlying57 (by rfl) (hi_2 _)) ?_
  refine L_val (.agg (c2 (((p).x) * ((p).x)))) (by rfl) (by rfl) (gives_call (vl := [.agg (c2 ((p).x))]) (by kernel_rfl) (by rfl) (fun w h => q_square _ w (hG.keep h.below))) ?_
  refine L_alloc _ (by rfl) (by rfl) z_2 (c2 (0 : F2)) rfl ?_; intro g5
  refine L_store (t := 57) 0 g5 _ _ (by rfl) (by rfl) (by rfl) (by rfl) (by rfl) (hi_2 _) ((c2_size _).trans (c2_size _).symm) (c2_one _) ?_
  simp only [List.set_cons_zero, List.set_cons_succ]
  refine L_end ?_
  intro w5 hw5
  refine seq_flow (by kernel_rfl) hw5 [] [(g5, 57, (c2 (((p).x) * ((p).x)))), (g4, 59, (cg2 (0 : Pt F2))), (g3, 59, (cg2 (r))), (g2, 59, (cg2 (q))), (g1, 59, (cg2 (p)))] 47 (by rfl) ?_
  refine fT (i := 0) (u := (.pointer (some ⟨g3, 0, none⟩))) (g := (gives_value _ fun _ => by kernel_rfl)) (h := ?_)
  refine fT (i := 1) (g := (gives_load g3 0 59 (cg2 (r)) (c2 ((r).x)) _ (by rfl) (fun _ h => h.blk 2 (by rfl)) (sl_g2x (r) _ _ (Sl.refl _)) Tryd.underlying57 (by rfl) (hi_2 _))) (h := ?_)
  refine fT (i := 2) (u := (.pointer (some ⟨g1, 0, none⟩))) (g := (gives_value _ fun _ => by kernel_rfl)) (h := ?_)
  refine fT (i := 3) (g := (gives_load g1 0 59 (cg2 (p)) (c2 ((p).x)) _ (by rfl) (fun _ h => h.blk 4 (by rfl)) (sl_g2x (p) _ _ (Sl.refl _)) Tryd.underlying57 (by rfl) (hi_2 _))) (h := ?_)
  refine fT (i := 4) (u := (.bool true)) (g := (gives_neq (c2 ((r).x)) (c2 ((p).x)) false (by rfl) (by rfl) (by kernel_rfl) (fun w => eq_2_f (d := 9996) w hx))) (h := ?_)
  refine fT (i := 5) (u := (.bool true)) (g := (gives_value _ fun _ => by rfl)) (h := ?_)
  refine fG (i := 6) (dj := 65) (u := (.pointer (some ⟨g1, 12, none⟩))) (g := (gives_value _ fun _ => by kernel_rfl)) (h := ?_)
  refine fG (i := 7) (dj := 65) (g := (gives_load g1 12 59 (cg2 (p)) (c2 ((p).y)) _ (by rfl) (fun _ h => h.blk 4 (by rfl)) (sl_g2y (p) _ _ 12 (Sl.refl _) (by rfl)) Tryd.underlying57 (by rfl) (hi_2 _))) (h := ?_)
  refine fG (i := 8) (dj := 65) (u := (.pointer (some ⟨g1, 12, none⟩))) (g := (gives_value _ fun _ => by kernel_rfl)) (h := ?_)
  refine fG (i := 9) (dj := 65) (g := (gives_load g1 12 59 (cg2 (p)) (c2 ((p).y)) _ (by rfl) (fun _ h => h.blk 4 (by rfl)) (sl_g2y (p) _ _ 12 (Sl.refl _) (by rfl)) Tryd.underlying57 (by rfl) (hi_2 _))) (h := ?_)
  refine fG (i := 10) (dj := 65) (g := (gives_call (vl := [.agg (c2 ((p).y)), .agg (c2 ((p).y))]) (by kernel_rfl) (by rfl) (fun w h => q_add _ _ w (hG.keep h.below)))) (h := ?_)
  refine fG (i := 11) (dj := 65) (u := (.pointer (some ⟨g3, 12, none⟩))) (g := (gives_value _ fun _ => by kernel_rfl)) (h := ?_)
  refine fG (i := 12) (dj := 65) (g := (gives_load g3 12 59 (cg2 (r)) (c2 ((r).y)) _ (by rfl) (fun _ h => h.blk 2 (by rfl)) (sl_g2y (r) _ _ 12 (Sl.refl _) (by rfl)) Tryd.underlying57 (by rfl) (hi_2 _))) (h := ?_)
  refine fG (i := 13) (dj := 65) (u := (.pointer (some ⟨g1, 12, none⟩))) (g := (gives_value _ fun _ => by kernel_rfl)) (h := ?_)
  refine fG (i := 14) (dj := 65) (g := (gives_load g1 12 59 (cg2 (p)) (c2 ((p).y)) _ (by rfl) (fun _ h => h.blk 4 (by rfl)) (sl_g2y (p) _ _ 12 (Sl.refl _) (by rfl)) Tryd.underlying57 (by rfl) (hi_2 _))) (h := ?_)
  refine fG (i := 15) (dj := 65) (g := (gives_call (vl := [.agg (c2 ((r).y)), .agg (c2 ((p).y))]) (by kernel_rfl) (by rfl) (fun w h => q_sub _ _ w (hG.keep h.below)))) (h := ?_)
  refine fG (i := 16) (dj := 65) (g := (gives_call (vl := [.agg (c2 (((p).y) + ((p).y))), .agg (c2 (((r).y) - ((p).y)))]) (by kernel_rfl) (by rfl) (fun w h => q_mul _ _ w (hG.keep h.below)))) (h := ?_)
  refine fG (i := 17) (dj := 65) (g := (gL g5 57 (c2 (((p).x) * ((p).x))) 0 Tryd.underlying57 (hi_2 _))) (h := ?_)
  refine fG (i := 18) (dj := 65) (g := (gL g5 57 (c2 (((p).x) * ((p).x))) 0 Tryd.underlying57 (hi_2 _))) (h := ?_)
  refine fG (i := 19) (dj := 65) (g := (gives_call (vl := [.agg (c2 (((p).x) * ((p).x))), .agg (c2 (((p).x) * ((p).x)))]) (by kernel_rfl) (by rfl) (fun w h => q_add _ _ w (hG.keep h.below)))) (h := ?_)
  refine fG (i := 20) (dj := 65) (g := (gL g5 57 (c2 (((p).x) * ((p).x))) 0 Tryd.underlying57 (hi_2 _))) (h := ?_)
  refine fG (i := 21) (dj := 65) (g := (gives_call (vl := [.agg (c2 ((((p).x) * ((p).x)) + (((p).x) * ((p).x)))), .agg (c2 (((p).x) * ((p).x)))]) (by kernel_rfl) (by rfl) (fun w h => q_add _ _ w (hG.keep h.below)))) (h := ?_)
  refine fG (i := 22) (dj := 65) (u := (.pointer (some ⟨g3, 0, none⟩))) (g := (gives_value _ fun _ => by kernel_rfl)) (h := ?_)
  refine fG (i := 23) (dj := 65) (g := (gives_load g3 0 59 (cg2 (r)) (c2 ((r).x)) _ (by rfl) (fun _ h => h.blk 2 (by rfl)) (sl_g2x (r) _ _ (Sl.refl _)) Tryd.underlying57 (by rfl) (hi_2 _))) (h := ?_)
  refine fG (i := 24) (dj := 65) (u := (.pointer (some ⟨g1, 0, none⟩))) (g := (gives_value _ fun _ => by kernel_rfl)) (h := ?_)
  refine fG (i := 25) (dj := 65) (g := (gives_load g1 0 59 (cg2 (p)) (c2 ((p).x)) _ (by rfl) (fun _ h => h.blk 4 (by rfl)) (sl_g2x (p) _ _ (Sl.refl _)) Tryd.underlying57 (by rfl) (hi_2 _))) (h := ?_)
  refine fG (i := 26) (dj := 65) (g := (gives_call (vl := [.agg (c2 ((r).x)), .agg (c2 ((p).x))]) (by kernel_rfl) (by rfl) (fun w h => q_sub _ _ w (hG.keep h.below)))) (h := ?_)
  refine fG (i := 27) (dj := 65) (g := (gives_call (vl := [.agg (c2 (((((p).x) * ((p).x)) + (((p).x) * ((p).x))) + (((p).x) * ((p).x)))), .agg (c2 (((r).x) - ((p).x)))]) (by kernel_rfl) (by rfl) (fun w h => q_mul _ _ w (hG.keep h.below)))) (h := ?_)
  refine fG (i := 28) (dj := 65) (u := (.bool true)) (g := (gives_eql (c2 ((((p).y) + ((p).y)) * (((r).y) - ((p).y)))) (c2 ((((((p).x) * ((p).x)) + (((p).x) * ((p).x))) + (((p).x) * ((p).x))) * (((r).x) - ((p).x)))) true (by rfl) (by rfl) (by kernel_rfl) (fun w => eq_2_t (d := 9996) w he))) (h := ?_)
  refine fT (i := 29) (u := (.bool true)) (g := (gives_value _ fun _ => by rfl)) (h := ?_)
  refine fT (i := 30) (u := (.bool true)) (g := (gives_value _ fun _ => by rfl)) (h := ?_)
  refine fS (i := 31) (dj := 90) (h := ?_)
  refine fS (i := 32) (dj := 90) (h := ?_)
  refine fS (i := 33) (dj := 90) (h := ?_)
  refine fS (i := 34) (dj := 90) (h := ?_)
  refine fS (i := 35) (dj := 90) (h := ?_)
  refine fS (i := 36) (dj := 90) (h := ?_)
  refine flow_skip_u (i := 37) (dj := 96) (by rfl) (by kernel_rfl) (by kernel_rfl) (by kernel_rfl) (by rfl) (by kernel_rfl) (List.Sublist.refl _) (by rfl) (by rfl) (by rfl) ?_
  refine flow_skip_u (i := 38) (dj := 96) (by rfl) (by kernel_rfl) (by kernel_rfl) (by kernel_rfl) (by rfl) (by kernel_rfl) (List.Sublist.refl _) (by rfl) (by rfl) (by rfl) ?_
  refine flow_skip_u (i := 39) (dj := 96) (by rfl) (by kernel_rfl) (by kernel_rfl) (by kernel_rfl) (by rfl) (by kernel_rfl) (List.Sublist.refl _) (by rfl) (by rfl) (by rfl) ?_
  refine fS (i := 40) (dj := 90) (h := ?_)
  refine fS (i := 41) (dj := 90) (h := ?_)
  refine flow_skip_u (i := 42) (dj := 101) (by rfl) (by kernel_rfl) (by kernel_rfl) (by kernel_rfl) (by rfl) (by kernel_rfl) (List.Sublist.refl _) (by rfl) (by rfl) (by rfl) ?_
  refine flow_skip_u (i := 43) (dj := 101) (by rfl) (by kernel_rfl) (by kernel_rfl) (by kernel_rfl) (by rfl) (by kernel_rfl) (List.Sublist.refl _) (by rfl) (by rfl) (by rfl) ?_
  refine fS (i := 44) (dj := 90) (h := ?_)
  refine fT (i := 45) (u := (.bool true)) (g := (gives_value _ fun _ => by rfl)) (h := ?_)
  refine fT (i := 46) (u := (.bool true)) (g := (gives_value _ fun _ => by rfl)) (h := ?_)
  refine flow_done (by kernel_rfl) ?_
  intro w6 hw6
  refine wp_ret ?_
  change bodyPost _ _ _ Exit.ret _ _
  refine (ret_tmp (by rfl) (by rfl) (by rfl) ⟨rfl, hw6.below⟩)
set_option maxRecDepth 100000 in
set_option maxHeartbeats 4000000 in
theorem k2_sides5 (p q r : Pt F2) (v : World) (hG : Glo v) (h1 : p ≠ 0) (h2 : q ≠ 0) (h3 : r ≠ 0) (h4 : p = q) (hx : r.x = p.x) (he : r = p) (h9 : p.x * p.x * (p.x * p.x) + p.x * p.x * (p.x * p.x) + p.x * p.x * (p.x * p.x) + (p.x * p.x * (p.x * p.x) + p.x * p.x * (p.x * p.x) + p.x * p.x * (p.x * p.x)) + (p.x * p.x * (p.x * p.x) + p.x * p.x * (p.x * p.x) + p.x * p.x * (p.x * p.x)) = p.x * (p.y * p.y) + p.x * (p.y * p.y) + p.x * (p.y * p.y) + (p.x * (p.y * p.y) + p.x * (p.y * p.y) + p.x * (p.y * p.y)) + (p.x * (p.y * p.y) + p.x * (p.y * p.y) + p.x * (p.y * p.y) + (p.x * (p.y * p.y) + p.x * (p.y * p.y) + p.x * (p.y * p.y)))) : Rets 43 #[.agg (cg2 (p)), .agg (cg2 (q)), .agg (cg2 (r))] v (.bool true) := by
  refine calls_fr3 Tryd.func43 rfl (by rfl : _ = 140) (by rfl) ?_
  have hw := Hbl.nil v
  refine seq_plain hw [0, 1, 2, 3] (by rfl) ?_
  refine L_box (.agg (cg2 (p))) (by rfl) (by rfl) (by rfl) (cg2 (p)) (by rfl) ?_; intro g1
  refine L_box (.agg (cg2 (q))) (by rfl) (by rfl) (by rfl) (cg2 (q)) (by rfl) ?_; intro g2
  refine L_box (.agg (cg2 (r))) (by rfl) (by rfl) (by rfl) (cg2 (r)) (by rfl) ?_; intro g3
  refine L_val (.bool false) (by rfl) (by rfl) (gives_value _ fun _ => by rfl) ?_
  refine L_end ?_
  intro w1 hw1
  refine seq_plain hw1 [0, 1, 2] (by rfl) ?_
  refine L_val (.agg (cg2 (0 : Pt F2))) (by rfl) (by rfl) (gb_g2 [] trivial (by rfl) (cg2 (0 : Pt F2)) (by rfl)) ?_
  refine L_alloc _ (by rfl) (by rfl) z_g2 (cg2 (0 : Pt F2)) rfl ?_; intro g4
  refine L_store (t := 59) 0 g4 _ _ (by rfl) (by rfl) (by rfl) (by rfl) (by rfl) (hi_g2 _) ((cg2_size _).trans (cg2_size _).symm) (cg2_one _) ?_
  simp only [List.set_cons_zero, List.set_cons_succ]
  refine L_end ?_
  intro w2 hw2
  refine wp_seq ?_
  refine seq_plain hw2 [0, 1, 2, 3, 4, 5, 6, 7, 8, 9, 10, 11, 12] (by rfl) ?_
  refine L_val (.agg (cg2 (p))) (by rfl) (by rfl) (gL g1 59 (cg2 (p)) 3 Tryd.underlying59 (hi_g2 _)) ?_
  refine L_val (.agg (cg2 (0 : Pt F2))) (by rfl) (by rfl) (gL g4 59 (cg2 (0 : Pt F2)) 0 Tryd.underlying59 (hi_g2 _)) ?_
  refine L_val (.bool false) (by rfl) (by rfl) (gives_eql (cg2 (p)) (cg2 (0 : Pt F2)) false (by rfl) (by rfl) (by kernel_rfl) (fun w => eq_g2_f (d := 9995) w h1)) ?_
  refine L_val (.bool false) (by rfl) (by rfl) (gives_value _ fun _ => by rfl) ?_
  refine L_val_g (dj := 13) (.agg (cg2 (q))) (by rfl) (by rfl) (by rfl) (by rfl) (by rfl) (gives_load g2 0 59 (cg2 (q)) (cg2 (q)) _ (by rfl) (fun _ h => h.blk 2 (by rfl)) (Sl.refl _) Tryd.underlying59 (by rfl) (hi_g2 _)) ?_
  refine L_val_g (dj := 13) (.agg (cg2 (0 : Pt F2))) (by rfl) (by rfl) (by rfl) (by rfl) (by rfl) (gives_load g4 0 59 (cg2 (0 : Pt F2)) (cg2 (0 : Pt F2)) _ (by rfl) (fun _ h => h.blk 0 (by rfl)) (Sl.refl _) Tryd.underlying59 (by rfl) (hi_g2 _)) ?_
  refine L_val_g (dj := 13) (.bool false) (by rfl) (by rfl) (by rfl) (by rfl) (by rfl) (gives_eql (cg2 (q)) (cg2 (0 : Pt F2)) false (by rfl) (by rfl) (by kernel_rfl) (fun w => eq_g2_f (d := 9995) w h2)) ?_
  refine L_val (.bool false) (by rfl) (by rfl) (gives_value _ fun _ => by rfl) ?_
  refine L_val (.bool false) (by rfl) (by rfl) (gives_value _ fun _ => by rfl) ?_
  refine L_val_g (dj := 18) (.agg (cg2 (r))) (by rfl) (by rfl) (by rfl) (by rfl) (by rfl) (gives_load g3 0 59 (cg2 (r)) (cg2 (r)) _ (by rfl) (fun _ h => h.blk 1 (by rfl)) (Sl.refl _) Tryd.underlying59 (by rfl) (hi_g2 _)) ?_
  refine L_val_g (dj := 18) (.agg (cg2 (0 : Pt F2))) (by rfl) (by rfl) (by rfl) (by rfl) (by rfl) (gives_load g4 0 59 (cg2 (0 : Pt F2)) (cg2 (0 : Pt F2)) _ (by rfl) (fun _ h => h.blk 0 (by rfl)) (Sl.refl _) Tryd.underlying59 (by rfl) (hi_g2 _)) ?_
  refine L_val_g (dj := 18) (.bool false) (by rfl) (by rfl) (by rfl) (by rfl) (by rfl) (gives_eql (cg2 (r)) (cg2 (0 : Pt F2)) false (by rfl) (by rfl) (by kernel_rfl) (fun w => eq_g2_f (d := 9995) w h3)) ?_
  refine L_val (.bool false) (by rfl) (by rfl) (gives_value _ fun _ => by rfl) ?_
  refine L_end ?_
  intro w3 hw3
  refine wp_cond_false (fr_at _ _ (by rfl) _) ?_
  refine wp_skip ?_
  change Code.wp _ _ _ _ _
  refine wp_seq ?_
  refine seq_plain hw3 [0, 1, 2] (by rfl) ?_
  refine L_val (.agg (cg2 (p))) (by rfl) (by rfl) (gL g1 59 (cg2 (p)) 3 Tryd.underlying59 (hi_g2 _)) ?_
  refine L_val (.agg (cg2 (q))) (by rfl) (by rfl) (gL g2 59 (cg2 (q)) 2 Tryd.underlying59 (hi_g2 _)) ?_
  refine L_val (.bool true) (by rfl) (by rfl) (gives_eql (cg2 (p)) (cg2 (q)) true (by rfl) (by rfl) (by kernel_rfl) (fun w => eq_g2_t (d := 9995) w h4)) ?_
  refine L_end ?_
  intro w4 hw4
  refine wp_cond_true (fr_at _ _ (by rfl) _) ?_
  refine seq_plain hw4 [0, 1, 2, 3, 4] (by rfl) ?_
  refine L_val (.pointer (some ⟨g1, 0, none⟩)) (by rfl) (by rfl) (gives_value _ fun _ => by kernel_rfl) ?_
  refine L_val (.agg (c2 ((p).x))) (by rfl) (by rfl) (gives_load g1 0 59 (cg2 (p)) (c2 ((p).x)) _ (by rfl) (fun _ h => h.blk 3 (by rfl)) (sl_g2x (p) _ _ (Sl.refl _)) Tryd.underlying57 (by rfl) (hi_2 _)) ?_
  refine L_val (.agg (c2 (((p).x) * ((p).x)))) (by rfl) (by rfl) (gives_call (vl := [.agg (c2 ((p).x))]) (by kernel_rfl) (by rfl) (fun w h => q_square _ w (hG.keep h.below))) ?_
  refine L_alloc _ (by rfl) (by rfl) z_2 (c2 (0 : F2)) rfl ?_; intro g5
  refine L_store (t := 57) 0 g5 _ _ (by rfl) (by rfl) (by rfl) (by rfl) (by rfl) (hi_2 _) ((c2_size _).trans (c2_size _).symm) (c2_one _) ?_
  simp only [List.set_cons_zero, List.set_cons_succ]
  refine L_end ?_
  intro w5 hw5
  refine seq_flow (by kernel_rfl) hw5 [] [(g5, 57, (c2 (((p).x) * ((p).x)))), (g4, 59, (cg2 (0 : Pt F2))), (g3, 59, (cg2 (r))), (g2, 59, (cg2 (q))), (g1, 59, (cg2 (p)))] 47 (by rfl) ?_
  refine fT (i := 0) (u := (.pointer (some ⟨g3, 0, none⟩))) (g := (gives_value _ fun _ => by kernel_rfl)) (h := ?_)
  refine fT (i := 1) (g := (gives_load g3 0 59 (cg2 (r)) (c2 ((r).x)) _ (by rfl) (fun _ h => h.blk 2 (by rfl)) (sl_g2x (r) _ _ (Sl.refl _)) Tryd.underlying57 (by rfl) (hi_2 _))) (h := ?_)
  refine fT (i := 2) (u := (.pointer (some ⟨g1, 0, none⟩))) (g := (gives_value _ fun _ => by kernel_rfl)) (h := ?_)
  refine fT (i := 3) (g := (gives_load g1 0 59 (cg2 (p)) (c2 ((p).x)) _ (by rfl) (fun _ h => h.blk 4 (by rfl)) (sl_g2x (p) _ _ (Sl.refl _)) Tryd.underlying57 (by rfl) (hi_2 _))) (h := ?_)
  refine fT (i := 4) (u := (.bool false)) (g := (gives_neq (c2 ((r).x)) (c2 ((p).x)) true (by rfl) (by rfl) (by kernel_rfl) (fun w => eq_2_t (d := 9996) w hx))) (h := ?_)
  refine fT (i := 5) (u := (.bool false)) (g := (gives_value _ fun _ => by rfl)) (h := ?_)
  refine fS (i := 6) (dj := 65) (h := ?_)
  refine fS (i := 7) (dj := 65) (h := ?_)
  refine fS (i := 8) (dj := 65) (h := ?_)
  refine fS (i := 9) (dj := 65) (h := ?_)
  refine fS (i := 10) (dj := 65) (h := ?_)
  refine fS (i := 11) (dj := 65) (h := ?_)
  refine fS (i := 12) (dj := 65) (h := ?_)
  refine fS (i := 13) (dj := 65) (h := ?_)
  refine fS (i := 14) (dj := 65) (h := ?_)
  refine fS (i := 15) (dj := 65) (h := ?_)
  refine fS (i := 16) (dj := 65) (h := ?_)
  refine fS (i := 17) (dj := 65) (h := ?_)
  refine fS (i := 18) (dj := 65) (h := ?_)
  refine fS (i := 19) (dj := 65) (h := ?_)
  refine fS (i := 20) (dj := 65) (h := ?_)
  refine fS (i := 21) (dj := 65) (h := ?_)
  refine fS (i := 22) (dj := 65) (h := ?_)
  refine fS (i := 23) (dj := 65) (h := ?_)
  refine fS (i := 24) (dj := 65) (h := ?_)
  refine fS (i := 25) (dj := 65) (h := ?_)
  refine fS (i := 26) (dj := 65) (h := ?_)
  refine fS (i := 27) (dj := 65) (h := ?_)
  refine fS (i := 28) (dj := 65) (h := ?_)
  refine fT (i := 29) (u := (.bool false)) (g := (gives_value _ fun _ => by rfl)) (h := ?_)
  refine fT (i := 30) (u := (.bool false)) (g := (gives_value _ fun _ => by rfl)) (h := ?_)
  refine fG (i := 31) (dj := 90) (u := (.pointer (some ⟨g3, 0, none⟩))) (g := (gives_value _ fun _ => by kernel_rfl)) (h := ?_)
  refine fG (i := 32) (dj := 90) (g := (gives_load g3 0 59 (cg2 (r)) (c2 ((r).x)) _ (by rfl) (fun _ h => h.blk 2 (by rfl)) (sl_g2x (r) _ _ (Sl.refl _)) Tryd.underlying57 (by rfl) (hi_2 _))) (h := ?_)
  refine fG (i := 33) (dj := 90) (u := (.pointer (some ⟨g1, 0, none⟩))) (g := (gives_value _ fun _ => by kernel_rfl)) (h := ?_)
  refine fG (i := 34) (dj := 90) (g := (gives_load g1 0 59 (cg2 (p)) (c2 ((p).x)) _ (by rfl) (fun _ h => h.blk 4 (by rfl)) (sl_g2x (p) _ _ (Sl.refl _)) Tryd.underlying57 (by rfl) (hi_2 _))) (h := ?_)
  refine fG (i := 35) (dj := 90) (u := (.bool true)) (g := (gives_eql (c2 ((r).x)) (c2 ((p).x)) true (by rfl) (by rfl) (by kernel_rfl) (fun w => eq_2_t (d := 9996) w hx))) (h := ?_)
  refine fG (i := 36) (dj := 90) (u := (.bool true)) (g := (gives_value _ fun _ => by rfl)) (h := ?_)
  refine fG (i := 37) (dj := 96) (g := (gL g3 59 (cg2 (r)) 2 Tryd.underlying59 (hi_g2 _))) (h := ?_)
  refine fG (i := 38) (dj := 96) (g := (gL g1 59 (cg2 (p)) 4 Tryd.underlying59 (hi_g2 _))) (h := ?_)
  refine fG (i := 39) (dj := 96) (u := (.bool true)) (g := (gives_eql (cg2 (r)) (cg2 (p)) true (by rfl) (by rfl) (by kernel_rfl) (fun w => eq_g2_t (d := 9995) w he))) (h := ?_)
  refine fG (i := 40) (dj := 90) (u := (.bool true)) (g := (gives_value _ fun _ => by rfl)) (h := ?_)
  refine fG (i := 41) (dj := 90) (u := (.bool true)) (g := (gives_value _ fun _ => by rfl)) (h := ?_)
  refine fG (i := 42) (dj := 101) (g := (gL g1 59 (cg2 (p)) 4 Tryd.underlying59 (hi_g2 _))) (h := ?_)
  refine fG (i := 43) (dj := 101) (g := (gives_call (vl := [.agg (cg2 (p))]) (by kernel_rfl) (by rfl) (fun w h => k2_three _ w (hG.keep h.below) h9))) (h := ?_)
  refine fG (i := 44) (dj := 90) (u := (.bool true)) (g := (gives_value _ fun _ => by rfl)) (h := ?_)
  refine fT (i := 45) (u := (.bool true)) (g := (gives_value _ fun _ => by rfl)) (h := ?_)
  refine fT (i := 46) (u := (.bool true)) (g := (gives_value _ fun _ => by rfl)) (h := ?_)
  refine flow_done (by kernel_rfl) ?_
  intro w6 hw6
  refine wp_ret ?_
  change bodyPost _ _ _ Exit.ret _ _
  refine (ret_tmp (by rfl) (by rfl) (by rfl) ⟨rfl, hw6.below⟩)
set_option maxRecDepth 100000 in
set_option maxHeartbeats 4000000 in
theorem k2_sides6 (p q r : Pt F2) (v : World) (hG : Glo v) (h1 : p ≠ 0) (h2 : q ≠ 0) (h3 : r ≠ 0) (h4 : p ≠ q) (hx : p.x ≠ q.x) (he : (q.x - p.x) * (r.y - p.y) = (r.x - p.x) * (q.y - p.y)) (h9 : (p.x + q.x + r.x) * ((q.x - p.x) * (q.x - p.x)) = (q.y - p.y) * (q.y - p.y)) : Rets 43 #[.agg (cg2 (p)), .agg (cg2 (q)), .agg (cg2 (r))] v (.bool true) := by
  refine calls_fr3 Tryd.func43 rfl (by rfl : _ = 140) (by rfl) ?_
  have hw := Hbl.nil v
  refine seq_plain hw [0, 1, 2, 3] (by rfl) ?_
  refine L_box (.agg (cg2 (p))) (by rfl) (by rfl) (by rfl) (cg2 (p)) (by rfl) ?_; intro g1
  refine L_box (.agg (cg2 (q))) (by rfl) (by rfl) (by rfl) (cg2 (q)) (by rfl) ?_; intro g2
  refine L_box (.agg (cg2 (r))) (by rfl) (by rfl) (by rfl) (cg2 (r)) (by rfl) ?_; intro g3
  refine L_val (.bool false) (by rfl) (by rfl) (gives_value _ fun _ => by rfl) ?_
  refine L_end ?_
  intro w1 hw1
  refine seq_plain hw1 [0, 1, 2] (by rfl) ?_
  refine L_val (.agg (cg2 (0 : Pt F2))) (by rfl) (by rfl) (gb_g2 [] trivial (by rfl) (cg2 (0 : Pt F2)) (by rfl)) ?_
  refine L_alloc _ (by rfl) (by rfl) z_g2 (cg2 (0 : Pt F2)) rfl ?_; intro g4
  refine L_store (t := 59) 0 g4 _ _ (by rfl) (by rfl) (by rfl) (by rfl) (by rfl) (hi_g2 _) ((cg2_size _).trans (cg2_size _).symm) (cg2_one _) ?_
  simp only [List.set_cons_zero, List.set_cons_succ]
  refine L_end ?_
  intro w2 hw2
  refine wp_seq ?_
  refine seq_plain hw2 [0, 1, 2, 3, 4, 5, 6, 7, 8, 9, 10, 11, 12] (by rfl) ?_
  refine L_val (.agg (cg2 (p))) (by rfl) (by rfl) (gL g1 59 (cg2 (p)) 3 Tryd.underlying59 (hi_g2 _)) ?_
  refine L_val (.agg (cg2 (0 : Pt F2))) (by rfl) (by rfl) (gL g4 59 (cg2 (0 : Pt F2)) 0 Tryd.underlying59 (hi_g2 _)) ?_
  refine L_val (.bool false) (by rfl) (by rfl) (gives_eql (cg2 (p)) (cg2 (0 : Pt F2)) false (by rfl) (by rfl) (by kernel_rfl) (fun w => eq_g2_f (d := 9995) w h1)) ?_
  refine L_val (.bool false) (by rfl) (by rfl) (gives_value _ fun _ => by rfl) ?_
  refine L_val_g (dj := 13) (.agg (cg2 (q))) (by rfl) (by rfl) (by rfl) (by rfl) (by rfl) (gives_load g2 0 59 (cg2 (q)) (cg2 (q)) _ (by rfl) (fun _ h => h.blk 2 (by rfl)) (Sl.refl _) Tryd.underlying59 (by rfl) (hi_g2 _)) ?_
  refine L_val_g (dj := 13) (.agg (cg2 (0 : Pt F2))) (by rfl) (by rfl) (by rfl) (by rfl) (by rfl) (gives_load g4 0 59 (cg2 (0 : Pt F2)) (cg2 (0 : Pt F2)) _ (by rfl) (fun _ h => h.blk 0 (by rfl)) (Sl.refl _) Tryd.underlying59 (by rfl) (hi_g2 _)) ?_
  refine L_val_g (dj := 13) (.bool false) (by rfl) (by rfl) (by rfl) (by rfl) (by rfl) (gives_eql (cg2 (q)) (cg2 (0 : Pt F2)) false (by rfl) (by rfl) (by kernel_rfl) (fun w => eq_g2_f (d := 9995) w h2)) ?_
  refine L_val (.bool false) (by rfl) (by rfl) (gives_value _ fun _ => by rfl) ?_
  refine L_val (.bool false) (by rfl) (by rfl) (gives_value _ fun _ => by rfl) ?_
  refine L_val_g (dj := 18) (.agg (cg2 (r))) (by rfl) (by rfl) (by rfl) (by rfl) (by rfl) (gives_load g3 0 59 (cg2 (r)) (cg2 (r)) _ (by rfl) (fun _ h => h.blk 1 (by rfl)) (Sl.refl _) Tryd.underlying59 (by rfl) (hi_g2 _)) ?_
  refine L_val_g (dj := 18) (.agg (cg2 (0 : Pt F2))) (by rfl) (by rfl) (by rfl) (by rfl) (by rfl) (gives_load g4 0 59 (cg2 (0 : Pt F2)) (cg2 (0 : Pt F2)) _ (by rfl) (fun _ h => h.blk 0 (by rfl)) (Sl.refl _) Tryd.underlying59 (by rfl) (hi_g2 _)) ?_
  refine L_val_g (dj := 18) (.bool false) (by rfl) (by rfl) (by rfl) (by rfl) (by rfl) (gives_eql (cg2 (r)) (cg2 (0 : Pt F2)) false (by rfl) (by rfl) (by kernel_rfl) (fun w => eq_g2_f (d := 9995) w h3)) ?_
  refine L_val (.bool false) (by rfl) (by rfl) (gives_value _ fun _ => by rfl) ?_
  refine L_end ?_
  intro w3 hw3
  refine wp_cond_false (fr_at _ _ (by rfl) _) ?_
  refine wp_skip ?_
  change Code.wp _ _ _ _ _
  refine wp_seq ?_
  refine seq_plain hw3 [0, 1, 2] (by rfl) ?_
  refine L_val (.agg (cg2 (p))) (by rfl) (by rfl) (gL g1 59 (cg2 (p)) 3 Tryd.underlying59 (hi_g2 _)) ?_
  refine L_val (.agg (cg2 (q))) (by rfl) (by rfl) (gL g2 59 (cg2 (q)) 2 Tryd.underlying59 (hi_g2 _)) ?_
  refine L_val (.bool false) (by rfl) (by rfl) (gives_eql (cg2 (p)) (cg2 (q)) false (by rfl) (by rfl) (by kernel_rfl) (fun w => eq_g2_f (d := 9995) w h4)) ?_
  refine L_end ?_
  intro w4 hw4
  refine wp_cond_false (fr_at _ _ (by rfl) _) ?_
  refine wp_skip ?_
  change Code.wp _ _ _ _ _
  refine wp_seq ?_
  refine seq_plain hw4 [0, 1, 2, 3, 4] (by rfl) ?_
  refine L_val (.pointer (some ⟨g1, 0, none⟩)) (by rfl) (by rfl) (gives_value _ fun _ => by kernel_rfl) ?_
  refine L_val (.agg (c2 ((p).x))) (by rfl) (by rfl) (gives_load g1 0 59 (cg2 (p)) (c2 ((p).x)) _ (by rfl) (fun _ h => h.blk 3 (by rfl)) (sl_g2x (p) _ _ (Sl.refl _)) Tryd.underlying57 (by rfl) (hi_2 _)) ?_
  refine L_val (.pointer (some ⟨g2, 0, none⟩)) (by rfl) (by rfl) (gives_value _ fun _ => by kernel_rfl) ?_
  refine L_val (.agg (c2 ((q).x))) (by rfl) (by rfl) (gives_load g2 0 59 (cg2 (q)) (c2 ((q).x)) _ (by rfl) (fun _ h => h.blk 2 (by rfl)) (sl_g2x (q) _ _ (Sl.refl _)) Tryd.underlying57 (by rfl) (hi_2 _)) ?_
  refine L_val (.bool false) (by rfl) (by rfl) (gives_eql (c2 ((p).x)) (c2 ((q).x)) false (by rfl) (by rfl) (by kernel_rfl) (fun w => eq_2_f (d := 9996) w hx)) ?_
  refine L_end ?_
  intro w5 hw5
  refine wp_cond_false (fr_at _ _ (by rfl) _) ?_
  refine wp_skip ?_
  change Code.wp _ _ _ _ _
  refine seq_flow (by kernel_rfl) hw5 [] [(g4, 59, (cg2 (0 : Pt F2))), (g3, 59, (cg2 (r))), (g2, 59, (cg2 (q))), (g1, 59, (cg2 (p)))] 30 (by rfl) ?_
  refine fT (i := 0) (u := (.pointer (some ⟨g2, 0, none⟩))) (g := (gives_value _ fun _ => by kernel_rfl)) (h := ?_)
  refine fT (i := 1) (g := (gives_load g2 0 59 (cg2 (q)) (c2 ((q).x)) _ (by rfl) (fun _ h => h.blk 2 (by rfl)) (sl_g2x (q) _ _ (Sl.refl _)) Tryd.underlying57 (by rfl) (hi_2 _))) (h := ?_)
  refine fT (i := 2) (u := (.pointer (some ⟨g1, 0, none⟩))) (g := (gives_value _ fun _ => by kernel_rfl)) (h := ?_)
  refine fT (i := 3) (g := (gives_load g1 0 59 (cg2 (p)) (c2 ((p).x)) _ (by rfl) (fun _ h => h.blk 3 (by rfl)) (sl_g2x (p) _ _ (Sl.refl _)) Tryd.underlying57 (by rfl) (hi_2 _))) (h := ?_)
  refine fT (i := 4) (g := (gives_call (vl := [.agg (c2 ((q).x)), .agg (c2 ((p).x))]) (by kernel_rfl) (by rfl) (fun w h => q_sub _ _ w (hG.keep h.below)))) (h := ?_)
  refine fT (i := 5) (u := (.pointer (some ⟨g3, 12, none⟩))) (g := (gives_value _ fun _ => by kernel_rfl)) (h := ?_)
  refine fT (i := 6) (g := (gives_load g3 12 59 (cg2 (r)) (c2 ((r).y)) _ (by rfl) (fun _ h => h.blk 1 (by rfl)) (sl_g2y (r) _ _ 12 (Sl.refl _) (by rfl)) Tryd.underlying57 (by rfl) (hi_2 _))) (h := ?_)
  refine fT (i := 7) (u := (.pointer (some ⟨g1, 12, none⟩))) (g := (gives_value _ fun _ => by kernel_rfl)) (h := ?_)
  refine fT (i := 8) (g := (gives_load g1 12 59 (cg2 (p)) (c2 ((p).y)) _ (by rfl) (fun _ h => h.blk 3 (by rfl)) (sl_g2y (p) _ _ 12 (Sl.refl _) (by rfl)) Tryd.underlying57 (by rfl) (hi_2 _))) (h := ?_)
  refine fT (i := 9) (g := (gives_call (vl := [.agg (c2 ((r).y)), .agg (c2 ((p).y))]) (by kernel_rfl) (by rfl) (fun w h => q_sub _ _ w (hG.keep h.below)))) (h := ?_)
  refine fT (i := 10) (g := (gives_call (vl := [.agg (c2 (((q).x) - ((p).x))), .agg (c2 (((r).y) - ((p).y)))]) (by kernel_rfl) (by rfl) (fun w h => q_mul _ _ w (hG.keep h.below)))) (h := ?_)
  refine fT (i := 11) (u := (.pointer (some ⟨g3, 0, none⟩))) (g := (gives_value _ fun _ => by kernel_rfl)) (h := ?_)
  refine fT (i := 12) (g := (gives_load g3 0 59 (cg2 (r)) (c2 ((r).x)) _ (by rfl) (fun _ h => h.blk 1 (by rfl)) (sl_g2x (r) _ _ (Sl.refl _)) Tryd.underlying57 (by rfl) (hi_2 _))) (h := ?_)
  refine fT (i := 13) (u := (.pointer (some ⟨g1, 0, none⟩))) (g := (gives_value _ fun _ => by kernel_rfl)) (h := ?_)
  refine fT (i := 14) (g := (gives_load g1 0 59 (cg2 (p)) (c2 ((p).x)) _ (by rfl) (fun _ h => h.blk 3 (by rfl)) (sl_g2x (p) _ _ (Sl.refl _)) Tryd.underlying57 (by rfl) (hi_2 _))) (h := ?_)
  refine fT (i := 15) (g := (gives_call (vl := [.agg (c2 ((r).x)), .agg (c2 ((p).x))]) (by kernel_rfl) (by rfl) (fun w h => q_sub _ _ w (hG.keep h.below)))) (h := ?_)
  refine fT (i := 16) (u := (.pointer (some ⟨g2, 12, none⟩))) (g := (gives_value _ fun _ => by kernel_rfl)) (h := ?_)
  refine fT (i := 17) (g := (gives_load g2 12 59 (cg2 (q)) (c2 ((q).y)) _ (by rfl) (fun _ h => h.blk 2 (by rfl)) (sl_g2y (q) _ _ 12 (Sl.refl _) (by rfl)) Tryd.underlying57 (by rfl) (hi_2 _))) (h := ?_)
  refine fT (i := 18) (u := (.pointer (some ⟨g1, 12, none⟩))) (g := (gives_value _ fun _ => by kernel_rfl)) (h := ?_)
  refine fT (i := 19) (g := (gives_load g1 12 59 (cg2 (p)) (c2 ((p).y)) _ (by rfl) (fun _ h => h.blk 3 (by rfl)) (sl_g2y (p) _ _ 12 (Sl.refl _) (by rfl)) Tryd.underlying57 (by rfl) (hi_2 _))) (h := ?_)
  refine fT (i := 20) (g := (gives_call (vl := [.agg (c2 ((q).y)), .agg (c2 ((p).y))]) (by kernel_rfl) (by rfl) (fun w h => q_sub _ _ w (hG.keep h.below)))) (h := ?_)
  refine fT (i := 21) (g := (gives_call (vl := [.agg (c2 (((r).x) - ((p).x))), .agg (c2 (((q).y) - ((p).y)))]) (by kernel_rfl) (by rfl) (fun w h => q_mul _ _ w (hG.keep h.below)))) (h := ?_)
  refine fT (i := 22) (u := (.bool true)) (g := (gives_eql (c2 ((((q).x) - ((p).x)) * (((r).y) - ((p).y)))) (c2 ((((r).x) - ((p).x)) * (((q).y) - ((p).y)))) true (by rfl) (by rfl) (by kernel_rfl) (fun w => eq_2_t (d := 9996) w he))) (h := ?_)
  refine fT (i := 23) (u := (.bool true)) (g := (gives_value _ fun _ => by rfl)) (h := ?_)
  refine fG (i := 24) (dj := 134) (g := (gL g1 59 (cg2 (p)) 3 Tryd.underlying59 (hi_g2 _))) (h := ?_)
  refine fG (i := 25) (dj := 134) (g := (gL g2 59 (cg2 (q)) 2 Tryd.underlying59 (hi_g2 _))) (h := ?_)
  refine fG (i := 26) (dj := 134) (g := (gL g3 59 (cg2 (r)) 1 Tryd.underlying59 (hi_g2 _))) (h := ?_)
  refine fG (i := 27) (dj := 134) (g := (gives_call (vl := [.agg (cg2 (p)), .agg (cg2 (q)), .agg (cg2 (r))]) (by kernel_rfl) (by rfl) (fun w h => k2_lambda _ _ _ w (hG.keep h.below) h9))) (h := ?_)
  refine fT (i := 28) (u := (.bool true)) (g := (gives_value _ fun _ => by rfl)) (h := ?_)
  refine fT (i := 29) (u := (.bool true)) (g := (gives_value _ fun _ => by rfl)) (h := ?_)
  refine flow_done (by kernel_rfl) ?_
  intro w6 hw6
  refine wp_ret ?_
  change bodyPost _ _ _ Exit.ret _ _
  refine (ret_tmp (by rfl) (by rfl) (by rfl) ⟨rfl, hw6.below⟩)
theorem k2_sides (p q r : Pt F2) (v : World) (hG : Glo v) (hp : OnC (F2.sm 4 4) p) (hq : OnC (F2.sm 4 4) q) (hr : r = -gAdd F2.inv p q) : Rets 43 #[.agg (cg2 p), .agg (cg2 q), .agg (cg2 r)] v (.bool true) := by
  rcases sd_ways ec2 F2.inv_zero hp hq hr with ⟨h1, he⟩ | ⟨h1, h2, he⟩ | ⟨h1, h2, h3, he⟩ | ⟨h1, h2, h3, h4, hx, he⟩ | ⟨h1, h2, h3, h4, hx, he, h9⟩ | ⟨h1, h2, h3, h4, hx, he, h9⟩
  · exact k2_sides1 p q r v hG h1 he
  · exact k2_sides2 p q r v hG h1 h2 he
  · exact k2_sides3 p q r v hG h1 h2 h3 he
  · exact k2_sides4 p q r v hG h1 h2 h3 h4 hx he
  · exact k2_sides5 p q r v hG h1 h2 h3 h4 hx he h9
  · exact k2_sides6 p q r v hG h1 h2 h3 h4 hx he h9
end Go.Proofs.YtifnnckbcjafgaaDoor
