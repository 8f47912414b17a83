/-
  Sums of points, as the program reckons them: over the field above.
-/
import Derived.Test.YtialfoccalobpaaDoorWBCt
namespace Go.Proofs.YtialfoccalobpaaDoor
set_option linter.unusedSimpArgs false
set_option linter.unusedVariables false
open Go.RowKit
abbrev cc_0 (p : J3 F2) : F2 := ((((p).x) * (((p).y) * ((p).y))) + (((p).x) * (((p).y) * ((p).y))))
abbrev cc_1 (p : J3 F2) : F2 := (((((p).x) * ((p).x)) + (((p).x) * ((p).x))) + (((p).x) * ((p).x)))
abbrev cc_2 (p q : J3 F2) : F2 := ((((q).x) * (((p).z) * ((p).z))) - (((p).x) * (((q).z) * ((q).z))))
abbrev cc_3 (p : J3 F2) : F2 := (((((p).y) * ((p).y)) * (((p).y) * ((p).y))) + ((((p).y) * ((p).y)) * (((p).y) * ((p).y))))
abbrev cc_4 (p q : J3 F2) : F2 := (((((q).y) * (((p).z) * ((p).z))) * ((p).z)) - ((((p).y) * (((q).z) * ((q).z))) * ((q).z)))
abbrev cc_5 (p : J3 F2) : F2 := ((cc_0 p) + (cc_0 p))
abbrev cc_6 (p : J3 F2) : F2 := ((cc_1 p) * (cc_1 p))
abbrev cc_7 (p : J3 F2) : F2 := ((cc_3 p) + (cc_3 p))
abbrev cc_8 (p : J3 F2) : F2 := ((cc_6 p) - (cc_5 p))
abbrev cc_9 (p : J3 F2) : F2 := ((cc_8 p) - (cc_5 p))
abbrev cc_10 (p : J3 F2) : F2 := ((cc_5 p) - (cc_9 p))
abbrev cc_11 (p : J3 F2) : F2 := ((cc_1 p) * (cc_10 p))
abbrev cc_12 (p : J3 F2) : F2 := ((cc_11 p) - (cc_7 p))
abbrev cc_13 (p : J3 F2) : F2 := ((cc_12 p) - (cc_7 p))
attribute [local irreducible] wpL wpF fr Code.wp bodyPost
set_option maxRecDepth 100000 in
set_option maxHeartbeats 4000000 in
theorem k2_quad (x : F2) (v : World) (hG : Glo v) : Rets 159 #[.agg (c2 (x))] v (.agg (c2 ((x + x) + (x + x)))) := by
  refine calls_fr1 Tryd.func159 rfl (by rfl : _ = 11) (by rfl) ?_
  have hw := Hbl.nil v
  refine seq_plain hw [0, 1] (by rfl) ?_
  refine L_box (.agg (c2 (x))) (by rfl) (by rfl) (by rfl) (c2 (x)) (by rfl) ?_; intro g1
  refine L_alloc _ (by rfl) (by rfl) z_2 (c2 (0 : F2)) rfl ?_; intro g2
  refine L_end ?_
  intro w1 hw1
  refine seq_plain hw1 [0, 1, 2, 3, 4] (by rfl) ?_
  refine L_val (.agg (c2 (x))) (by rfl) (by rfl) (gL g1 37 (c2 (x)) 1 Tryd.underlying37 (hi_2 _)) ?_
  refine L_val (.iface 37 (.agg (c2 (x)))) (by rfl) (by rfl) gk ?_
  refine L_val (.agg (c2 (x))) (by rfl) (by rfl) (gL g1 37 (c2 (x)) 1 Tryd.underlying37 (hi_2 _)) ?_
  refine L_val (.agg (c2 ((x) + (x)))) (by rfl) (by rfl) (gives_invoke (vl := [.agg (c2 (x))]) (by rfl) (me2_Add _) (by kernel_rfl) (by rfl) (fun w h => q_add _ _ w (hG.keep h.below))) ?_
  refine L_store (t := 37) 1 g1 _ _ (by rfl) (by rfl) (by rfl) (by rfl) (by rfl) (hi_2 _) ((c2_size _).trans (c2_size _).symm) (c2_one _) ?_
  simp only [List.set_cons_zero, List.set_cons_succ]
  refine L_end ?_
  intro w2 hw2
  refine seq_plain hw2 [0, 1, 2, 3, 4] (by rfl) ?_
  refine L_val (.agg (c2 ((x) + (x)))) (by rfl) (by rfl) (gL g1 37 (c2 ((x) + (x))) 1 Tryd.underlying37 (hi_2 _)) ?_
  refine L_val (.iface 37 (.agg (c2 ((x) + (x))))) (by rfl) (by rfl) gk ?_
  refine L_val (.agg (c2 ((x) + (x)))) (by rfl) (by rfl) (gL g1 37 (c2 ((x) + (x))) 1 Tryd.underlying37 (hi_2 _)) ?_
  refine L_val (.agg (c2 (((x) + (x)) + ((x) + (x))))) (by rfl) (by rfl) (gives_invoke (vl := [.agg (c2 ((x) + (x)))]) (by rfl) (me2_Add _) (by kernel_rfl) (by rfl) (fun w h => q_add _ _ w (hG.keep h.below))) ?_
  refine L_store (t := 37) 0 g2 _ _ (by rfl) (by rfl) (by rfl) (by rfl) (by rfl) (hi_2 _) ((c2_size _).trans (c2_size _).symm) (c2_one _) ?_
  simp only [List.set_cons_zero, List.set_cons_succ]
  refine L_end ?_
  intro w3 hw3
  refine wp_ret ?_
  change bodyPost _ _ _ Exit.ret _ _
  refine (ret_cell (by rfl) (by rfl) (by rfl) (hw3.blk 0 (by rfl)) Tryd.underlying37 (by rfl) (hi_2 _) ⟨?_, hw3.below⟩)
  rfl
set_option maxRecDepth 100000 in
set_option maxHeartbeats 4000000 in
theorem k2_of (x y u : F2) (v : World) (hG : Glo v) : Rets 137 #[.agg (c2 (x)), .agg (c2 (y)), .agg (c2 (u))] v (.agg (cp2 (J3.mk x y u))) := by
  refine calls_fr3 Tryd.func137 rfl (by rfl : _ = 11) (by rfl) ?_
  have hw := Hbl.nil v
  refine seq_plain hw [0, 1, 2, 3] (by rfl) ?_
  refine L_box (.agg (c2 (x))) (by rfl) (by rfl) (by rfl) (c2 (x)) (by rfl) ?_; intro g1
  refine L_box (.agg (c2 (y))) (by rfl) (by rfl) (by rfl) (c2 (y)) (by rfl) ?_; intro g2
  refine L_box (.agg (c2 (u))) (by rfl) (by rfl) (by rfl) (c2 (u)) (by rfl) ?_; intro g3
  refine L_alloc _ (by rfl) (by rfl) z_p2 (cp2 (0 : J3 F2)) rfl ?_; intro g4
  refine L_end ?_
  intro w1 hw1
  refine seq_plain hw1 [0, 1, 2, 3, 4] (by rfl) ?_
  refine L_val (.agg (c2 (x))) (by rfl) (by rfl) (gL g1 37 (c2 (x)) 3 Tryd.underlying37 (hi_2 _)) ?_
  refine L_val (.agg (c2 (y))) (by rfl) (by rfl) (gL g2 37 (c2 (y)) 2 Tryd.underlying37 (hi_2 _)) ?_
  refine L_val (.agg (c2 (u))) (by rfl) (by rfl) (gL g3 37 (c2 (u)) 1 Tryd.underlying37 (hi_2 _)) ?_
  refine L_val (.agg (cp2 (⟨x, y, u⟩ : J3 F2))) (by rfl) (by rfl) (gb_p2 [(0, (c2 (x))), (1, (c2 (y))), (2, (c2 (u)))] ⟨congrArg some (c2_size _).symm, congrArg some (c2_size _).symm, congrArg some (c2_size _).symm, trivial⟩ (by rfl) (cp2 (⟨x, y, u⟩ : J3 F2)) (by rfl)) ?_
  refine L_store (t := 131) 0 g4 _ _ (by rfl) (by rfl) (by rfl) (by rfl) (by rfl) (hi_p2 _) ((cp2_size _).trans (cp2_size _).symm) (cp2_one _) ?_
  simp only [List.set_cons_zero, List.set_cons_succ]
  refine L_end ?_
  intro w2 hw2
  refine wp_ret ?_
  change bodyPost _ _ _ Exit.ret _ _
  refine (ret_cell (by rfl) (by rfl) (by rfl) (hw2.blk 0 (by rfl)) Tryd.underlying131 (by rfl) (hi_p2 _) ⟨?_, hw2.below⟩)
  rfl
set_option maxRecDepth 100000 in
set_option maxHeartbeats 4000000 in
theorem k2_dbl_z (p : J3 F2) (v : World) (hG : Glo v) (hz : p.z = 0) : Rets 155 #[.agg (cp2 (p))] v (.agg (cp2 (p.dbl))) := by
  refine calls_fr1 Tryd.func155 rfl (by rfl : _ = 76) (by rfl) ?_
  have hw := Hbl.nil v
  refine seq_plain hw [0, 1] (by rfl) ?_
  refine L_box (.agg (cp2 (p))) (by rfl) (by rfl) (by rfl) (cp2 (p)) (by rfl) ?_; intro g1
  refine L_alloc _ (by rfl) (by rfl) z_p2 (cp2 (0 : J3 F2)) rfl ?_; intro g2
  refine L_end ?_
  intro w1 hw1
  refine wp_seq ?_
  refine seq_plain hw1 [0, 1, 2, 3] (by rfl) ?_
  refine L_val (.pointer (some ⟨g1, 24, none⟩)) (by rfl) (by rfl) gk ?_
  refine L_val (.agg (c2 ((p).z))) (by rfl) (by rfl) (gives_load g1 24 131 (cp2 (p)) (c2 ((p).z)) _ (by rfl) (fun _ h => h.blk 1 (by rfl)) (sl_p2z (p) _ _ 24 (Sl.refl _) (by rfl)) Tryd.underlying37 (by rfl) (hi_2 _)) ?_
  refine L_val (.iface 37 (.agg (c2 ((p).z)))) (by rfl) (by rfl) gk ?_
  refine L_val (.bool true) (by rfl) (by rfl) (gives_invoke (vl := []) (by rfl) (me2_Zero _) (by kernel_rfl) (by rfl) (fun w h => q_zero_t w (hG.keep h.below) hz)) ?_
  refine L_end ?_
  intro w2 hw2
  refine wp_cond_true (fr_at _ _ (by rfl) _) ?_
  refine seq_plain hw2 [0, 1] (by rfl) ?_
  refine L_val (.agg (cp2 (p))) (by rfl) (by rfl) (gL g1 131 (cp2 (p)) 1 Tryd.underlying131 (hi_p2 _)) ?_
  refine L_store (t := 131) 0 g2 _ _ (by rfl) (by rfl) (by rfl) (by rfl) (by rfl) (hi_p2 _) ((cp2_size _).trans (cp2_size _).symm) (cp2_one _) ?_
  simp only [List.set_cons_zero, List.set_cons_succ]
  refine L_end ?_
  intro w3 hw3
  refine wp_ret ?_
  change bodyPost _ _ _ Exit.ret _ _
  refine (ret_cell (by rfl) (by rfl) (by rfl) (hw3.blk 0 (by rfl)) Tryd.underlying131 (by rfl) (hi_p2 _) ⟨?_, hw3.below⟩)
  refine congrArg (fun z : J3 F2 => Ending.returned (.agg (cp2 z))) ?_
  exact (if_pos hz).symm
set_option maxRecDepth 100000 in
set_option maxHeartbeats 4000000 in
theorem k2_dbl_n (p : J3 F2) (v : World) (hG : Glo v) (hz : p.z ≠ 0) : Rets 155 #[.agg (cp2 (p))] v (.agg (cp2 (p.dbl))) := by
  refine calls_fr1 Tryd.func155 rfl (by rfl : _ = 76) (by rfl) ?_
  have hw := Hbl.nil v
  refine seq_plain hw [0, 1] (by rfl) ?_
  refine L_box (.agg (cp2 (p))) (by rfl) (by rfl) (by rfl) (cp2 (p)) (by rfl) ?_; intro g1
  refine L_alloc _ (by rfl) (by rfl) z_p2 (cp2 (0 : J3 F2)) rfl ?_; intro g2
  refine L_end ?_
  intro w1 hw1
  refine wp_seq ?_
  refine seq_plain hw1 [0, 1, 2, 3] (by rfl) ?_
  refine L_val (.pointer (some ⟨g1, 24, none⟩)) (by rfl) (by rfl) gk ?_
  refine L_val (.agg (c2 ((p).z))) (by rfl) (by rfl) (gives_load g1 24 131 (cp2 (p)) (c2 ((p).z)) _ (by rfl) (fun _ h => h.blk 1 (by rfl)) (sl_p2z (p) _ _ 24 (Sl.refl _) (by rfl)) Tryd.underlying37 (by rfl) (hi_2 _)) ?_
  refine L_val (.iface 37 (.agg (c2 ((p).z)))) (by rfl) (by rfl) gk ?_
  refine L_val (.bool false) (by rfl) (by rfl) (gives_invoke (vl := []) (by rfl) (me2_Zero _) (by kernel_rfl) (by rfl) (fun w h => q_zero_f w (hG.keep h.below) hz)) ?_
  refine L_end ?_
  intro w2 hw2
  refine wp_cond_false (fr_at _ _ (by rfl) _) ?_
  refine wp_skip ?_
  change Code.wp _ _ _ _ _
  refine seq_plain hw2 [0, 1, 2, 3, 4, 5] (by rfl) ?_
  refine L_val (.pointer (some ⟨g1, 0, none⟩)) (by rfl) (by rfl) gk ?_
  refine L_val (.agg (c2 ((p).x))) (by rfl) (by rfl) (gives_load g1 0 131 (cp2 (p)) (c2 ((p).x)) _ (by rfl) (fun _ h => h.blk 1 (by rfl)) (sl_p2x (p) _ _ (Sl.refl _)) Tryd.underlying37 (by rfl) (hi_2 _)) ?_
  refine L_val (.iface 37 (.agg (c2 ((p).x)))) (by rfl) (by rfl) gk ?_
  refine L_val (.agg (c2 (((p).x) * ((p).x)))) (by rfl) (by rfl) (gives_invoke (vl := []) (by rfl) (me2_Square _) (by kernel_rfl) (by rfl) (fun w h => q_square _ w (hG.keep h.below))) ?_
  refine L_alloc _ (by rfl) (by rfl) z_2 (c2 (0 : F2)) rfl ?_; intro g3
  refine L_store (t := 37) 0 g3 _ _ (by rfl) (by rfl) (by rfl) (by rfl) (by rfl) (hi_2 _) ((c2_size _).trans (c2_size _).symm) (c2_one _) ?_
  simp only [List.set_cons_zero, List.set_cons_succ]
  refine L_end ?_
  intro w3 hw3
  refine seq_flow (by kernel_rfl) hw3 [] [(g3, 37, (c2 (((p).x) * ((p).x)))), (g2, 131, (cp2 (0 : J3 F2))), (g1, 131, (cp2 (p)))] 9 (by rfl) ?_
  refine fT (i := 0) (g := (gL g3 37 (c2 (((p).x) * ((p).x))) 0 Tryd.underlying37 (hi_2 _))) (h := ?_)
  refine fT (i := 1) (u := (.iface 37 (.agg (c2 (((p).x) * ((p).x)))))) (g := gk) (h := ?_)
  refine fT (i := 2) (g := (gL g3 37 (c2 (((p).x) * ((p).x))) 0 Tryd.underlying37 (hi_2 _))) (h := ?_)
  refine fT (i := 3) (g := (gives_invoke (vl := [.agg (c2 (((p).x) * ((p).x)))]) (by rfl) (me2_Add _) (by kernel_rfl) (by rfl) (fun w h => q_add _ _ w (hG.keep h.below)))) (h := ?_)
  refine fT (i := 4) (u := (.iface 37 (.agg (c2 ((((p).x) * ((p).x)) + (((p).x) * ((p).x))))))) (g := gk) (h := ?_)
  refine fT (i := 5) (g := (gL g3 37 (c2 (((p).x) * ((p).x))) 0 Tryd.underlying37 (hi_2 _))) (h := ?_)
  refine fT (i := 6) (g := (gives_invoke (vl := [.agg (c2 (((p).x) * ((p).x)))]) (by rfl) (me2_Add _) (by kernel_rfl) (by rfl) (fun w h => q_add _ _ w (hG.keep h.below)))) (h := ?_)
  refine flow_one 7 (by kernel_rfl) ?_
  refine F_alloc _ (by rfl) (by rfl) z_2 (c2 (0 : F2)) rfl (List.Sublist.refl _) ?_; intro g4
  refine flow_one 8 (by kernel_rfl) ?_
  refine F_store (t := 37) 0 g4 _ _ (by rfl) (by rfl) (by rfl) (by rfl) (by rfl) (hi_2 _) ((c2_size _).trans (c2_size _).symm) (c2_one _) (.inr (List.Sublist.cons _ (List.Sublist.refl _))) ?_
  simp only [List.set_cons_zero, List.set_cons_succ]
  refine flow_done (by kernel_rfl) ?_
  intro w4 hw4
  refine seq_plain hw4 [0, 1, 2, 3, 4, 5] (by rfl) ?_
  refine L_val (.pointer (some ⟨g1, 12, none⟩)) (by rfl) (by rfl) gk ?_
  refine L_val (.agg (c2 ((p).y))) (by rfl) (by rfl) (gives_load g1 12 131 (cp2 (p)) (c2 ((p).y)) _ (by rfl) (fun _ h => h.blk 3 (by rfl)) (sl_p2y (p) _ _ 12 (Sl.refl _) (by rfl)) Tryd.underlying37 (by rfl) (hi_2 _)) ?_
  refine L_val (.iface 37 (.agg (c2 ((p).y)))) (by rfl) (by rfl) gk ?_
  refine L_val (.agg (c2 (((p).y) * ((p).y)))) (by rfl) (by rfl) (gives_invoke (vl := []) (by rfl) (me2_Square _) (by kernel_rfl) (by rfl) (fun w h => q_square _ w (hG.keep h.below))) ?_
  refine L_alloc _ (by rfl) (by rfl) z_2 (c2 (0 : F2)) rfl ?_; intro g5
  refine L_store (t := 37) 0 g5 _ _ (by rfl) (by rfl) (by rfl) (by rfl) (by rfl) (hi_2 _) ((c2_size _).trans (c2_size _).symm) (c2_one _) ?_
  simp only [List.set_cons_zero, List.set_cons_succ]
  refine L_end ?_
  intro w5 hw5
  refine seq_plain hw5 [0, 1, 2, 3, 4, 5, 6, 7] (by rfl) ?_
  refine L_val (.pointer (some ⟨g1, 0, none⟩)) (by rfl) (by rfl) gk ?_
  refine L_val (.agg (c2 ((p).x))) (by rfl) (by rfl) (gives_load g1 0 131 (cp2 (p)) (c2 ((p).x)) _ (by rfl) (fun _ h => h.blk 4 (by rfl)) (sl_p2x (p) _ _ (Sl.refl _)) Tryd.underlying37 (by rfl) (hi_2 _)) ?_
  refine L_val (.iface 37 (.agg (c2 ((p).x)))) (by rfl) (by rfl) gk ?_
  refine L_val (.agg (c2 (((p).y) * ((p).y)))) (by rfl) (by rfl) (gL g5 37 (c2 (((p).y) * ((p).y))) 0 Tryd.underlying37 (hi_2 _)) ?_
  refine L_val (.agg (c2 (((p).x) * (((p).y) * ((p).y))))) (by rfl) (by rfl) (gives_invoke (vl := [.agg (c2 (((p).y) * ((p).y)))]) (by rfl) (me2_Mul _) (by kernel_rfl) (by rfl) (fun w h => q_mul _ _ w (hG.keep h.below))) ?_
  refine L_val (.agg (c2 (cc_5 p))) (by rfl) (by rfl) (gives_call (vl := [.agg (c2 (((p).x) * (((p).y) * ((p).y))))]) (by kernel_rfl) (by rfl) (fun w h => k2_quad _ w (hG.keep h.below))) ?_
  refine L_alloc _ (by rfl) (by rfl) z_2 (c2 (0 : F2)) rfl ?_; intro g6
  refine L_store (t := 37) 0 g6 _ _ (by rfl) (by rfl) (by rfl) (by rfl) (by rfl) (hi_2 _) ((c2_size _).trans (c2_size _).symm) (c2_one _) ?_
  simp only [List.set_cons_zero, List.set_cons_succ]
  refine L_end ?_
  intro w6 hw6
  refine seq_flow (by kernel_rfl) hw6 [] [(g6, 37, (c2 (cc_5 p))), (g5, 37, (c2 (((p).y) * ((p).y)))), (g4, 37, (c2 (cc_1 p))), (g3, 37, (c2 (((p).x) * ((p).x)))), (g2, 131, (cp2 (0 : J3 F2))), (g1, 131, (cp2 (p)))] 11 (by rfl) ?_
  refine fT (i := 0) (g := (gL g4 37 (c2 (cc_1 p)) 2 Tryd.underlying37 (hi_2 _))) (h := ?_)
  refine fT (i := 1) (u := (.iface 37 (.agg (c2 (cc_1 p))))) (g := gk) (h := ?_)
  refine fT (i := 2) (g := (gives_invoke (vl := []) (by rfl) (me2_Square _) (by kernel_rfl) (by rfl) (fun w h => q_square _ w (hG.keep h.below)))) (h := ?_)
  refine fT (i := 3) (u := (.iface 37 (.agg (c2 (cc_6 p))))) (g := gk) (h := ?_)
  refine fT (i := 4) (g := (gL g6 37 (c2 (cc_5 p)) 0 Tryd.underlying37 (hi_2 _))) (h := ?_)
  refine fT (i := 5) (g := (gives_invoke (vl := [.agg (c2 (cc_5 p))]) (by rfl) (me2_Sub _) (by kernel_rfl) (by rfl) (fun w h => q_sub _ _ w (hG.keep h.below)))) (h := ?_)
  refine fT (i := 6) (u := (.iface 37 (.agg (c2 (cc_8 p))))) (g := gk) (h := ?_)
  refine fT (i := 7) (g := (gL g6 37 (c2 (cc_5 p)) 0 Tryd.underlying37 (hi_2 _))) (h := ?_)
  refine fT (i := 8) (g := (gives_invoke (vl := [.agg (c2 (cc_5 p))]) (by rfl) (me2_Sub _) (by kernel_rfl) (by rfl) (fun w h => q_sub _ _ w (hG.keep h.below)))) (h := ?_)
  refine flow_one 9 (by kernel_rfl) ?_
  refine F_alloc _ (by rfl) (by rfl) z_2 (c2 (0 : F2)) rfl (List.Sublist.refl _) ?_; intro g7
  refine flow_one 10 (by kernel_rfl) ?_
  refine F_store (t := 37) 0 g7 _ _ (by rfl) (by rfl) (by rfl) (by rfl) (by rfl) (hi_2 _) ((c2_size _).trans (c2_size _).symm) (c2_one _) (.inr (List.Sublist.cons _ (List.Sublist.refl _))) ?_
  simp only [List.set_cons_zero, List.set_cons_succ]
  refine flow_done (by kernel_rfl) ?_
  intro w7 hw7
  refine seq_plain hw7 [0, 1, 2, 3, 4, 5] (by rfl) ?_
  refine L_val (.agg (c2 (((p).y) * ((p).y)))) (by rfl) (by rfl) (gL g5 37 (c2 (((p).y) * ((p).y))) 2 Tryd.underlying37 (hi_2 _)) ?_
  refine L_val (.iface 37 (.agg (c2 (((p).y) * ((p).y))))) (by rfl) (by rfl) gk ?_
  refine L_val (.agg (c2 ((((p).y) * ((p).y)) * (((p).y) * ((p).y))))) (by rfl) (by rfl) (gives_invoke (vl := []) (by rfl) (me2_Square _) (by kernel_rfl) (by rfl) (fun w h => q_square _ w (hG.keep h.below))) ?_
  refine L_val (.agg (c2 (cc_7 p))) (by rfl) (by rfl) (gives_call (vl := [.agg (c2 ((((p).y) * ((p).y)) * (((p).y) * ((p).y))))]) (by kernel_rfl) (by rfl) (fun w h => k2_quad _ w (hG.keep h.below))) ?_
  refine L_alloc _ (by rfl) (by rfl) z_2 (c2 (0 : F2)) rfl ?_; intro g8
  refine L_store (t := 37) 0 g8 _ _ (by rfl) (by rfl) (by rfl) (by rfl) (by rfl) (hi_2 _) ((c2_size _).trans (c2_size _).symm) (c2_one _) ?_
  simp only [List.set_cons_zero, List.set_cons_succ]
  refine L_end ?_
  intro w8 hw8
  refine seq_flow (by kernel_rfl) hw8 [] [(g8, 37, (c2 (cc_7 p))), (g7, 37, (c2 (cc_9 p))), (g6, 37, (c2 (cc_5 p))), (g5, 37, (c2 (((p).y) * ((p).y)))), (g4, 37, (c2 (cc_1 p))), (g3, 37, (c2 (((p).x) * ((p).x)))), (g2, 131, (cp2 (0 : J3 F2))), (g1, 131, (cp2 (p)))] 15 (by rfl) ?_
  refine fT (i := 0) (g := (gL g4 37 (c2 (cc_1 p)) 4 Tryd.underlying37 (hi_2 _))) (h := ?_)
  refine fT (i := 1) (u := (.iface 37 (.agg (c2 (cc_1 p))))) (g := gk) (h := ?_)
  refine fT (i := 2) (g := (gL g6 37 (c2 (cc_5 p)) 2 Tryd.underlying37 (hi_2 _))) (h := ?_)
  refine fT (i := 3) (u := (.iface 37 (.agg (c2 (cc_5 p))))) (g := gk) (h := ?_)
  refine fT (i := 4) (g := (gL g7 37 (c2 (cc_9 p)) 1 Tryd.underlying37 (hi_2 _))) (h := ?_)
  refine fT (i := 5) (g := (gives_invoke (vl := [.agg (c2 (cc_9 p))]) (by rfl) (me2_Sub _) (by kernel_rfl) (by rfl) (fun w h => q_sub _ _ w (hG.keep h.below)))) (h := ?_)
  refine fT (i := 6) (g := (gives_invoke (vl := [.agg (c2 (cc_10 p))]) (by rfl) (me2_Mul _) (by kernel_rfl) (by rfl) (fun w h => q_mul _ _ w (hG.keep h.below)))) (h := ?_)
  refine fT (i := 7) (u := (.iface 37 (.agg (c2 (cc_11 p))))) (g := gk) (h := ?_)
  refine fT (i := 8) (g := (gL g8 37 (c2 (cc_7 p)) 0 Tryd.underlying37 (hi_2 _))) (h := ?_)
  refine fT (i := 9) (g := (gives_invoke (vl := [.agg (c2 (cc_7 p))]) (by rfl) (me2_Sub _) (by kernel_rfl) (by rfl) (fun w h => q_sub _ _ w (hG.keep h.below)))) (h := ?_)
  refine fT (i := 10) (u := (.iface 37 (.agg (c2 (cc_12 p))))) (g := gk) (h := ?_)
  refine fT (i := 11) (g := (gL g8 37 (c2 (cc_7 p)) 0 Tryd.underlying37 (hi_2 _))) (h := ?_)
  refine fT (i := 12) (g := (gives_invoke (vl := [.agg (c2 (cc_7 p))]) (by rfl) (me2_Sub _) (by kernel_rfl) (by rfl) (fun w h => q_sub _ _ w (hG.keep h.below)))) (h := ?_)
  refine flow_one 13 (by kernel_rfl) ?_
  refine F_alloc _ (by rfl) (by rfl) z_2 (c2 (0 : F2)) rfl (List.Sublist.refl _) ?_; intro g9
  refine flow_one 14 (by kernel_rfl) ?_
  refine F_store (t := 37) 0 g9 _ _ (by rfl) (by rfl) (by rfl) (by rfl) (by rfl) (hi_2 _) ((c2_size _).trans (c2_size _).symm) (c2_one _) (.inr (List.Sublist.cons _ (List.Sublist.refl _))) ?_
  simp only [List.set_cons_zero, List.set_cons_succ]
  refine flow_done (by kernel_rfl) ?_
  intro w9 hw9
  refine seq_plain hw9 [0, 1, 2, 3, 4, 5, 6, 7] (by rfl) ?_
  refine L_val (.pointer (some ⟨g1, 12, none⟩)) (by rfl) (by rfl) gk ?_
  refine L_val (.agg (c2 ((p).y))) (by rfl) (by rfl) (gives_load g1 12 131 (cp2 (p)) (c2 ((p).y)) _ (by rfl) (fun _ h => h.blk 8 (by rfl)) (sl_p2y (p) _ _ 12 (Sl.refl _) (by rfl)) Tryd.underlying37 (by rfl) (hi_2 _)) ?_
  refine L_val (.iface 37 (.agg (c2 ((p).y)))) (by rfl) (by rfl) gk ?_
  refine L_val (.pointer (some ⟨g1, 24, none⟩)) (by rfl) (by rfl) gk ?_
  refine L_val (.agg (c2 ((p).z))) (by rfl) (by rfl) (gives_load g1 24 131 (cp2 (p)) (c2 ((p).z)) _ (by rfl) (fun _ h => h.blk 8 (by rfl)) (sl_p2z (p) _ _ 24 (Sl.refl _) (by rfl)) Tryd.underlying37 (by rfl) (hi_2 _)) ?_
  refine L_val (.agg (c2 (((p).y) * ((p).z)))) (by rfl) (by rfl) (gives_invoke (vl := [.agg (c2 ((p).z))]) (by rfl) (me2_Mul _) (by kernel_rfl) (by rfl) (fun w h => q_mul _ _ w (hG.keep h.below))) ?_
  refine L_alloc _ (by rfl) (by rfl) z_2 (c2 (0 : F2)) rfl ?_; intro g10
  refine L_store (t := 37) 0 g10 _ _ (by rfl) (by rfl) (by rfl) (by rfl) (by rfl) (hi_2 _) ((c2_size _).trans (c2_size _).symm) (c2_one _) ?_
  simp only [List.set_cons_zero, List.set_cons_succ]
  refine L_end ?_
  intro w10 hw10
  refine seq_flow (by kernel_rfl) hw10 [] [(g10, 37, (c2 (((p).y) * ((p).z)))), (g9, 37, (c2 (cc_13 p))), (g8, 37, (c2 (cc_7 p))), (g7, 37, (c2 (cc_9 p))), (g6, 37, (c2 (cc_5 p))), (g5, 37, (c2 (((p).y) * ((p).y)))), (g4, 37, (c2 (cc_1 p))), (g3, 37, (c2 (((p).x) * ((p).x)))), (g1, 131, (cp2 (p)))] 8 (by rfl) ?_
  refine fTs (i := 0) (e := (List.Sublist.cons_cons _ (List.Sublist.cons_cons _ (List.Sublist.cons_cons _ (List.Sublist.cons_cons _ (List.Sublist.cons_cons _ (List.Sublist.cons_cons _ (List.Sublist.cons_cons _ (List.Sublist.cons_cons _ (List.Sublist.cons _ (List.Sublist.refl _))))))))))) (g := (gL g7 37 (c2 (cc_9 p)) 3 Tryd.underlying37 (hi_2 _))) (h := ?_)
  refine fTs (i := 1) (e := (List.Sublist.cons_cons _ (List.Sublist.cons_cons _ (List.Sublist.cons_cons _ (List.Sublist.cons_cons _ (List.Sublist.cons_cons _ (List.Sublist.cons_cons _ (List.Sublist.cons_cons _ (List.Sublist.cons_cons _ (List.Sublist.cons _ (List.Sublist.refl _))))))))))) (g := (gL g9 37 (c2 (cc_13 p)) 1 Tryd.underlying37 (hi_2 _))) (h := ?_)
  refine fTs (i := 2) (e := (List.Sublist.cons_cons _ (List.Sublist.cons_cons _ (List.Sublist.cons_cons _ (List.Sublist.cons_cons _ (List.Sublist.cons_cons _ (List.Sublist.cons_cons _ (List.Sublist.cons_cons _ (List.Sublist.cons_cons _ (List.Sublist.cons _ (List.Sublist.refl _))))))))))) (g := (gL g10 37 (c2 (((p).y) * ((p).z))) 0 Tryd.underlying37 (hi_2 _))) (h := ?_)
  refine fTs (i := 3) (u := (.iface 37 (.agg (c2 (((p).y) * ((p).z)))))) (e := (List.Sublist.cons_cons _ (List.Sublist.cons_cons _ (List.Sublist.cons_cons _ (List.Sublist.cons_cons _ (List.Sublist.cons_cons _ (List.Sublist.cons_cons _ (List.Sublist.cons_cons _ (List.Sublist.cons_cons _ (List.Sublist.cons _ (List.Sublist.refl _))))))))))) (g := gk) (h := ?_)
  refine fTs (i := 4) (e := (List.Sublist.cons_cons _ (List.Sublist.cons_cons _ (List.Sublist.cons_cons _ (List.Sublist.cons_cons _ (List.Sublist.cons_cons _ (List.Sublist.cons_cons _ (List.Sublist.cons_cons _ (List.Sublist.cons_cons _ (List.Sublist.cons _ (List.Sublist.refl _))))))))))) (g := (gL g10 37 (c2 (((p).y) * ((p).z))) 0 Tryd.underlying37 (hi_2 _))) (h := ?_)
  refine fTs (i := 5) (e := (List.Sublist.cons_cons _ (List.Sublist.cons_cons _ (List.Sublist.cons_cons _ (List.Sublist.cons_cons _ (List.Sublist.cons_cons _ (List.Sublist.cons_cons _ (List.Sublist.cons_cons _ (List.Sublist.cons_cons _ (List.Sublist.cons _ (List.Sublist.refl _))))))))))) (g := (gives_invoke (vl := [.agg (c2 (((p).y) * ((p).z)))]) (by rfl) (me2_Add _) (by kernel_rfl) (by rfl) (fun w h => q_add _ _ w (hG.keep h.below)))) (h := ?_)
  refine fTs (i := 6) (u := (.agg (cp2 (⟨(cc_8 p) - (cc_5 p), (cc_12 p) - (cc_7 p), (((p).y) * ((p).z)) + (((p).y) * ((p).z))⟩ : J3 F2)))) (e := (List.Sublist.cons_cons _ (List.Sublist.cons_cons _ (List.Sublist.cons_cons _ (List.Sublist.cons_cons _ (List.Sublist.cons_cons _ (List.Sublist.cons_cons _ (List.Sublist.cons_cons _ (List.Sublist.cons_cons _ (List.Sublist.cons _ (List.Sublist.refl _))))))))))) (g := (gb_p2 [(0, (c2 (cc_9 p))), (1, (c2 (cc_13 p))), (2, (c2 ((((p).y) * ((p).z)) + (((p).y) * ((p).z)))))] ⟨congrArg some (c2_size _).symm, congrArg some (c2_size _).symm, congrArg some (c2_size _).symm, trivial⟩ (by rfl) (cp2 (⟨(cc_8 p) - (cc_5 p), (cc_12 p) - (cc_7 p), (((p).y) * ((p).z)) + (((p).y) * ((p).z))⟩ : J3 F2)) (by rfl))) (h := ?_)
  refine flow_one 7 (by kernel_rfl) ?_
  refine F_store (t := 131) 8 g2 _ _ (by rfl) (by rfl) (by rfl) (by rfl) (by rfl) (hi_p2 _) ((cp2_size _).trans (cp2_size _).symm) (cp2_one _) (.inr (List.Sublist.cons_cons _ (List.Sublist.cons_cons _ (List.Sublist.cons_cons _ (List.Sublist.cons_cons _ (List.Sublist.cons_cons _ (List.Sublist.cons_cons _ (List.Sublist.cons_cons _ (List.Sublist.cons_cons _ (List.Sublist.cons _ (List.Sublist.refl _))))))))))) ?_
  simp only [List.set_cons_zero, List.set_cons_succ]
  refine flow_done (by kernel_rfl) ?_
  intro w11 hw11
  refine wp_ret ?_
  change bodyPost _ _ _ Exit.ret _ _
  refine (ret_cell (by rfl) (by rfl) (by rfl) (hw11.blk 8 (by rfl)) Tryd.underlying131 (by rfl) (hi_p2 _) ⟨?_, hw11.below⟩)
  refine congrArg (fun z : J3 F2 => Ending.returned (.agg (cp2 z))) ?_
  exact (if_neg hz).symm
theorem k2_dbl (p : J3 F2) (v : World) (hG : Glo v) : Rets 155 #[.agg (cp2 (p))] v (.agg (cp2 (p.dbl))) := by
  by_cases hz : p.z = 0
  · exact k2_dbl_z p v hG hz
  · exact k2_dbl_n p v hG hz
set_option maxRecDepth 100000 in
set_option maxHeartbeats 4000000 in
theorem k2_up_z (p : J3 F2) (h : F2) (v : World) (hG : Glo v) (hz : h = 0) : Rets 136 #[.agg (cp2 (p)), .agg (c2 (h))] v (.agg (cp2 (p.dbl))) := by
  refine calls_fr2 Tryd.func136 rfl (by rfl : _ = 11) (by rfl) ?_
  have hw := Hbl.nil v
  refine seq_plain hw [0, 1, 2] (by rfl) ?_
  refine L_box (.agg (cp2 (p))) (by rfl) (by rfl) (by rfl) (cp2 (p)) (by rfl) ?_; intro g1
  refine L_box (.agg (c2 (h))) (by rfl) (by rfl) (by rfl) (c2 (h)) (by rfl) ?_; intro g2
  refine L_alloc _ (by rfl) (by rfl) z_p2 (cp2 (0 : J3 F2)) rfl ?_; intro g3
  refine L_end ?_
  intro w1 hw1
  refine wp_seq ?_
  refine seq_plain hw1 [0, 1, 2] (by rfl) ?_
  refine L_val (.agg (c2 (h))) (by rfl) (by rfl) (gL g2 37 (c2 (h)) 1 Tryd.underlying37 (hi_2 _)) ?_
  refine L_val (.iface 37 (.agg (c2 (h)))) (by rfl) (by rfl) gk ?_
  refine L_val (.bool true) (by rfl) (by rfl) (gives_invoke (vl := []) (by rfl) (me2_Zero _) (by kernel_rfl) (by rfl) (fun w h => q_zero_t w (hG.keep h.below) hz)) ?_
  refine L_end ?_
  intro w2 hw2
  refine wp_cond_true (fr_at _ _ (by rfl) _) ?_
  refine seq_plain hw2 [0, 1, 2] (by rfl) ?_
  refine L_val (.agg (cp2 (p))) (by rfl) (by rfl) (gL g1 131 (cp2 (p)) 2 Tryd.underlying131 (hi_p2 _)) ?_
  refine L_val (.agg (cp2 (J3.dbl (p)))) (by rfl) (by rfl) (gives_call (vl := [.agg (cp2 (p))]) (by kernel_rfl) (by rfl) (fun w h => k2_dbl _ w (hG.keep h.below))) ?_
  refine L_store (t := 131) 0 g3 _ _ (by rfl) (by rfl) (by rfl) (by rfl) (by rfl) (hi_p2 _) ((cp2_size _).trans (cp2_size _).symm) (cp2_one _) ?_
  simp only [List.set_cons_zero, List.set_cons_succ]
  refine L_end ?_
  intro w3 hw3
  refine wp_ret ?_
  change bodyPost _ _ _ Exit.ret _ _
  refine (ret_cell (by rfl) (by rfl) (by rfl) (hw3.blk 0 (by rfl)) Tryd.underlying131 (by rfl) (hi_p2 _) ⟨?_, hw3.below⟩)
  rfl
set_option maxRecDepth 100000 in
set_option maxHeartbeats 4000000 in
theorem k2_up_n (p : J3 F2) (h : F2) (v : World) (hG : Glo v) (hz : h ≠ 0) : Rets 136 #[.agg (cp2 (p)), .agg (c2 (h))] v (.agg (cp2 (0))) := by
  refine calls_fr2 Tryd.func136 rfl (by rfl : _ = 11) (by rfl) ?_
  have hw := Hbl.nil v
  refine seq_plain hw [0, 1, 2] (by rfl) ?_
  refine L_box (.agg (cp2 (p))) (by rfl) (by rfl) (by rfl) (cp2 (p)) (by rfl) ?_; intro g1
  refine L_box (.agg (c2 (h))) (by rfl) (by rfl) (by rfl) (c2 (h)) (by rfl) ?_; intro g2
  refine L_alloc _ (by rfl) (by rfl) z_p2 (cp2 (0 : J3 F2)) rfl ?_; intro g3
  refine L_end ?_
  intro w1 hw1
  refine wp_seq ?_
  refine seq_plain hw1 [0, 1, 2] (by rfl) ?_
  refine L_val (.agg (c2 (h))) (by rfl) (by rfl) (gL g2 37 (c2 (h)) 1 Tryd.underlying37 (hi_2 _)) ?_
  refine L_val (.iface 37 (.agg (c2 (h)))) (by rfl) (by rfl) gk ?_
  refine L_val (.bool false) (by rfl) (by rfl) (gives_invoke (vl := []) (by rfl) (me2_Zero _) (by kernel_rfl) (by rfl) (fun w h => q_zero_f w (hG.keep h.below) hz)) ?_
  refine L_end ?_
  intro w2 hw2
  refine wp_cond_false (fr_at _ _ (by rfl) _) ?_
  refine wp_skip ?_
  change Code.wp _ _ _ _ _
  refine seq_plain hw2 [0, 1] (by rfl) ?_
  refine L_val (.agg (cp2 (0 : J3 F2))) (by rfl) (by rfl) (gb_p2 [] trivial (by rfl) (cp2 (0 : J3 F2)) (by rfl)) ?_
  refine L_store (t := 131) 0 g3 _ _ (by rfl) (by rfl) (by rfl) (by rfl) (by rfl) (hi_p2 _) ((cp2_size _).trans (cp2_size _).symm) (cp2_one _) ?_
  simp only [List.set_cons_zero, List.set_cons_succ]
  refine L_end ?_
  intro w3 hw3
  refine wp_ret ?_
  change bodyPost _ _ _ Exit.ret _ _
  refine (ret_cell (by rfl) (by rfl) (by rfl) (hw3.blk 0 (by rfl)) Tryd.underlying131 (by rfl) (hi_p2 _) ⟨?_, hw3.below⟩)
  rfl
set_option maxRecDepth 100000 in
set_option maxHeartbeats 4000000 in
theorem k2_add_p (p q : J3 F2) (v : World) (hG : Glo v) (hp : p.z = 0) : Rets 85 #[.agg (cp2 (p)), .agg (cp2 (q))] v (.agg (cp2 (J3.add p q))) := by
  refine calls_fr2 Tryd.func85 rfl (by rfl : _ = 125) (by rfl) ?_
  have hw := Hbl.nil v
  refine seq_plain hw [0, 1, 2] (by rfl) ?_
  refine L_box (.agg (cp2 (p))) (by rfl) (by rfl) (by rfl) (cp2 (p)) (by rfl) ?_; intro g1
  refine L_box (.agg (cp2 (q))) (by rfl) (by rfl) (by rfl) (cp2 (q)) (by rfl) ?_; intro g2
  refine L_alloc _ (by rfl) (by rfl) z_p2 (cp2 (0 : J3 F2)) rfl ?_; intro g3
  refine L_end ?_
  intro w1 hw1
  refine wp_seq ?_
  refine seq_plain hw1 [0, 1, 2, 3] (by rfl) ?_
  refine L_val (.pointer (some ⟨g1, 24, none⟩)) (by rfl) (by rfl) gk ?_
  refine L_val (.agg (c2 ((p).z))) (by rfl) (by rfl) (gives_load g1 24 131 (cp2 (p)) (c2 ((p).z)) _ (by rfl) (fun _ h => h.blk 2 (by rfl)) (sl_p2z (p) _ _ 24 (Sl.refl _) (by rfl)) Tryd.underlying37 (by rfl) (hi_2 _)) ?_
  refine L_val (.iface 37 (.agg (c2 ((p).z)))) (by rfl) (by rfl) gk ?_
  refine L_val (.bool true) (by rfl) (by rfl) (gives_invoke (vl := []) (by rfl) (me2_Zero _) (by kernel_rfl) (by rfl) (fun w h => q_zero_t w (hG.keep h.below) hp)) ?_
  refine L_end ?_
  intro w2 hw2
  refine wp_cond_true (fr_at _ _ (by rfl) _) ?_
  refine seq_plain hw2 [0, 1] (by rfl) ?_
  refine L_val (.agg (cp2 (q))) (by rfl) (by rfl) (gL g2 131 (cp2 (q)) 1 Tryd.underlying131 (hi_p2 _)) ?_
  refine L_store (t := 131) 0 g3 _ _ (by rfl) (by rfl) (by rfl) (by rfl) (by rfl) (hi_p2 _) ((cp2_size _).trans (cp2_size _).symm) (cp2_one _) ?_
  simp only [List.set_cons_zero, List.set_cons_succ]
  refine L_end ?_
  intro w3 hw3
  refine wp_ret ?_
  change bodyPost _ _ _ Exit.ret _ _
  refine (ret_cell (by rfl) (by rfl) (by rfl) (hw3.blk 0 (by rfl)) Tryd.underlying131 (by rfl) (hi_p2 _) ⟨?_, hw3.below⟩)
  refine congrArg (fun z : J3 F2 => Ending.returned (.agg (cp2 z))) ?_
  exact (if_pos hp).symm
set_option maxRecDepth 100000 in
set_option maxHeartbeats 4000000 in
theorem k2_add_q (p q : J3 F2) (v : World) (hG : Glo v) (hp : p.z ≠ 0) (hq : q.z = 0) : Rets 85 #[.agg (cp2 (p)), .agg (cp2 (q))] v (.agg (cp2 (J3.add p q))) := by
  refine calls_fr2 Tryd.func85 rfl (by rfl : _ = 125) (by rfl) ?_
  have hw := Hbl.nil v
  refine seq_plain hw [0, 1, 2] (by rfl) ?_
  refine L_box (.agg (cp2 (p))) (by rfl) (by rfl) (by rfl) (cp2 (p)) (by rfl) ?_; intro g1
  refine L_box (.agg (cp2 (q))) (by rfl) (by rfl) (by rfl) (cp2 (q)) (by rfl) ?_; intro g2
  refine L_alloc _ (by rfl) (by rfl) z_p2 (cp2 (0 : J3 F2)) rfl ?_; intro g3
  refine L_end ?_
  intro w1 hw1
  refine wp_seq ?_
  refine seq_plain hw1 [0, 1, 2, 3] (by rfl) ?_
  refine L_val (.pointer (some ⟨g1, 24, none⟩)) (by rfl) (by rfl) gk ?_
  refine L_val (.agg (c2 ((p).z))) (by rfl) (by rfl) (gives_load g1 24 131 (cp2 (p)) (c2 ((p).z)) _ (by rfl) (fun _ h => h.blk 2 (by rfl)) (sl_p2z (p) _ _ 24 (Sl.refl _) (by rfl)) Tryd.underlying37 (by rfl) (hi_2 _)) ?_
  refine L_val (.iface 37 (.agg (c2 ((p).z)))) (by rfl) (by rfl) gk ?_
  refine L_val (.bool false) (by rfl) (by rfl) (gives_invoke (vl := []) (by rfl) (me2_Zero _) (by kernel_rfl) (by rfl) (fun w h => q_zero_f w (hG.keep h.below) hp)) ?_
  refine L_end ?_
  intro w2 hw2
  refine wp_cond_false (fr_at _ _ (by rfl) _) ?_
  refine wp_skip ?_
  change Code.wp _ _ _ _ _
  refine wp_seq ?_
  refine seq_plain hw2 [0, 1, 2, 3] (by rfl) ?_
  refine L_val (.pointer (some ⟨g2, 24, none⟩)) (by rfl) (by rfl) gk ?_
  refine L_val (.agg (c2 ((q).z))) (by rfl) (by rfl) (gives_load g2 24 131 (cp2 (q)) (c2 ((q).z)) _ (by rfl) (fun _ h => h.blk 1 (by rfl)) (sl_p2z (q) _ _ 24 (Sl.refl _) (by rfl)) Tryd.underlying37 (by rfl) (hi_2 _)) ?_
  refine L_val (.iface 37 (.agg (c2 ((q).z)))) (by rfl) (by rfl) gk ?_
  refine L_val (.bool true) (by rfl) (by rfl) (gives_invoke (vl := []) (by rfl) (me2_Zero _) (by kernel_rfl) (by rfl) (fun w h => q_zero_t w (hG.keep h.below) hq)) ?_
  refine L_end ?_
  intro w3 hw3
  refine wp_cond_true (fr_at _ _ (by rfl) _) ?_
  refine seq_plain hw3 [0, 1] (by rfl) ?_
  refine L_val (.agg (cp2 (p))) (by rfl) (by rfl) (gL g1 131 (cp2 (p)) 2 Tryd.underlying131 (hi_p2 _)) ?_
  refine L_store (t := 131) 0 g3 _ _ (by rfl) (by rfl) (by rfl) (by rfl) (by rfl) (hi_p2 _) ((cp2_size _).trans (cp2_size _).symm) (cp2_one _) ?_
  simp only [List.set_cons_zero, List.set_cons_succ]
  refine L_end ?_
  intro w4 hw4
  refine wp_ret ?_
  change bodyPost _ _ _ Exit.ret _ _
  refine (ret_cell (by rfl) (by rfl) (by rfl) (hw4.blk 0 (by rfl)) Tryd.underlying131 (by rfl) (hi_p2 _) ⟨?_, hw4.below⟩)
  refine congrArg (fun z : J3 F2 => Ending.returned (.agg (cp2 z))) ?_
  exact ((if_neg hp).trans (if_pos hq)).symm
set_option maxRecDepth 100000 in
set_option maxHeartbeats 4000000 in
theorem k2_add_w (p q : J3 F2) (v : World) (hG : Glo v) (hp : p.z ≠ 0) (hq : q.z ≠ 0) (hw0 : J3.wide p q = 0) (hh : J3.high p q = 0) : Rets 85 #[.agg (cp2 (p)), .agg (cp2 (q))] v (.agg (cp2 (J3.add p q))) := by
  refine calls_fr2 Tryd.func85 rfl (by rfl : _ = 125) (by rfl) ?_
  have hw := Hbl.nil v
  refine seq_plain hw [0, 1, 2] (by rfl) ?_
  refine L_box (.agg (cp2 (p))) (by rfl) (by rfl) (by rfl) (cp2 (p)) (by rfl) ?_; intro g1
  refine L_box (.agg (cp2 (q))) (by rfl) (by rfl) (by rfl) (cp2 (q)) (by rfl) ?_; intro g2
  refine L_alloc _ (by rfl) (by rfl) z_p2 (cp2 (0 : J3 F2)) rfl ?_; intro g3
  refine L_end ?_
  intro w1 hw1
  refine wp_seq ?_
  refine seq_plain hw1 [0, 1, 2, 3] (by rfl) ?_
  refine L_val (.pointer (some ⟨g1, 24, none⟩)) (by rfl) (by rfl) gk ?_
  refine L_val (.agg (c2 ((p).z))) (by rfl) (by rfl) (gives_load g1 24 131 (cp2 (p)) (c2 ((p).z)) _ (by rfl) (fun _ h => h.blk 2 (by rfl)) (sl_p2z (p) _ _ 24 (Sl.refl _) (by rfl)) Tryd.underlying37 (by rfl) (hi_2 _)) ?_
  refine L_val (.iface 37 (.agg (c2 ((p).z)))) (by rfl) (by rfl) gk ?_
  refine L_val (.bool false) (by rfl) (by rfl) (gives_invoke (vl := []) (by rfl) (me2_Zero _) (by kernel_rfl) (by rfl) (fun w h => q_zero_f w (hG.keep h.below) hp)) ?_
  refine L_end ?_
  intro w2 hw2
  refine wp_cond_false (fr_at _ _ (by rfl) _) ?_
  refine wp_skip ?_
  change Code.wp _ _ _ _ _
  refine wp_seq ?_
  refine seq_plain hw2 [0, 1, 2, 3] (by rfl) ?_
  refine L_val (.pointer (some ⟨g2, 24, none⟩)) (by rfl) (by rfl) gk ?_
  refine L_val (.agg (c2 ((q).z))) (by rfl) (by rfl) (gives_load g2 24 131 (cp2 (q)) (c2 ((q).z)) _ (by rfl) (fun _ h => h.blk 1 (by rfl)) (sl_p2z (q) _ _ 24 (Sl.refl _) (by rfl)) Tryd.underlying37 (by rfl) (hi_2 _)) ?_
  refine L_val (.iface 37 (.agg (c2 ((q).z)))) (by rfl) (by rfl) gk ?_
  refine L_val (.bool false) (by rfl) (by rfl) (gives_invoke (vl := []) (by rfl) (me2_Zero _) (by kernel_rfl) (by rfl) (fun w h => q_zero_f w (hG.keep h.below) hq)) ?_
  refine L_end ?_
  intro w3 hw3
  refine wp_cond_false (fr_at _ _ (by rfl) _) ?_
  refine wp_skip ?_
  change Code.wp _ _ _ _ _
  refine seq_flow_to (fun a w => ∃ g_5 g_6, a = fr 125 [(5, .pointer (some ⟨g_5, 0, none⟩)), (6, .pointer (some ⟨g_6, 0, none⟩)), (34, .agg (c2 (((q).z) * ((q).z)))), (33, .iface 37 (.agg (c2 ((q).z)))), (32, .agg (c2 ((q).z))), (31, .pointer (some ⟨g2, 24, none⟩)), (30, .agg (c2 (((p).z) * ((p).z)))), (29, .iface 37 (.agg (c2 ((p).z)))), (28, .agg (c2 ((p).z))), (27, .pointer (some ⟨g1, 24, none⟩)), (25, .bool false), (24, .iface 37 (.agg (c2 ((q).z)))), (23, .agg (c2 ((q).z))), (22, .pointer (some ⟨g2, 24, none⟩)), (20, .bool false), (19, .iface 37 (.agg (c2 ((p).z)))), (18, .agg (c2 ((p).z))), (17, .pointer (some ⟨g1, 24, none⟩)), (4, .pointer (some ⟨g3, 0, none⟩)), (3, .pointer (some ⟨g2, 0, none⟩)), (2, .pointer (some ⟨g1, 0, none⟩)), (1, .agg (cp2 (q))), (0, .agg (cp2 (p)))] ∧ Hbl v [(g_5, 37, (c2 (((p).z) * ((p).z)))), (g_6, 37, (c2 (((q).z) * ((q).z)))), (g3, 131, (cp2 (0 : J3 F2))), (g2, 131, (cp2 (q))), (g1, 131, (cp2 (p)))] w) (by kernel_rfl) hw3 [] [(g3, 131, (cp2 (0 : J3 F2))), (g2, 131, (cp2 (q))), (g1, 131, (cp2 (p)))] 12 (by rfl) ?_ ?_
  ·
    refine fT (i := 0) (u := (.pointer (some ⟨g1, 24, none⟩))) (g := gk) (h := ?_)
    refine fT (i := 1) (g := (gives_load g1 24 131 (cp2 (p)) (c2 ((p).z)) _ (by rfl) (fun _ h => h.blk 2 (by rfl)) (sl_p2z (p) _ _ 24 (Sl.refl _) (by rfl)) Tryd.underlying37 (by rfl) (hi_2 _))) (h := ?_)
    refine fT (i := 2) (u := (.iface 37 (.agg (c2 ((p).z))))) (g := gk) (h := ?_)
    refine fT (i := 3) (g := (gives_invoke (vl := []) (by rfl) (me2_Square _) (by kernel_rfl) (by rfl) (fun w h => q_square _ w (hG.keep h.below)))) (h := ?_)
    refine fT (i := 4) (u := (.pointer (some ⟨g2, 24, none⟩))) (g := gk) (h := ?_)
    refine fT (i := 5) (g := (gives_load g2 24 131 (cp2 (q)) (c2 ((q).z)) _ (by rfl) (fun _ h => h.blk 1 (by rfl)) (sl_p2z (q) _ _ 24 (Sl.refl _) (by rfl)) Tryd.underlying37 (by rfl) (hi_2 _))) (h := ?_)
    refine fT (i := 6) (u := (.iface 37 (.agg (c2 ((q).z))))) (g := gk) (h := ?_)
    refine fT (i := 7) (g := (gives_invoke (vl := []) (by rfl) (me2_Square _) (by kernel_rfl) (by rfl) (fun w h => q_square _ w (hG.keep h.below)))) (h := ?_)
    refine flow_two 8 9 (by kernel_rfl) ?_ ?_
    ·
      refine F_alloc _ (by rfl) (by rfl) z_2 (c2 (0 : F2)) rfl (List.Sublist.refl _) ?_; intro g_5
      refine flow_one 9 (by kernel_rfl) ?_
      refine F_alloc _ (by rfl) (by rfl) z_2 (c2 (0 : F2)) rfl (List.Sublist.cons _ (List.Sublist.refl _)) ?_; intro g_6
      refine flow_one 10 (by kernel_rfl) ?_
      refine F_store (t := 37) 1 g_5 _ _ (by rfl) (by rfl) (by rfl) (by rfl) (by rfl) (hi_2 _) ((c2_size _).trans (c2_size _).symm) (c2_one _) (.inr (List.Sublist.cons _ (List.Sublist.cons _ (List.Sublist.refl _)))) ?_
      simp only [List.set_cons_zero, List.set_cons_succ]
      refine flow_one 11 (by kernel_rfl) ?_
      refine F_store (t := 37) 0 g_6 _ _ (by rfl) (by rfl) (by rfl) (by rfl) (by rfl) (hi_2 _) ((c2_size _).trans (c2_size _).symm) (c2_one _) (.inr (List.Sublist.cons _ (List.Sublist.cons _ (List.Sublist.refl _)))) ?_
      simp only [List.set_cons_zero, List.set_cons_succ]
      refine flow_done (by kernel_rfl) ?_
      intro wz hz
      exact ⟨g_5, g_6, ((fr_comm _ _ _ _ (by decide))), hz.perm (List.Perm.swap _ _ _)⟩
    ·
      refine F_alloc _ (by rfl) (by rfl) z_2 (c2 (0 : F2)) rfl (List.Sublist.refl _) ?_; intro g_6
      refine flow_one 8 (by kernel_rfl) ?_
      refine F_alloc _ (by rfl) (by rfl) z_2 (c2 (0 : F2)) rfl (List.Sublist.cons _ (List.Sublist.refl _)) ?_; intro g_5
      refine flow_one 10 (by kernel_rfl) ?_
      refine F_store (t := 37) 0 g_5 _ _ (by rfl) (by rfl) (by rfl) (by rfl) (by rfl) (hi_2 _) ((c2_size _).trans (c2_size _).symm) (c2_one _) (.inr (List.Sublist.cons _ (List.Sublist.cons _ (List.Sublist.refl _)))) ?_
      simp only [List.set_cons_zero, List.set_cons_succ]
      refine flow_one 11 (by kernel_rfl) ?_
      refine F_store (t := 37) 1 g_6 _ _ (by rfl) (by rfl) (by rfl) (by rfl) (by rfl) (hi_2 _) ((c2_size _).trans (c2_size _).symm) (c2_one _) (.inr (List.Sublist.cons _ (List.Sublist.cons _ (List.Sublist.refl _)))) ?_
      simp only [List.set_cons_zero, List.set_cons_succ]
      refine flow_done (by kernel_rfl) ?_
      intro wz hz
      exact ⟨g_5, g_6, rfl, hz.perm (List.Perm.refl _)⟩
  ·
    rintro a0 w4 ⟨g4, g5, rfl, hw4⟩
    refine seq_flow_to (fun a w => ∃ g_7 g_8, a = fr 125 [(7, .pointer (some ⟨g_7, 0, none⟩)), (8, .pointer (some ⟨g_8, 0, none⟩)), (44, .agg (c2 (((q).x) * (((p).z) * ((p).z))))), (43, .agg (c2 (((p).z) * ((p).z)))), (42, .iface 37 (.agg (c2 ((q).x)))), (41, .agg (c2 ((q).x))), (40, .pointer (some ⟨g2, 0, none⟩)), (39, .agg (c2 (((p).x) * (((q).z) * ((q).z))))), (38, .agg (c2 (((q).z) * ((q).z)))), (37, .iface 37 (.agg (c2 ((p).x)))), (36, .agg (c2 ((p).x))), (35, .pointer (some ⟨g1, 0, none⟩)), (5, .pointer (some ⟨g4, 0, none⟩)), (6, .pointer (some ⟨g5, 0, none⟩)), (34, .agg (c2 (((q).z) * ((q).z)))), (33, .iface 37 (.agg (c2 ((q).z)))), (32, .agg (c2 ((q).z))), (31, .pointer (some ⟨g2, 24, none⟩)), (30, .agg (c2 (((p).z) * ((p).z)))), (29, .iface 37 (.agg (c2 ((p).z)))), (28, .agg (c2 ((p).z))), (27, .pointer (some ⟨g1, 24, none⟩)), (25, .bool false), (24, .iface 37 (.agg (c2 ((q).z)))), (23, .agg (c2 ((q).z))), (22, .pointer (some ⟨g2, 24, none⟩)), (20, .bool false), (19, .iface 37 (.agg (c2 ((p).z)))), (18, .agg (c2 ((p).z))), (17, .pointer (some ⟨g1, 24, none⟩)), (4, .pointer (some ⟨g3, 0, none⟩)), (3, .pointer (some ⟨g2, 0, none⟩)), (2, .pointer (some ⟨g1, 0, none⟩)), (1, .agg (cp2 (q))), (0, .agg (cp2 (p)))] ∧ Hbl v [(g_7, 37, (c2 (((p).x) * (((q).z) * ((q).z))))), (g_8, 37, (c2 (((q).x) * (((p).z) * ((p).z))))), (g4, 37, (c2 (((p).z) * ((p).z)))), (g5, 37, (c2 (((q).z) * ((q).z)))), (g3, 131, (cp2 (0 : J3 F2))), (g2, 131, (cp2 (q))), (g1, 131, (cp2 (p)))] w) (by kernel_rfl) hw4 [] [(g4, 37, (c2 (((p).z) * ((p).z)))), (g5, 37, (c2 (((q).z) * ((q).z)))), (g3, 131, (cp2 (0 : J3 F2))), (g2, 131, (cp2 (q))), (g1, 131, (cp2 (p)))] 14 (by rfl) ?_ ?_
    ·
      refine fT (i := 0) (u := (.pointer (some ⟨g1, 0, none⟩))) (g := gk) (h := ?_)
      refine fT (i := 1) (g := (gives_load g1 0 131 (cp2 (p)) (c2 ((p).x)) _ (by rfl) (fun _ h => h.blk 4 (by rfl)) (sl_p2x (p) _ _ (Sl.refl _)) Tryd.underlying37 (by rfl) (hi_2 _))) (h := ?_)
      refine fT (i := 2) (u := (.iface 37 (.agg (c2 ((p).x))))) (g := gk) (h := ?_)
      refine fT (i := 3) (g := (gL g5 37 (c2 (((q).z) * ((q).z))) 1 Tryd.underlying37 (hi_2 _))) (h := ?_)
      refine fT (i := 4) (g := (gives_invoke (vl := [.agg (c2 (((q).z) * ((q).z)))]) (by rfl) (me2_Mul _) (by kernel_rfl) (by rfl) (fun w h => q_mul _ _ w (hG.keep h.below)))) (h := ?_)
      refine fT (i := 5) (u := (.pointer (some ⟨g2, 0, none⟩))) (g := gk) (h := ?_)
      refine fT (i := 6) (g := (gives_load g2 0 131 (cp2 (q)) (c2 ((q).x)) _ (by rfl) (fun _ h => h.blk 3 (by rfl)) (sl_p2x (q) _ _ (Sl.refl _)) Tryd.underlying37 (by rfl) (hi_2 _))) (h := ?_)
      refine fT (i := 7) (u := (.iface 37 (.agg (c2 ((q).x))))) (g := gk) (h := ?_)
      refine fT (i := 8) (g := (gL g4 37 (c2 (((p).z) * ((p).z))) 0 Tryd.underlying37 (hi_2 _))) (h := ?_)
      refine fT (i := 9) (g := (gives_invoke (vl := [.agg (c2 (((p).z) * ((p).z)))]) (by rfl) (me2_Mul _) (by kernel_rfl) (by rfl) (fun w h => q_mul _ _ w (hG.keep h.below)))) (h := ?_)
      refine flow_two 10 11 (by kernel_rfl) ?_ ?_
      ·
        refine F_alloc _ (by rfl) (by rfl) z_2 (c2 (0 : F2)) rfl (List.Sublist.refl _) ?_; intro g_7
        refine flow_one 11 (by kernel_rfl) ?_
        refine F_alloc _ (by rfl) (by rfl) z_2 (c2 (0 : F2)) rfl (List.Sublist.cons _ (List.Sublist.refl _)) ?_; intro g_8
        refine flow_one 12 (by kernel_rfl) ?_
        refine F_store (t := 37) 1 g_7 _ _ (by rfl) (by rfl) (by rfl) (by rfl) (by rfl) (hi_2 _) ((c2_size _).trans (c2_size _).symm) (c2_one _) (.inr (List.Sublist.cons _ (List.Sublist.cons _ (List.Sublist.refl _)))) ?_
        simp only [List.set_cons_zero, List.set_cons_succ]
        refine flow_one 13 (by kernel_rfl) ?_
        refine F_store (t := 37) 0 g_8 _ _ (by rfl) (by rfl) (by rfl) (by rfl) (by rfl) (hi_2 _) ((c2_size _).trans (c2_size _).symm) (c2_one _) (.inr (List.Sublist.cons _ (List.Sublist.cons _ (List.Sublist.refl _)))) ?_
        simp only [List.set_cons_zero, List.set_cons_succ]
        refine flow_done (by kernel_rfl) ?_
        intro wz hz
        exact ⟨g_7, g_8, ((fr_comm _ _ _ _ (by decide))), hz.perm (List.Perm.swap _ _ _)⟩
      ·
        refine F_alloc _ (by rfl) (by rfl) z_2 (c2 (0 : F2)) rfl (List.Sublist.refl _) ?_; intro g_8
        refine flow_one 10 (by kernel_rfl) ?_
        refine F_alloc _ (by rfl) (by rfl) z_2 (c2 (0 : F2)) rfl (List.Sublist.cons _ (List.Sublist.refl _)) ?_; intro g_7
        refine flow_one 12 (by kernel_rfl) ?_
        refine F_store (t := 37) 0 g_7 _ _ (by rfl) (by rfl) (by rfl) (by rfl) (by rfl) (hi_2 _) ((c2_size _).trans (c2_size _).symm) (c2_one _) (.inr (List.Sublist.cons _ (List.Sublist.cons _ (List.Sublist.refl _)))) ?_
        simp only [List.set_cons_zero, List.set_cons_succ]
        refine flow_one 13 (by kernel_rfl) ?_
        refine F_store (t := 37) 1 g_8 _ _ (by rfl) (by rfl) (by rfl) (by rfl) (by rfl) (hi_2 _) ((c2_size _).trans (c2_size _).symm) (c2_one _) (.inr (List.Sublist.cons _ (List.Sublist.cons _ (List.Sublist.refl _)))) ?_
        simp only [List.set_cons_zero, List.set_cons_succ]
        refine flow_done (by kernel_rfl) ?_
        intro wz hz
        exact ⟨g_7, g_8, rfl, hz.perm (List.Perm.refl _)⟩
    ·
      rintro a0 w5 ⟨g6, g7, rfl, hw5⟩
      refine seq_flow_to (fun a w => ∃ g_9 g_10, a = fr 125 [(9, .pointer (some ⟨g_9, 0, none⟩)), (10, .pointer (some ⟨g_10, 0, none⟩)), (62, .agg (c2 ((((q).y) * (((p).z) * ((p).z))) * ((p).z)))), (61, .agg (c2 ((p).z))), (60, .pointer (some ⟨g1, 24, none⟩)), (59, .iface 37 (.agg (c2 (((q).y) * (((p).z) * ((p).z)))))), (58, .agg (c2 (((q).y) * (((p).z) * ((p).z))))), (57, .agg (c2 (((p).z) * ((p).z)))), (56, .iface 37 (.agg (c2 ((q).y)))), (55, .agg (c2 ((q).y))), (54, .pointer (some ⟨g2, 12, none⟩)), (53, .agg (c2 ((((p).y) * (((q).z) * ((q).z))) * ((q).z)))), (52, .agg (c2 ((q).z))), (51, .pointer (some ⟨g2, 24, none⟩)), (50, .iface 37 (.agg (c2 (((p).y) * (((q).z) * ((q).z)))))), (49, .agg (c2 (((p).y) * (((q).z) * ((q).z))))), (48, .agg (c2 (((q).z) * ((q).z)))), (47, .iface 37 (.agg (c2 ((p).y)))), (46, .agg (c2 ((p).y))), (45, .pointer (some ⟨g1, 12, none⟩)), (7, .pointer (some ⟨g6, 0, none⟩)), (8, .pointer (some ⟨g7, 0, none⟩)), (44, .agg (c2 (((q).x) * (((p).z) * ((p).z))))), (43, .agg (c2 (((p).z) * ((p).z)))), (42, .iface 37 (.agg (c2 ((q).x)))), (41, .agg (c2 ((q).x))), (40, .pointer (some ⟨g2, 0, none⟩)), (39, .agg (c2 (((p).x) * (((q).z) * ((q).z))))), (38, .agg (c2 (((q).z) * ((q).z)))), (37, .iface 37 (.agg (c2 ((p).x)))), (36, .agg (c2 ((p).x))), (35, .pointer (some ⟨g1, 0, none⟩)), (5, .pointer (some ⟨g4, 0, none⟩)), (6, .pointer (some ⟨g5, 0, none⟩)), (34, .agg (c2 (((q).z) * ((q).z)))), (33, .iface 37 (.agg (c2 ((q).z)))), (32, .agg (c2 ((q).z))), (31, .pointer (some ⟨g2, 24, none⟩)), (30, .agg (c2 (((p).z) * ((p).z)))), (29, .iface 37 (.agg (c2 ((p).z)))), (28, .agg (c2 ((p).z))), (27, .pointer (some ⟨g1, 24, none⟩)), (25, .bool false), (24, .iface 37 (.agg (c2 ((q).z)))), (23, .agg (c2 ((q).z))), (22, .pointer (some ⟨g2, 24, none⟩)), (20, .bool false), (19, .iface 37 (.agg (c2 ((p).z)))), (18, .agg (c2 ((p).z))), (17, .pointer (some ⟨g1, 24, none⟩)), (4, .pointer (some ⟨g3, 0, none⟩)), (3, .pointer (some ⟨g2, 0, none⟩)), (2, .pointer (some ⟨g1, 0, none⟩)), (1, .agg (cp2 (q))), (0, .agg (cp2 (p)))] ∧ Hbl v [(g_9, 37, (c2 ((((p).y) * (((q).z) * ((q).z))) * ((q).z)))), (g_10, 37, (c2 ((((q).y) * (((p).z) * ((p).z))) * ((p).z)))), (g6, 37, (c2 (((p).x) * (((q).z) * ((q).z))))), (g7, 37, (c2 (((q).x) * (((p).z) * ((p).z))))), (g4, 37, (c2 (((p).z) * ((p).z)))), (g5, 37, (c2 (((q).z) * ((q).z)))), (g3, 131, (cp2 (0 : J3 F2))), (g2, 131, (cp2 (q))), (g1, 131, (cp2 (p)))] w) (by kernel_rfl) hw5 [] [(g6, 37, (c2 (((p).x) * (((q).z) * ((q).z))))), (g7, 37, (c2 (((q).x) * (((p).z) * ((p).z))))), (g4, 37, (c2 (((p).z) * ((p).z)))), (g5, 37, (c2 (((q).z) * ((q).z)))), (g3, 131, (cp2 (0 : J3 F2))), (g2, 131, (cp2 (q))), (g1, 131, (cp2 (p)))] 22 (by rfl) ?_ ?_
      ·
        refine fT (i := 0) (u := (.pointer (some ⟨g1, 12, none⟩))) (g := gk) (h := ?_)
        refine fT (i := 1) (g := (gives_load g1 12 131 (cp2 (p)) (c2 ((p).y)) _ (by rfl) (fun _ h => h.blk 6 (by rfl)) (sl_p2y (p) _ _ 12 (Sl.refl _) (by rfl)) Tryd.underlying37 (by rfl) (hi_2 _))) (h := ?_)
        refine fT (i := 2) (u := (.iface 37 (.agg (c2 ((p).y))))) (g := gk) (h := ?_)
        refine fT (i := 3) (g := (gL g5 37 (c2 (((q).z) * ((q).z))) 3 Tryd.underlying37 (hi_2 _))) (h := ?_)
        refine fT (i := 4) (g := (gives_invoke (vl := [.agg (c2 (((q).z) * ((q).z)))]) (by rfl) (me2_Mul _) (by kernel_rfl) (by rfl) (fun w h => q_mul _ _ w (hG.keep h.below)))) (h := ?_)
        refine fT (i := 5) (u := (.iface 37 (.agg (c2 (((p).y) * (((q).z) * ((q).z))))))) (g := gk) (h := ?_)
        refine fT (i := 6) (u := (.pointer (some ⟨g2, 24, none⟩))) (g := gk) (h := ?_)
        refine fT (i := 7) (g := (gives_load g2 24 131 (cp2 (q)) (c2 ((q).z)) _ (by rfl) (fun _ h => h.blk 5 (by rfl)) (sl_p2z (q) _ _ 24 (Sl.refl _) (by rfl)) Tryd.underlying37 (by rfl) (hi_2 _))) (h := ?_)
        refine fT (i := 8) (g := (gives_invoke (vl := [.agg (c2 ((q).z))]) (by rfl) (me2_Mul _) (by kernel_rfl) (by rfl) (fun w h => q_mul _ _ w (hG.keep h.below)))) (h := ?_)
        refine fT (i := 9) (u := (.pointer (some ⟨g2, 12, none⟩))) (g := gk) (h := ?_)
        refine fT (i := 10) (g := (gives_load g2 12 131 (cp2 (q)) (c2 ((q).y)) _ (by rfl) (fun _ h => h.blk 5 (by rfl)) (sl_p2y (q) _ _ 12 (Sl.refl _) (by rfl)) Tryd.underlying37 (by rfl) (hi_2 _))) (h := ?_)
        refine fT (i := 11) (u := (.iface 37 (.agg (c2 ((q).y))))) (g := gk) (h := ?_)
        refine fT (i := 12) (g := (gL g4 37 (c2 (((p).z) * ((p).z))) 2 Tryd.underlying37 (hi_2 _))) (h := ?_)
        refine fT (i := 13) (g := (gives_invoke (vl := [.agg (c2 (((p).z) * ((p).z)))]) (by rfl) (me2_Mul _) (by kernel_rfl) (by rfl) (fun w h => q_mul _ _ w (hG.keep h.below)))) (h := ?_)
        refine fT (i := 14) (u := (.iface 37 (.agg (c2 (((q).y) * (((p).z) * ((p).z))))))) (g := gk) (h := ?_)
        refine fT (i := 15) (u := (.pointer (some ⟨g1, 24, none⟩))) (g := gk) (h := ?_)
        refine fT (i := 16) (g := (gives_load g1 24 131 (cp2 (p)) (c2 ((p).z)) _ (by rfl) (fun _ h => h.blk 6 (by rfl)) (sl_p2z (p) _ _ 24 (Sl.refl _) (by rfl)) Tryd.underlying37 (by rfl) (hi_2 _))) (h := ?_)
        refine fT (i := 17) (g := (gives_invoke (vl := [.agg (c2 ((p).z))]) (by rfl) (me2_Mul _) (by kernel_rfl) (by rfl) (fun w h => q_mul _ _ w (hG.keep h.below)))) (h := ?_)
        refine flow_two 18 19 (by kernel_rfl) ?_ ?_
        ·
          refine F_alloc _ (by rfl) (by rfl) z_2 (c2 (0 : F2)) rfl (List.Sublist.refl _) ?_; intro g_9
          refine flow_one 19 (by kernel_rfl) ?_
          refine F_alloc _ (by rfl) (by rfl) z_2 (c2 (0 : F2)) rfl (List.Sublist.cons _ (List.Sublist.refl _)) ?_; intro g_10
          refine flow_one 20 (by kernel_rfl) ?_
          refine F_store (t := 37) 1 g_9 _ _ (by rfl) (by rfl) (by rfl) (by rfl) (by rfl) (hi_2 _) ((c2_size _).trans (c2_size _).symm) (c2_one _) (.inr (List.Sublist.cons _ (List.Sublist.cons _ (List.Sublist.refl _)))) ?_
          simp only [List.set_cons_zero, List.set_cons_succ]
          refine flow_one 21 (by kernel_rfl) ?_
          refine F_store (t := 37) 0 g_10 _ _ (by rfl) (by rfl) (by rfl) (by rfl) (by rfl) (hi_2 _) ((c2_size _).trans (c2_size _).symm) (c2_one _) (.inr (List.Sublist.cons _ (List.Sublist.cons _ (List.Sublist.refl _)))) ?_
          simp only [List.set_cons_zero, List.set_cons_succ]
          refine flow_done (by kernel_rfl) ?_
          intro wz hz
          exact ⟨g_9, g_10, ((fr_comm _ _ _ _ (by decide))), hz.perm (List.Perm.swap _ _ _)⟩
        ·
          refine F_alloc _ (by rfl) (by rfl) z_2 (c2 (0 : F2)) rfl (List.Sublist.refl _) ?_; intro g_10
          refine flow_one 18 (by kernel_rfl) ?_
          refine F_alloc _ (by rfl) (by rfl) z_2 (c2 (0 : F2)) rfl (List.Sublist.cons _ (List.Sublist.refl _)) ?_; intro g_9
          refine flow_one 20 (by kernel_rfl) ?_
          refine F_store (t := 37) 0 g_9 _ _ (by rfl) (by rfl) (by rfl) (by rfl) (by rfl) (hi_2 _) ((c2_size _).trans (c2_size _).symm) (c2_one _) (.inr (List.Sublist.cons _ (List.Sublist.cons _ (List.Sublist.refl _)))) ?_
          simp only [List.set_cons_zero, List.set_cons_succ]
          refine flow_one 21 (by kernel_rfl) ?_
          refine F_store (t := 37) 1 g_10 _ _ (by rfl) (by rfl) (by rfl) (by rfl) (by rfl) (hi_2 _) ((c2_size _).trans (c2_size _).symm) (c2_one _) (.inr (List.Sublist.cons _ (List.Sublist.cons _ (List.Sublist.refl _)))) ?_
          simp only [List.set_cons_zero, List.set_cons_succ]
          refine flow_done (by kernel_rfl) ?_
          intro wz hz
          exact ⟨g_9, g_10, rfl, hz.perm (List.Perm.refl _)⟩
      ·
        rintro a0 w6 ⟨g8, g9, rfl, hw6⟩
        refine seq_flow_to (fun a w => ∃ g_11 g_12, a = fr 125 [(11, .pointer (some ⟨g_11, 0, none⟩)), (12, .pointer (some ⟨g_12, 0, none⟩)), (70, .agg (c2 (cc_4 p q))), (69, .agg (c2 ((((p).y) * (((q).z) * ((q).z))) * ((q).z)))), (68, .iface 37 (.agg (c2 ((((q).y) * (((p).z) * ((p).z))) * ((p).z))))), (67, .agg (c2 ((((q).y) * (((p).z) * ((p).z))) * ((p).z)))), (66, .agg (c2 (cc_2 p q))), (65, .agg (c2 (((p).x) * (((q).z) * ((q).z))))), (64, .iface 37 (.agg (c2 (((q).x) * (((p).z) * ((p).z)))))), (63, .agg (c2 (((q).x) * (((p).z) * ((p).z))))), (9, .pointer (some ⟨g8, 0, none⟩)), (10, .pointer (some ⟨g9, 0, none⟩)), (62, .agg (c2 ((((q).y) * (((p).z) * ((p).z))) * ((p).z)))), (61, .agg (c2 ((p).z))), (60, .pointer (some ⟨g1, 24, none⟩)), (59, .iface 37 (.agg (c2 (((q).y) * (((p).z) * ((p).z)))))), (58, .agg (c2 (((q).y) * (((p).z) * ((p).z))))), (57, .agg (c2 (((p).z) * ((p).z)))), (56, .iface 37 (.agg (c2 ((q).y)))), (55, .agg (c2 ((q).y))), (54, .pointer (some ⟨g2, 12, none⟩)), (53, .agg (c2 ((((p).y) * (((q).z) * ((q).z))) * ((q).z)))), (52, .agg (c2 ((q).z))), (51, .pointer (some ⟨g2, 24, none⟩)), (50, .iface 37 (.agg (c2 (((p).y) * (((q).z) * ((q).z)))))), (49, .agg (c2 (((p).y) * (((q).z) * ((q).z))))), (48, .agg (c2 (((q).z) * ((q).z)))), (47, .iface 37 (.agg (c2 ((p).y)))), (46, .agg (c2 ((p).y))), (45, .pointer (some ⟨g1, 12, none⟩)), (7, .pointer (some ⟨g6, 0, none⟩)), (8, .pointer (some ⟨g7, 0, none⟩)), (44, .agg (c2 (((q).x) * (((p).z) * ((p).z))))), (43, .agg (c2 (((p).z) * ((p).z)))), (42, .iface 37 (.agg (c2 ((q).x)))), (41, .agg (c2 ((q).x))), (40, .pointer (some ⟨g2, 0, none⟩)), (39, .agg (c2 (((p).x) * (((q).z) * ((q).z))))), (38, .agg (c2 (((q).z) * ((q).z)))), (37, .iface 37 (.agg (c2 ((p).x)))), (36, .agg (c2 ((p).x))), (35, .pointer (some ⟨g1, 0, none⟩)), (5, .pointer (some ⟨g4, 0, none⟩)), (6, .pointer (some ⟨g5, 0, none⟩)), (34, .agg (c2 (((q).z) * ((q).z)))), (33, .iface 37 (.agg (c2 ((q).z)))), (32, .agg (c2 ((q).z))), (31, .pointer (some ⟨g2, 24, none⟩)), (30, .agg (c2 (((p).z) * ((p).z)))), (29, .iface 37 (.agg (c2 ((p).z)))), (28, .agg (c2 ((p).z))), (27, .pointer (some ⟨g1, 24, none⟩)), (25, .bool false), (24, .iface 37 (.agg (c2 ((q).z)))), (23, .agg (c2 ((q).z))), (22, .pointer (some ⟨g2, 24, none⟩)), (20, .bool false), (19, .iface 37 (.agg (c2 ((p).z)))), (18, .agg (c2 ((p).z))), (17, .pointer (some ⟨g1, 24, none⟩)), (4, .pointer (some ⟨g3, 0, none⟩)), (3, .pointer (some ⟨g2, 0, none⟩)), (2, .pointer (some ⟨g1, 0, none⟩)), (1, .agg (cp2 (q))), (0, .agg (cp2 (p)))] ∧ Hbl v [(g_11, 37, (c2 (cc_2 p q))), (g_12, 37, (c2 (cc_4 p q))), (g8, 37, (c2 ((((p).y) * (((q).z) * ((q).z))) * ((q).z)))), (g9, 37, (c2 ((((q).y) * (((p).z) * ((p).z))) * ((p).z)))), (g6, 37, (c2 (((p).x) * (((q).z) * ((q).z))))), (g7, 37, (c2 (((q).x) * (((p).z) * ((p).z))))), (g4, 37, (c2 (((p).z) * ((p).z)))), (g5, 37, (c2 (((q).z) * ((q).z)))), (g3, 131, (cp2 (0 : J3 F2))), (g2, 131, (cp2 (q))), (g1, 131, (cp2 (p)))] w) (by kernel_rfl) hw6 [] [(g8, 37, (c2 ((((p).y) * (((q).z) * ((q).z))) * ((q).z)))), (g9, 37, (c2 ((((q).y) * (((p).z) * ((p).z))) * ((p).z)))), (g6, 37, (c2 (((p).x) * (((q).z) * ((q).z))))), (g7, 37, (c2 (((q).x) * (((p).z) * ((p).z))))), (g4, 37, (c2 (((p).z) * ((p).z)))), (g5, 37, (c2 (((q).z) * ((q).z)))), (g3, 131, (cp2 (0 : J3 F2))), (g2, 131, (cp2 (q))), (g1, 131, (cp2 (p)))] 12 (by rfl) ?_ ?_
        ·
          refine fT (i := 0) (g := (gL g7 37 (c2 (((q).x) * (((p).z) * ((p).z)))) 3 Tryd.underlying37 (hi_2 _))) (h := ?_)
          refine fT (i := 1) (u := (.iface 37 (.agg (c2 (((q).x) * (((p).z) * ((p).z))))))) (g := gk) (h := ?_)
          refine fT (i := 2) (g := (gL g6 37 (c2 (((p).x) * (((q).z) * ((q).z)))) 2 Tryd.underlying37 (hi_2 _))) (h := ?_)
          refine fT (i := 3) (g := (gives_invoke (vl := [.agg (c2 (((p).x) * (((q).z) * ((q).z))))]) (by rfl) (me2_Sub _) (by kernel_rfl) (by rfl) (fun w h => q_sub _ _ w (hG.keep h.below)))) (h := ?_)
          refine fT (i := 4) (g := (gL g9 37 (c2 ((((q).y) * (((p).z) * ((p).z))) * ((p).z))) 1 Tryd.underlying37 (hi_2 _))) (h := ?_)
          refine fT (i := 5) (u := (.iface 37 (.agg (c2 ((((q).y) * (((p).z) * ((p).z))) * ((p).z)))))) (g := gk) (h := ?_)
          refine fT (i := 6) (g := (gL g8 37 (c2 ((((p).y) * (((q).z) * ((q).z))) * ((q).z))) 0 Tryd.underlying37 (hi_2 _))) (h := ?_)
          refine fT (i := 7) (g := (gives_invoke (vl := [.agg (c2 ((((p).y) * (((q).z) * ((q).z))) * ((q).z)))]) (by rfl) (me2_Sub _) (by kernel_rfl) (by rfl) (fun w h => q_sub _ _ w (hG.keep h.below)))) (h := ?_)
          refine flow_two 8 9 (by kernel_rfl) ?_ ?_
          ·
            refine F_alloc _ (by rfl) (by rfl) z_2 (c2 (0 : F2)) rfl (List.Sublist.refl _) ?_; intro g_11
            refine flow_one 9 (by kernel_rfl) ?_
            refine F_alloc _ (by rfl) (by rfl) z_2 (c2 (0 : F2)) rfl (List.Sublist.cons _ (List.Sublist.refl _)) ?_; intro g_12
            refine flow_one 10 (by kernel_rfl) ?_
            refine F_store (t := 37) 1 g_11 _ _ (by rfl) (by rfl) (by rfl) (by rfl) (by rfl) (hi_2 _) ((c2_size _).trans (c2_size _).symm) (c2_one _) (.inr (List.Sublist.cons _ (List.Sublist.cons _ (List.Sublist.refl _)))) ?_
            simp only [List.set_cons_zero, List.set_cons_succ]
            refine flow_one 11 (by kernel_rfl) ?_
            refine F_store (t := 37) 0 g_12 _ _ (by rfl) (by rfl) (by rfl) (by rfl) (by rfl) (hi_2 _) ((c2_size _).trans (c2_size _).symm) (c2_one _) (.inr (List.Sublist.cons _ (List.Sublist.cons _ (List.Sublist.refl _)))) ?_
            simp only [List.set_cons_zero, List.set_cons_succ]
            refine flow_done (by kernel_rfl) ?_
            intro wz hz
            exact ⟨g_11, g_12, ((fr_comm _ _ _ _ (by decide))), hz.perm (List.Perm.swap _ _ _)⟩
          ·
            refine F_alloc _ (by rfl) (by rfl) z_2 (c2 (0 : F2)) rfl (List.Sublist.refl _) ?_; intro g_12
            refine flow_one 8 (by kernel_rfl) ?_
            refine F_alloc _ (by rfl) (by rfl) z_2 (c2 (0 : F2)) rfl (List.Sublist.cons _ (List.Sublist.refl _)) ?_; intro g_11
            refine flow_one 10 (by kernel_rfl) ?_
            refine F_store (t := 37) 0 g_11 _ _ (by rfl) (by rfl) (by rfl) (by rfl) (by rfl) (hi_2 _) ((c2_size _).trans (c2_size _).symm) (c2_one _) (.inr (List.Sublist.cons _ (List.Sublist.cons _ (List.Sublist.refl _)))) ?_
            simp only [List.set_cons_zero, List.set_cons_succ]
            refine flow_one 11 (by kernel_rfl) ?_
            refine F_store (t := 37) 1 g_12 _ _ (by rfl) (by rfl) (by rfl) (by rfl) (by rfl) (hi_2 _) ((c2_size _).trans (c2_size _).symm) (c2_one _) (.inr (List.Sublist.cons _ (List.Sublist.cons _ (List.Sublist.refl _)))) ?_
            simp only [List.set_cons_zero, List.set_cons_succ]
            refine flow_done (by kernel_rfl) ?_
            intro wz hz
            exact ⟨g_11, g_12, rfl, hz.perm (List.Perm.refl _)⟩
        ·
          rintro a0 w7 ⟨g10, g11, rfl, hw7⟩
          refine wp_seq ?_
          refine seq_plain hw7 [0, 1, 2] (by rfl) ?_
          refine L_val (.agg (c2 (cc_2 p q))) (by rfl) (by rfl) (gL g10 37 (c2 (cc_2 p q)) 0 Tryd.underlying37 (hi_2 _)) ?_
          refine L_val (.iface 37 (.agg (c2 (cc_2 p q)))) (by rfl) (by rfl) gk ?_
          refine L_val (.bool true) (by rfl) (by rfl) (gives_invoke (vl := []) (by rfl) (me2_Zero _) (by kernel_rfl) (by rfl) (fun w h => q_zero_t w (hG.keep h.below) hw0)) ?_
          refine L_end ?_
          intro w8 hw8
          refine wp_cond_true (fr_at _ _ (by rfl) _) ?_
          refine seq_plain hw8 [0, 1, 2, 3] (by rfl) ?_
          refine L_val (.agg (cp2 (p))) (by rfl) (by rfl) (gL g1 131 (cp2 (p)) 10 Tryd.underlying131 (hi_p2 _)) ?_
          refine L_val (.agg (c2 (cc_4 p q))) (by rfl) (by rfl) (gL g11 37 (c2 (cc_4 p q)) 1 Tryd.underlying37 (hi_2 _)) ?_
          refine L_val (.agg (cp2 (J3.dbl p))) (by rfl) (by rfl) (gives_call (vl := [.agg (cp2 (p)), .agg (c2 (cc_4 p q))]) (by kernel_rfl) (by rfl) (fun w h => k2_up_z _ _ w (hG.keep h.below) hh)) ?_
          refine L_store (t := 131) 8 g3 _ _ (by rfl) (by rfl) (by rfl) (by rfl) (by rfl) (hi_p2 _) ((cp2_size _).trans (cp2_size _).symm) (cp2_one _) ?_
          simp only [List.set_cons_zero, List.set_cons_succ]
          refine L_end ?_
          intro w9 hw9
          refine wp_ret ?_
          change bodyPost _ _ _ Exit.ret _ _
          refine (ret_cell (by rfl) (by rfl) (by rfl) (hw9.blk 8 (by rfl)) Tryd.underlying131 (by rfl) (hi_p2 _) ⟨?_, hw9.below⟩)
          refine congrArg (fun z : J3 F2 => Ending.returned (.agg (cp2 z))) ?_
          exact ((if_neg hp).trans ((if_neg hq).trans ((if_pos hw0).trans (if_pos hh)))).symm
set_option maxRecDepth 100000 in
set_option maxHeartbeats 4000000 in
theorem k2_add_h (p q : J3 F2) (v : World) (hG : Glo v) (hp : p.z ≠ 0) (hq : q.z ≠ 0) (hw0 : J3.wide p q = 0) (hh : J3.high p q ≠ 0) : Rets 85 #[.agg (cp2 (p)), .agg (cp2 (q))] v (.agg (cp2 (J3.add p q))) := by
  refine calls_fr2 Tryd.func85 rfl (by rfl : _ = 125) (by rfl) ?_
  have hw := Hbl.nil v
  refine seq_plain hw [0, 1, 2] (by rfl) ?_
  refine L_box (.agg (cp2 (p))) (by rfl) (by rfl) (by rfl) (cp2 (p)) (by rfl) ?_; intro g1
  refine L_box (.agg (cp2 (q))) (by rfl) (by rfl) (by rfl) (cp2 (q)) (by rfl) ?_; intro g2
  refine L_alloc _ (by rfl) (by rfl) z_p2 (cp2 (0 : J3 F2)) rfl ?_; intro g3
  refine L_end ?_
  intro w1 hw1
  refine wp_seq ?_
  refine seq_plain hw1 [0, 1, 2, 3] (by rfl) ?_
  refine L_val (.pointer (some ⟨g1, 24, none⟩)) (by rfl) (by rfl) gk ?_
  refine L_val (.agg (c2 ((p).z))) (by rfl) (by rfl) (gives_load g1 24 131 (cp2 (p)) (c2 ((p).z)) _ (by rfl) (fun _ h => h.blk 2 (by rfl)) (sl_p2z (p) _ _ 24 (Sl.refl _) (by rfl)) Tryd.underlying37 (by rfl) (hi_2 _)) ?_
  refine L_val (.iface 37 (.agg (c2 ((p).z)))) (by rfl) (by rfl) gk ?_
  refine L_val (.bool false) (by rfl) (by rfl) (gives_invoke (vl := []) (by rfl) (me2_Zero _) (by kernel_rfl) (by rfl) (fun w h => q_zero_f w (hG.keep h.below) hp)) ?_
  refine L_end ?_
  intro w2 hw2
  refine wp_cond_false (fr_at _ _ (by rfl) _) ?_
  refine wp_skip ?_
  change Code.wp _ _ _ _ _
  refine wp_seq ?_
  refine seq_plain hw2 [0, 1, 2, 3] (by rfl) ?_
  refine L_val (.pointer (some ⟨g2, 24, none⟩)) (by rfl) (by rfl) gk ?_
  refine L_val (.agg (c2 ((q).z))) (by rfl) (by rfl) (gives_load g2 24 131 (cp2 (q)) (c2 ((q).z)) _ (by rfl) (fun _ h => h.blk 1 (by rfl)) (sl_p2z (q) _ _ 24 (Sl.refl _) (by rfl)) Tryd.underlying37 (by rfl) (hi_2 _)) ?_
  refine L_val (.iface 37 (.agg (c2 ((q).z)))) (by rfl) (by rfl) gk ?_
  refine L_val (.bool false) (by rfl) (by rfl) (gives_invoke (vl := []) (by rfl) (me2_Zero _) (by kernel_rfl) (by rfl) (fun w h => q_zero_f w (hG.keep h.below) hq)) ?_
  refine L_end ?_
  intro w3 hw3
  refine wp_cond_false (fr_at _ _ (by rfl) _) ?_
  refine wp_skip ?_
  change Code.wp _ _ _ _ _
  refine seq_flow_to (fun a w => ∃ g_5 g_6, a = fr 125 [(5, .pointer (some ⟨g_5, 0, none⟩)), (6, .pointer (some ⟨g_6, 0, none⟩)), (34, .agg (c2 (((q).z) * ((q).z)))), (33, .iface 37 (.agg (c2 ((q).z)))), (32, .agg (c2 ((q).z))), (31, .pointer (some ⟨g2, 24, none⟩)), (30, .agg (c2 (((p).z) * ((p).z)))), (29, .iface 37 (.agg (c2 ((p).z)))), (28, .agg (c2 ((p).z))), (27, .pointer (some ⟨g1, 24, none⟩)), (25, .bool false), (24, .iface 37 (.agg (c2 ((q).z)))), (23, .agg (c2 ((q).z))), (22, .pointer (some ⟨g2, 24, none⟩)), (20, .bool false), (19, .iface 37 (.agg (c2 ((p).z)))), (18, .agg (c2 ((p).z))), (17, .pointer (some ⟨g1, 24, none⟩)), (4, .pointer (some ⟨g3, 0, none⟩)), (3, .pointer (some ⟨g2, 0, none⟩)), (2, .pointer (some ⟨g1, 0, none⟩)), (1, .agg (cp2 (q))), (0, .agg (cp2 (p)))] ∧ Hbl v [(g_5, 37, (c2 (((p).z) * ((p).z)))), (g_6, 37, (c2 (((q).z) * ((q).z)))), (g3, 131, (cp2 (0 : J3 F2))), (g2, 131, (cp2 (q))), (g1, 131, (cp2 (p)))] w) (by kernel_rfl) hw3 [] [(g3, 131, (cp2 (0 : J3 F2))), (g2, 131, (cp2 (q))), (g1, 131, (cp2 (p)))] 12 (by rfl) ?_ ?_
  ·
    refine fT (i := 0) (u := (.pointer (some ⟨g1, 24, none⟩))) (g := gk) (h := ?_)
    refine fT (i := 1) (g := (gives_load g1 24 131 (cp2 (p)) (c2 ((p).z)) _ (by rfl) (fun _ h => h.blk 2 (by rfl)) (sl_p2z (p) _ _ 24 (Sl.refl _) (by rfl)) Tryd.underlying37 (by rfl) (hi_2 _))) (h := ?_)
    refine fT (i := 2) (u := (.iface 37 (.agg (c2 ((p).z))))) (g := gk) (h := ?_)
    refine fT (i := 3) (g := (gives_invoke (vl := []) (by rfl) (me2_Square _) (by kernel_rfl) (by rfl) (fun w h => q_square _ w (hG.keep h.below)))) (h := ?_)
    refine fT (i := 4) (u := (.pointer (some ⟨g2, 24, none⟩))) (g := gk) (h := ?_)
    refine fT (i := 5) (g := (gives_load g2 24 131 (cp2 (q)) (c2 ((q).z)) _ (by rfl) (fun _ h => h.blk 1 (by rfl)) (sl_p2z (q) _ _ 24 (Sl.refl _) (by rfl)) Tryd.underlying37 (by rfl) (hi_2 _))) (h := ?_)
    refine fT (i := 6) (u := (.iface 37 (.agg (c2 ((q).z))))) (g := gk) (h := ?_)
    refine fT (i := 7) (g := (gives_invoke (vl := []) (by rfl) (me2_Square _) (by kernel_rfl) (by rfl) (fun w h => q_square _ w (hG.keep h.below)))) (h := ?_)
    refine flow_two 8 9 (by kernel_rfl) ?_ ?_
    ·
      refine F_alloc _ (by rfl) (by rfl) z_2 (c2 (0 : F2)) rfl (List.Sublist.refl _) ?_; intro g_5
      refine flow_one 9 (by kernel_rfl) ?_
      refine F_alloc _ (by rfl) (by rfl) z_2 (c2 (0 : F2)) rfl (List.Sublist.cons _ (List.Sublist.refl _)) ?_; intro g_6
      refine flow_one 10 (by kernel_rfl) ?_
      refine F_store (t := 37) 1 g_5 _ _ (by rfl) (by rfl) (by rfl) (by rfl) (by rfl) (hi_2 _) ((c2_size _).trans (c2_size _).symm) (c2_one _) (.inr (List.Sublist.cons _ (List.Sublist.cons _ (List.Sublist.refl _)))) ?_
      simp only [List.set_cons_zero, List.set_cons_succ]
      refine flow_one 11 (by kernel_rfl) ?_
      refine F_store (t := 37) 0 g_6 _ _ (by rfl) (by rfl) (by rfl) (by rfl) (by rfl) (hi_2 _) ((c2_size _).trans (c2_size _).symm) (c2_one _) (.inr (List.Sublist.cons _ (List.Sublist.cons _ (List.Sublist.refl _)))) ?_
      simp only [List.set_cons_zero, List.set_cons_succ]
      refine flow_done (by kernel_rfl) ?_
      intro wz hz
      exact ⟨g_5, g_6, ((fr_comm _ _ _ _ (by decide))), hz.perm (List.Perm.swap _ _ _)⟩
    ·
      refine F_alloc _ (by rfl) (by rfl) z_2 (c2 (0 : F2)) rfl (List.Sublist.refl _) ?_; intro g_6
      refine flow_one 8 (by kernel_rfl) ?_
      refine F_alloc _ (by rfl) (by rfl) z_2 (c2 (0 : F2)) rfl (List.Sublist.cons _ (List.Sublist.refl _)) ?_; intro g_5
      refine flow_one 10 (by kernel_rfl) ?_
      refine F_store (t := 37) 0 g_5 _ _ (by rfl) (by rfl) (by rfl) (by rfl) (by rfl) (hi_2 _) ((c2_size _).trans (c2_size _).symm) (c2_one _) (.inr (List.Sublist.cons _ (List.Sublist.cons _ (List.Sublist.refl _)))) ?_
      simp only [List.set_cons_zero, List.set_cons_succ]
      refine flow_one 11 (by kernel_rfl) ?_
      refine F_store (t := 37) 1 g_6 _ _ (by rfl) (by rfl) (by rfl) (by rfl) (by rfl) (hi_2 _) ((c2_size _).trans (c2_size _).symm) (c2_one _) (.inr (List.Sublist.cons _ (List.Sublist.cons _ (List.Sublist.refl _)))) ?_
      simp only [List.set_cons_zero, List.set_cons_succ]
      refine flow_done (by kernel_rfl) ?_
      intro wz hz
      exact ⟨g_5, g_6, rfl, hz.perm (List.Perm.refl _)⟩
  ·
    rintro a0 w4 ⟨g4, g5, rfl, hw4⟩
    refine seq_flow_to (fun a w => ∃ g_7 g_8, a = fr 125 [(7, .pointer (some ⟨g_7, 0, none⟩)), (8, .pointer (some ⟨g_8, 0, none⟩)), (44, .agg (c2 (((q).x) * (((p).z) * ((p).z))))), (43, .agg (c2 (((p).z) * ((p).z)))), (42, .iface 37 (.agg (c2 ((q).x)))), (41, .agg (c2 ((q).x))), (40, .pointer (some ⟨g2, 0, none⟩)), (39, .agg (c2 (((p).x) * (((q).z) * ((q).z))))), (38, .agg (c2 (((q).z) * ((q).z)))), (37, .iface 37 (.agg (c2 ((p).x)))), (36, .agg (c2 ((p).x))), (35, .pointer (some ⟨g1, 0, none⟩)), (5, .pointer (some ⟨g4, 0, none⟩)), (6, .pointer (some ⟨g5, 0, none⟩)), (34, .agg (c2 (((q).z) * ((q).z)))), (33, .iface 37 (.agg (c2 ((q).z)))), (32, .agg (c2 ((q).z))), (31, .pointer (some ⟨g2, 24, none⟩)), (30, .agg (c2 (((p).z) * ((p).z)))), (29, .iface 37 (.agg (c2 ((p).z)))), (28, .agg (c2 ((p).z))), (27, .pointer (some ⟨g1, 24, none⟩)), (25, .bool false), (24, .iface 37 (.agg (c2 ((q).z)))), (23, .agg (c2 ((q).z))), (22, .pointer (some ⟨g2, 24, none⟩)), (20, .bool false), (19, .iface 37 (.agg (c2 ((p).z)))), (18, .agg (c2 ((p).z))), (17, .pointer (some ⟨g1, 24, none⟩)), (4, .pointer (some ⟨g3, 0, none⟩)), (3, .pointer (some ⟨g2, 0, none⟩)), (2, .pointer (some ⟨g1, 0, none⟩)), (1, .agg (cp2 (q))), (0, .agg (cp2 (p)))] ∧ Hbl v [(g_7, 37, (c2 (((p).x) * (((q).z) * ((q).z))))), (g_8, 37, (c2 (((q).x) * (((p).z) * ((p).z))))), (g4, 37, (c2 (((p).z) * ((p).z)))), (g5, 37, (c2 (((q).z) * ((q).z)))), (g3, 131, (cp2 (0 : J3 F2))), (g2, 131, (cp2 (q))), (g1, 131, (cp2 (p)))] w) (by kernel_rfl) hw4 [] [(g4, 37, (c2 (((p).z) * ((p).z)))), (g5, 37, (c2 (((q).z) * ((q).z)))), (g3, 131, (cp2 (0 : J3 F2))), (g2, 131, (cp2 (q))), (g1, 131, (cp2 (p)))] 14 (by rfl) ?_ ?_
    ·
      refine fT (i := 0) (u := (.pointer (some ⟨g1, 0, none⟩))) (g := gk) (h := ?_)
      refine fT (i := 1) (g := (gives_load g1 0 131 (cp2 (p)) (c2 ((p).x)) _ (by rfl) (fun _ h => h.blk 4 (by rfl)) (sl_p2x (p) _ _ (Sl.refl _)) Tryd.underlying37 (by rfl) (hi_2 _))) (h := ?_)
      refine fT (i := 2) (u := (.iface 37 (.agg (c2 ((p).x))))) (g := gk) (h := ?_)
      refine fT (i := 3) (g := (gL g5 37 (c2 (((q).z) * ((q).z))) 1 Tryd.underlying37 (hi_2 _))) (h := ?_)
      refine fT (i := 4) (g := (gives_invoke (vl := [.agg (c2 (((q).z) * ((q).z)))]) (by rfl) (me2_Mul _) (by kernel_rfl) (by rfl) (fun w h => q_mul _ _ w (hG.keep h.below)))) (h := ?_)
      refine fT (i := 5) (u := (.pointer (some ⟨g2, 0, none⟩))) (g := gk) (h := ?_)
      refine fT (i := 6) (g := (gives_load g2 0 131 (cp2 (q)) (c2 ((q).x)) _ (by rfl) (fun _ h => h.blk 3 (by rfl)) (sl_p2x (q) _ _ (Sl.refl _)) Tryd.underlying37 (by rfl) (hi_2 _))) (h := ?_)
      refine fT (i := 7) (u := (.iface 37 (.agg (c2 ((q).x))))) (g := gk) (h := ?_)
      refine fT (i := 8) (g := (gL g4 37 (c2 (((p).z) * ((p).z))) 0 Tryd.underlying37 (hi_2 _))) (h := ?_)
      refine fT (i := 9) (g := (gives_invoke (vl := [.agg (c2 (((p).z) * ((p).z)))]) (by rfl) (me2_Mul _) (by kernel_rfl) (by rfl) (fun w h => q_mul _ _ w (hG.keep h.below)))) (h := ?_)
      refine flow_two 10 11 (by kernel_rfl) ?_ ?_
      ·
        refine F_alloc _ (by rfl) (by rfl) z_2 (c2 (0 : F2)) rfl (List.Sublist.refl _) ?_; intro g_7
        refine flow_one 11 (by kernel_rfl) ?_
        refine F_alloc _ (by rfl) (by rfl) z_2 (c2 (0 : F2)) rfl (List.Sublist.cons _ (List.Sublist.refl _)) ?_; intro g_8
        refine flow_one 12 (by kernel_rfl) ?_
        refine F_store (t := 37) 1 g_7 _ _ (by rfl) (by rfl) (by rfl) (by rfl) (by rfl) (hi_2 _) ((c2_size _).trans (c2_size _).symm) (c2_one _) (.inr (List.Sublist.cons _ (List.Sublist.cons _ (List.Sublist.refl _)))) ?_
        simp only [List.set_cons_zero, List.set_cons_succ]
        refine flow_one 13 (by kernel_rfl) ?_
        refine F_store (t := 37) 0 g_8 _ _ (by rfl) (by rfl) (by rfl) (by rfl) (by rfl) (hi_2 _) ((c2_size _).trans (c2_size _).symm) (c2_one _) (.inr (List.Sublist.cons _ (List.Sublist.cons _ (List.Sublist.refl _)))) ?_
        simp only [List.set_cons_zero, List.set_cons_succ]
        refine flow_done (by kernel_rfl) ?_
        intro wz hz
        exact ⟨g_7, g_8, ((fr_comm _ _ _ _ (by decide))), hz.perm (List.Perm.swap _ _ _)⟩
      ·
        refine F_alloc _ (by rfl) (by rfl) z_2 (c2 (0 : F2)) rfl (List.Sublist.refl _) ?_; intro g_8
        refine flow_one 10 (by kernel_rfl) ?_
        refine F_alloc _ (by rfl) (by rfl) z_2 (c2 (0 : F2)) rfl (List.Sublist.cons _ (List.Sublist.refl _)) ?_; intro g_7
        refine flow_one 12 (by kernel_rfl) ?_
        refine F_store (t := 37) 0 g_7 _ _ (by rfl) (by rfl) (by rfl) (by rfl) (by rfl) (hi_2 _) ((c2_size _).trans (c2_size _).symm) (c2_one _) (.inr (List.Sublist.cons _ (List.Sublist.cons _ (List.Sublist.refl _)))) ?_
        simp only [List.set_cons_zero, List.set_cons_succ]
        refine flow_one 13 (by kernel_rfl) ?_
        refine F_store (t := 37) 1 g_8 _ _ (by rfl) (by rfl) (by rfl) (by rfl) (by rfl) (hi_2 _) ((c2_size _).trans (c2_size _).symm) (c2_one _) (.inr (List.Sublist.cons _ (List.Sublist.cons _ (List.Sublist.refl _)))) ?_
        simp only [List.set_cons_zero, List.set_cons_succ]
        refine flow_done (by kernel_rfl) ?_
        intro wz hz
        exact ⟨g_7, g_8, rfl, hz.perm (List.Perm.refl _)⟩
    ·
      rintro a0 w5 ⟨g6, g7, rfl, hw5⟩
      refine seq_flow_to (fun a w => ∃ g_9 g_10, a = fr 125 [(9, .pointer (some ⟨g_9, 0, none⟩)), (10, .pointer (some ⟨g_10, 0, none⟩)), (62, .agg (c2 ((((q).y) * (((p).z) * ((p).z))) * ((p).z)))), (61, .agg (c2 ((p).z))), (60, .pointer (some ⟨g1, 24, none⟩)), (59, .iface 37 (.agg (c2 (((q).y) * (((p).z) * ((p).z)))))), (58, .agg (c2 (((q).y) * (((p).z) * ((p).z))))), (57, .agg (c2 (((p).z) * ((p).z)))), (56, .iface 37 (.agg (c2 ((q).y)))), (55, .agg (c2 ((q).y))), (54, .pointer (some ⟨g2, 12, none⟩)), (53, .agg (c2 ((((p).y) * (((q).z) * ((q).z))) * ((q).z)))), (52, .agg (c2 ((q).z))), (51, .pointer (some ⟨g2, 24, none⟩)), (50, .iface 37 (.agg (c2 (((p).y) * (((q).z) * ((q).z)))))), (49, .agg (c2 (((p).y) * (((q).z) * ((q).z))))), (48, .agg (c2 (((q).z) * ((q).z)))), (47, .iface 37 (.agg (c2 ((p).y)))), (46, .agg (c2 ((p).y))), (45, .pointer (some ⟨g1, 12, none⟩)), (7, .pointer (some ⟨g6, 0, none⟩)), (8, .pointer (some ⟨g7, 0, none⟩)), (44, .agg (c2 (((q).x) * (((p).z) * ((p).z))))), (43, .agg (c2 (((p).z) * ((p).z)))), (42, .iface 37 (.agg (c2 ((q).x)))), (41, .agg (c2 ((q).x))), (40, .pointer (some ⟨g2, 0, none⟩)), (39, .agg (c2 (((p).x) * (((q).z) * ((q).z))))), (38, .agg (c2 (((q).z) * ((q).z)))), (37, .iface 37 (.agg (c2 ((p).x)))), (36, .agg (c2 ((p).x))), (35, .pointer (some ⟨g1, 0, none⟩)), (5, .pointer (some ⟨g4, 0, none⟩)), (6, .pointer (some ⟨g5, 0, none⟩)), (34, .agg (c2 (((q).z) * ((q).z)))), (33, .iface 37 (.agg (c2 ((q).z)))), (32, .agg (c2 ((q).z))), (31, .pointer (some ⟨g2, 24, none⟩)), (30, .agg (c2 (((p).z) * ((p).z)))), (29, .iface 37 (.agg (c2 ((p).z)))), (28, .agg (c2 ((p).z))), (27, .pointer (some ⟨g1, 24, none⟩)), (25, .bool false), (24, .iface 37 (.agg (c2 ((q).z)))), (23, .agg (c2 ((q).z))), (22, .pointer (some ⟨g2, 24, none⟩)), (20, .bool false), (19, .iface 37 (.agg (c2 ((p).z)))), (18, .agg (c2 ((p).z))), (17, .pointer (some ⟨g1, 24, none⟩)), (4, .pointer (some ⟨g3, 0, none⟩)), (3, .pointer (some ⟨g2, 0, none⟩)), (2, .pointer (some ⟨g1, 0, none⟩)), (1, .agg (cp2 (q))), (0, .agg (cp2 (p)))] ∧ Hbl v [(g_9, 37, (c2 ((((p).y) * (((q).z) * ((q).z))) * ((q).z)))), (g_10, 37, (c2 ((((q).y) * (((p).z) * ((p).z))) * ((p).z)))), (g6, 37, (c2 (((p).x) * (((q).z) * ((q).z))))), (g7, 37, (c2 (((q).x) * (((p).z) * ((p).z))))), (g4, 37, (c2 (((p).z) * ((p).z)))), (g5, 37, (c2 (((q).z) * ((q).z)))), (g3, 131, (cp2 (0 : J3 F2))), (g2, 131, (cp2 (q))), (g1, 131, (cp2 (p)))] w) (by kernel_rfl) hw5 [] [(g6, 37, (c2 (((p).x) * (((q).z) * ((q).z))))), (g7, 37, (c2 (((q).x) * (((p).z) * ((p).z))))), (g4, 37, (c2 (((p).z) * ((p).z)))), (g5, 37, (c2 (((q).z) * ((q).z)))), (g3, 131, (cp2 (0 : J3 F2))), (g2, 131, (cp2 (q))), (g1, 131, (cp2 (p)))] 22 (by rfl) ?_ ?_
      ·
        refine fT (i := 0) (u := (.pointer (some ⟨g1, 12, none⟩))) (g := gk) (h := ?_)
        refine fT (i := 1) (g := (gives_load g1 12 131 (cp2 (p)) (c2 ((p).y)) _ (by rfl) (fun _ h => h.blk 6 (by rfl)) (sl_p2y (p) _ _ 12 (Sl.refl _) (by rfl)) Tryd.underlying37 (by rfl) (hi_2 _))) (h := ?_)
        refine fT (i := 2) (u := (.iface 37 (.agg (c2 ((p).y))))) (g := gk) (h := ?_)
        refine fT (i := 3) (g := (gL g5 37 (c2 (((q).z) * ((q).z))) 3 Tryd.underlying37 (hi_2 _))) (h := ?_)
        refine fT (i := 4) (g := (gives_invoke (vl := [.agg (c2 (((q).z) * ((q).z)))]) (by rfl) (me2_Mul _) (by kernel_rfl) (by rfl) (fun w h => q_mul _ _ w (hG.keep h.below)))) (h := ?_)
        refine fT (i := 5) (u := (.iface 37 (.agg (c2 (((p).y) * (((q).z) * ((q).z))))))) (g := gk) (h := ?_)
        refine fT (i := 6) (u := (.pointer (some ⟨g2, 24, none⟩))) (g := gk) (h := ?_)
        refine fT (i := 7) (g := (gives_load g2 24 131 (cp2 (q)) (c2 ((q).z)) _ (by rfl) (fun _ h => h.blk 5 (by rfl)) (sl_p2z (q) _ _ 24 (Sl.refl _) (by rfl)) Tryd.underlying37 (by rfl) (hi_2 _))) (h := ?_)
        refine fT (i := 8) (g := (gives_invoke (vl := [.agg (c2 ((q).z))]) (by rfl) (me2_Mul _) (by kernel_rfl) (by rfl) (fun w h => q_mul _ _ w (hG.keep h.below)))) (h := ?_)
        refine fT (i := 9) (u := (.pointer (some ⟨g2, 12, none⟩))) (g := gk) (h := ?_)
        refine fT (i := 10) (g := (gives_load g2 12 131 (cp2 (q)) (c2 ((q).y)) _ (by rfl) (fun _ h => h.blk 5 (by rfl)) (sl_p2y (q) _ _ 12 (Sl.refl _) (by rfl)) Tryd.underlying37 (by rfl) (hi_2 _))) (h := ?_)
        refine fT (i := 11) (u := (.iface 37 (.agg (c2 ((q).y))))) (g := gk) (h := ?_)
        refine fT (i := 12) (g := (gL g4 37 (c2 (((p).z) * ((p).z))) 2 Tryd.underlying37 (hi_2 _))) (h := ?_)
        refine fT (i := 13) (g := (gives_invoke (vl := [.agg (c2 (((p).z) * ((p).z)))]) (by rfl) (me2_Mul _) (by kernel_rfl) (by rfl) (fun w h => q_mul _ _ w (hG.keep h.below)))) (h := ?_)
        refine fT (i := 14) (u := (.iface 37 (.agg (c2 (((q).y) * (((p).z) * ((p).z))))))) (g := gk) (h := ?_)
        refine fT (i := 15) (u := (.pointer (some ⟨g1, 24, none⟩))) (g := gk) (h := ?_)
        refine fT (i := 16) (g := (gives_load g1 24 131 (cp2 (p)) (c2 ((p).z)) _ (by rfl) (fun _ h => h.blk 6 (by rfl)) (sl_p2z (p) _ _ 24 (Sl.refl _) (by rfl)) Tryd.underlying37 (by rfl) (hi_2 _))) (h := ?_)
        refine fT (i := 17) (g := (gives_invoke (vl := [.agg (c2 ((p).z))]) (by rfl) (me2_Mul _) (by kernel_rfl) (by rfl) (fun w h => q_mul _ _ w (hG.keep h.below)))) (h := ?_)
        refine flow_two 18 19 (by kernel_rfl) ?_ ?_
        ·
          refine F_alloc _ (by rfl) (by rfl) z_2 (c2 (0 : F2)) rfl (List.Sublist.refl _) ?_; intro g_9
          refine flow_one 19 (by kernel_rfl) ?_
          refine F_alloc _ (by rfl) (by rfl) z_2 (c2 (0 : F2)) rfl (List.Sublist.cons _ (List.Sublist.refl _)) ?_; intro g_10
          refine flow_one 20 (by kernel_rfl) ?_
          refine F_store (t := 37) 1 g_9 _ _ (by rfl) (by rfl) (by rfl) (by rfl) (by rfl) (hi_2 _) ((c2_size _).trans (c2_size _).symm) (c2_one _) (.inr (List.Sublist.cons _ (List.Sublist.cons _ (List.Sublist.refl _)))) ?_
          simp only [List.set_cons_zero, List.set_cons_succ]
          refine flow_one 21 (by kernel_rfl) ?_
          refine F_store (t := 37) 0 g_10 _ _ (by rfl) (by rfl) (by rfl) (by rfl) (by rfl) (hi_2 _) ((c2_size _).trans (c2_size _).symm) (c2_one _) (.inr (List.Sublist.cons _ (List.Sublist.cons _ (List.Sublist.refl _)))) ?_
          simp only [List.set_cons_zero, List.set_cons_succ]
          refine flow_done (by kernel_rfl) ?_
          intro wz hz
          exact ⟨g_9, g_10, ((fr_comm _ _ _ _ (by decide))), hz.perm (List.Perm.swap _ _ _)⟩
        ·
          refine F_alloc _ (by rfl) (by rfl) z_2 (c2 (0 : F2)) rfl (List.Sublist.refl _) ?_; intro g_10
          refine flow_one 18 (by kernel_rfl) ?_
          refine F_alloc _ (by rfl) (by rfl) z_2 (c2 (0 : F2)) rfl (List.Sublist.cons _ (List.Sublist.refl _)) ?_; intro g_9
          refine flow_one 20 (by kernel_rfl) ?_
          refine F_store (t := 37) 0 g_9 _ _ (by rfl) (by rfl) (by rfl) (by rfl) (by rfl) (hi_2 _) ((c2_size _).trans (c2_size _).symm) (c2_one _) (.inr (List.Sublist.cons _ (List.Sublist.cons _ (List.Sublist.refl _)))) ?_
          simp only [List.set_cons_zero, List.set_cons_succ]
          refine flow_one 21 (by kernel_rfl) ?_
          refine F_store (t := 37) 1 g_10 _ _ (by rfl) (by rfl) (by rfl) (by rfl) (by rfl) (hi_2 _) ((c2_size _).trans (c2_size _).symm) (c2_one _) (.inr (List.Sublist.cons _ (List.Sublist.cons _ (List.Sublist.refl _)))) ?_
          simp only [List.set_cons_zero, List.set_cons_succ]
          refine flow_done (by kernel_rfl) ?_
          intro wz hz
          exact ⟨g_9, g_10, rfl, hz.perm (List.Perm.refl _)⟩
      ·
        rintro a0 w6 ⟨g8, g9, rfl, hw6⟩
        refine seq_flow_to (fun a w => ∃ g_11 g_12, a = fr 125 [(11, .pointer (some ⟨g_11, 0, none⟩)), (12, .pointer (some ⟨g_12, 0, none⟩)), (70, .agg (c2 (cc_4 p q))), (69, .agg (c2 ((((p).y) * (((q).z) * ((q).z))) * ((q).z)))), (68, .iface 37 (.agg (c2 ((((q).y) * (((p).z) * ((p).z))) * ((p).z))))), (67, .agg (c2 ((((q).y) * (((p).z) * ((p).z))) * ((p).z)))), (66, .agg (c2 (cc_2 p q))), (65, .agg (c2 (((p).x) * (((q).z) * ((q).z))))), (64, .iface 37 (.agg (c2 (((q).x) * (((p).z) * ((p).z)))))), (63, .agg (c2 (((q).x) * (((p).z) * ((p).z))))), (9, .pointer (some ⟨g8, 0, none⟩)), (10, .pointer (some ⟨g9, 0, none⟩)), (62, .agg (c2 ((((q).y) * (((p).z) * ((p).z))) * ((p).z)))), (61, .agg (c2 ((p).z))), (60, .pointer (some ⟨g1, 24, none⟩)), (59, .iface 37 (.agg (c2 (((q).y) * (((p).z) * ((p).z)))))), (58, .agg (c2 (((q).y) * (((p).z) * ((p).z))))), (57, .agg (c2 (((p).z) * ((p).z)))), (56, .iface 37 (.agg (c2 ((q).y)))), (55, .agg (c2 ((q).y))), (54, .pointer (some ⟨g2, 12, none⟩)), (53, .agg (c2 ((((p).y) * (((q).z) * ((q).z))) * ((q).z)))), (52, .agg (c2 ((q).z))), (51, .pointer (some ⟨g2, 24, none⟩)), (50, .iface 37 (.agg (c2 (((p).y) * (((q).z) * ((q).z)))))), (49, .agg (c2 (((p).y) * (((q).z) * ((q).z))))), (48, .agg (c2 (((q).z) * ((q).z)))), (47, .iface 37 (.agg (c2 ((p).y)))), (46, .agg (c2 ((p).y))), (45, .pointer (some ⟨g1, 12, none⟩)), (7, .pointer (some ⟨g6, 0, none⟩)), (8, .pointer (some ⟨g7, 0, none⟩)), (44, .agg (c2 (((q).x) * (((p).z) * ((p).z))))), (43, .agg (c2 (((p).z) * ((p).z)))), (42, .iface 37 (.agg (c2 ((q).x)))), (41, .agg (c2 ((q).x))), (40, .pointer (some ⟨g2, 0, none⟩)), (39, .agg (c2 (((p).x) * (((q).z) * ((q).z))))), (38, .agg (c2 (((q).z) * ((q).z)))), (37, .iface 37 (.agg (c2 ((p).x)))), (36, .agg (c2 ((p).x))), (35, .pointer (some ⟨g1, 0, none⟩)), (5, .pointer (some ⟨g4, 0, none⟩)), (6, .pointer (some ⟨g5, 0, none⟩)), (34, .agg (c2 (((q).z) * ((q).z)))), (33, .iface 37 (.agg (c2 ((q).z)))), (32, .agg (c2 ((q).z))), (31, .pointer (some ⟨g2, 24, none⟩)), (30, .agg (c2 (((p).z) * ((p).z)))), (29, .iface 37 (.agg (c2 ((p).z)))), (28, .agg (c2 ((p).z))), (27, .pointer (some ⟨g1, 24, none⟩)), (25, .bool false), (24, .iface 37 (.agg (c2 ((q).z)))), (23, .agg (c2 ((q).z))), (22, .pointer (some ⟨g2, 24, none⟩)), (20, .bool false), (19, .iface 37 (.agg (c2 ((p).z)))), (18, .agg (c2 ((p).z))), (17, .pointer (some ⟨g1, 24, none⟩)), (4, .pointer (some ⟨g3, 0, none⟩)), (3, .pointer (some ⟨g2, 0, none⟩)), (2, .pointer (some ⟨g1, 0, none⟩)), (1, .agg (cp2 (q))), (0, .agg (cp2 (p)))] ∧ Hbl v [(g_11, 37, (c2 (cc_2 p q))), (g_12, 37, (c2 (cc_4 p q))), (g8, 37, (c2 ((((p).y) * (((q).z) * ((q).z))) * ((q).z)))), (g9, 37, (c2 ((((q).y) * (((p).z) * ((p).z))) * ((p).z)))), (g6, 37, (c2 (((p).x) * (((q).z) * ((q).z))))), (g7, 37, (c2 (((q).x) * (((p).z) * ((p).z))))), (g4, 37, (c2 (((p).z) * ((p).z)))), (g5, 37, (c2 (((q).z) * ((q).z)))), (g3, 131, (cp2 (0 : J3 F2))), (g2, 131, (cp2 (q))), (g1, 131, (cp2 (p)))] w) (by kernel_rfl) hw6 [] [(g8, 37, (c2 ((((p).y) * (((q).z) * ((q).z))) * ((q).z)))), (g9, 37, (c2 ((((q).y) * (((p).z) * ((p).z))) * ((p).z)))), (g6, 37, (c2 (((p).x) * (((q).z) * ((q).z))))), (g7, 37, (c2 (((q).x) * (((p).z) * ((p).z))))), (g4, 37, (c2 (((p).z) * ((p).z)))), (g5, 37, (c2 (((q).z) * ((q).z)))), (g3, 131, (cp2 (0 : J3 F2))), (g2, 131, (cp2 (q))), (g1, 131, (cp2 (p)))] 12 (by rfl) ?_ ?_
        ·
          refine fT (i := 0) (g := (gL g7 37 (c2 (((q).x) * (((p).z) * ((p).z)))) 3 Tryd.underlying37 (hi_2 _))) (h := ?_)
          refine fT (i := 1) (u := (.iface 37 (.agg (c2 (((q).x) * (((p).z) * ((p).z))))))) (g := gk) (h := ?_)
          refine fT (i := 2) (g := (gL g6 37 (c2 (((p).x) * (((q).z) * ((q).z)))) 2 Tryd.underlying37 (hi_2 _))) (h := ?_)
          refine fT (i := 3) (g := (gives_invoke (vl := [.agg (c2 (((p).x) * (((q).z) * ((q).z))))]) (by rfl) (me2_Sub _) (by kernel_rfl) (by rfl) (fun w h => q_sub _ _ w (hG.keep h.below)))) (h := ?_)
          refine fT (i := 4) (g := (gL g9 37 (c2 ((((q).y) * (((p).z) * ((p).z))) * ((p).z))) 1 Tryd.underlying37 (hi_2 _))) (h := ?_)
          refine fT (i := 5) (u := (.iface 37 (.agg (c2 ((((q).y) * (((p).z) * ((p).z))) * ((p).z)))))) (g := gk) (h := ?_)
          refine fT (i := 6) (g := (gL g8 37 (c2 ((((p).y) * (((q).z) * ((q).z))) * ((q).z))) 0 Tryd.underlying37 (hi_2 _))) (h := ?_)
          refine fT (i := 7) (g := (gives_invoke (vl := [.agg (c2 ((((p).y) * (((q).z) * ((q).z))) * ((q).z)))]) (by rfl) (me2_Sub _) (by kernel_rfl) (by rfl) (fun w h => q_sub _ _ w (hG.keep h.below)))) (h := ?_)
          refine flow_two 8 9 (by kernel_rfl) ?_ ?_
          ·
            refine F_alloc _ (by rfl) (by rfl) z_2 (c2 (0 : F2)) rfl (List.Sublist.refl _) ?_; intro g_11
            refine flow_one 9 (by kernel_rfl) ?_
            refine F_alloc _ (by rfl) (by rfl) z_2 (c2 (0 : F2)) rfl (List.Sublist.cons _ (List.Sublist.refl _)) ?_; intro g_12
            refine flow_one 10 (by kernel_rfl) ?_
            refine F_store (t := 37) 1 g_11 _ _ (by rfl) (by rfl) (by rfl) (by rfl) (by rfl) (hi_2 _) ((c2_size _).trans (c2_size _).symm) (c2_one _) (.inr (List.Sublist.cons _ (List.Sublist.cons _ (List.Sublist.refl _)))) ?_
            simp only [List.set_cons_zero, List.set_cons_succ]
            refine flow_one 11 (by kernel_rfl) ?_
            refine F_store (t := 37) 0 g_12 _ _ (by rfl) (by rfl) (by rfl) (by rfl) (by rfl) (hi_2 _) ((c2_size _).trans (c2_size _).symm) (c2_one _) (.inr (List.Sublist.cons _ (List.Sublist.cons _ (List.Sublist.refl _)))) ?_
            simp only [List.set_cons_zero, List.set_cons_succ]
            refine flow_done (by kernel_rfl) ?_
            intro wz hz
            exact ⟨g_11, g_12, ((fr_comm _ _ _ _ (by decide))), hz.perm (List.Perm.swap _ _ _)⟩
          ·
            refine F_alloc _ (by rfl) (by rfl) z_2 (c2 (0 : F2)) rfl (List.Sublist.refl _) ?_; intro g_12
            refine flow_one 8 (by kernel_rfl) ?_
            refine F_alloc _ (by rfl) (by rfl) z_2 (c2 (0 : F2)) rfl (List.Sublist.cons _ (List.Sublist.refl _)) ?_; intro g_11
            refine flow_one 10 (by kernel_rfl) ?_
            refine F_store (t := 37) 0 g_11 _ _ (by rfl) (by rfl) (by rfl) (by rfl) (by rfl) (hi_2 _) ((c2_size _).trans (c2_size _).symm) (c2_one _) (.inr (List.Sublist.cons _ (List.Sublist.cons _ (List.Sublist.refl _)))) ?_
            simp only [List.set_cons_zero, List.set_cons_succ]
            refine flow_one 11 (by kernel_rfl) ?_
            refine F_store (t := 37) 1 g_12 _ _ (by rfl) (by rfl) (by rfl) (by rfl) (by rfl) (hi_2 _) ((c2_size _).trans (c2_size _).symm) (c2_one _) (.inr (List.Sublist.cons _ (List.Sublist.cons _ (List.Sublist.refl _)))) ?_
            simp only [List.set_cons_zero, List.set_cons_succ]
            refine flow_done (by kernel_rfl) ?_
            intro wz hz
            exact ⟨g_11, g_12, rfl, hz.perm (List.Perm.refl _)⟩
        ·
          rintro a0 w7 ⟨g10, g11, rfl, hw7⟩
          refine wp_seq ?_
          refine seq_plain hw7 [0, 1, 2] (by rfl) ?_
          refine L_val (.agg (c2 (cc_2 p q))) (by rfl) (by rfl) (gL g10 37 (c2 (cc_2 p q)) 0 Tryd.underlying37 (hi_2 _)) ?_
          refine L_val (.iface 37 (.agg (c2 (cc_2 p q)))) (by rfl) (by rfl) gk ?_
          refine L_val (.bool true) (by rfl) (by rfl) (gives_invoke (vl := []) (by rfl) (me2_Zero _) (by kernel_rfl) (by rfl) (fun w h => q_zero_t w (hG.keep h.below) hw0)) ?_
          refine L_end ?_
          intro w8 hw8
          refine wp_cond_true (fr_at _ _ (by rfl) _) ?_
          refine seq_plain hw8 [0, 1, 2, 3] (by rfl) ?_
          refine L_val (.agg (cp2 (p))) (by rfl) (by rfl) (gL g1 131 (cp2 (p)) 10 Tryd.underlying131 (hi_p2 _)) ?_
          refine L_val (.agg (c2 (cc_4 p q))) (by rfl) (by rfl) (gL g11 37 (c2 (cc_4 p q)) 1 Tryd.underlying37 (hi_2 _)) ?_
          refine L_val (.agg (cp2 (0 : J3 F2))) (by rfl) (by rfl) (gives_call (vl := [.agg (cp2 (p)), .agg (c2 (cc_4 p q))]) (by kernel_rfl) (by rfl) (fun w h => k2_up_n _ _ w (hG.keep h.below) hh)) ?_
          refine L_store (t := 131) 8 g3 _ _ (by rfl) (by rfl) (by rfl) (by rfl) (by rfl) (hi_p2 _) ((cp2_size _).trans (cp2_size _).symm) (cp2_one _) ?_
          simp only [List.set_cons_zero, List.set_cons_succ]
          refine L_end ?_
          intro w9 hw9
          refine wp_ret ?_
          change bodyPost _ _ _ Exit.ret _ _
          refine (ret_cell (by rfl) (by rfl) (by rfl) (hw9.blk 8 (by rfl)) Tryd.underlying131 (by rfl) (hi_p2 _) ⟨?_, hw9.below⟩)
          refine congrArg (fun z : J3 F2 => Ending.returned (.agg (cp2 z))) ?_
          exact ((if_neg hp).trans ((if_neg hq).trans ((if_pos hw0).trans (if_neg hh)))).symm
end Go.Proofs.YtialfoccalobpaaDoor
