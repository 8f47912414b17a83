/-
  Sums of points, as the program reckons them: over the field above.
-/
import Derived.Test.YtialfoccalobpaaDoorWBCvB0
namespace Go.Proofs.YtialfoccalobpaaDoor
set_option linter.unusedSimpArgs false
set_option linter.unusedVariables false
open Go.RowKit
abbrev ce_0 (p q : J3 F2) : F2 := ((((q).x) * (((p).z) * ((p).z))) - (((p).x) * (((q).z) * ((q).z))))
abbrev ce_1 (p q : J3 F2) : F2 := (((((q).y) * (((p).z) * ((p).z))) * ((p).z)) - ((((p).y) * (((q).z) * ((q).z))) * ((q).z)))
abbrev ce_2 (p q : J3 F2) : F2 := ((ce_0 p q) * (ce_0 p q))
abbrev ce_3 (p q : J3 F2) : F2 := ((((p).x) * (((q).z) * ((q).z))) * (ce_2 p q))
abbrev ce_4 (p q : J3 F2) : F2 := ((ce_1 p q) * (ce_1 p q))
abbrev ce_5 (p q : J3 F2) : F2 := ((ce_2 p q) * (ce_0 p q))
abbrev ce_6 (p q : J3 F2) : F2 := (((((p).y) * (((q).z) * ((q).z))) * ((q).z)) * (ce_5 p q))
abbrev ce_7 (p q : J3 F2) : F2 := ((ce_4 p q) - (ce_5 p q))
abbrev ce_8 (p q : J3 F2) : F2 := ((ce_7 p q) - (ce_3 p q))
abbrev ce_9 (p q : J3 F2) : F2 := ((ce_8 p q) - (ce_3 p q))
abbrev ce_10 (p q : J3 F2) : F2 := ((ce_3 p q) - (ce_9 p q))
abbrev ce_11 (p q : J3 F2) : F2 := ((ce_1 p q) * (ce_10 p q))
abbrev ce_12 (p q : J3 F2) : F2 := ((ce_11 p q) - (ce_6 p q))
attribute [local irreducible] wpL wpF fr Code.wp bodyPost
set_option maxRecDepth 100000 in
set_option maxHeartbeats 4000000 in
theorem k2_add_c (p q : J3 F2) (v : World) (hG : Glo v) (hp : p.z ≠ 0) (hq : q.z ≠ 0) (hw0 : J3.wide p q ≠ 0) : Rets 85 #[.agg (cp2 (p)), .agg (cp2 (q))] v (.agg (cp2 (J3.add p q))) := by
  refine calls_fr2 Tryd.func85 rfl (by rfl : _ = 125) (by rfl) ?_
  have hw := Hbl.nil v
  refine seq_plain hw [0, 1, 2] (by rfl) ?_
  refine L_box (.agg (cp2 (p))) (by rfl) (by rfl) (by rfl) (cp2 (p)) (by rfl) ?_; intro g1
  refine L_box (.agg (cp2 (q))) (by rfl) (by rfl) (by rfl) (cp2 (q)) (by rfl) ?_; intro g2
  refine L_alloc _ (by rfl) (by rfl) z_p2 (cp2 (0 : J3 F2)) rfl ?_; intro g3
  refine L_end ?_
  intro w1 hw1
  refine wp_seq ?_
  refine seq_plain hw1 [0, 1, 2, 3] (by rfl) ?_
  refine L_val (.pointer (some ⟨g1, 24, none⟩)) (by rfl) (by rfl) gk ?_
  refine L_val (.agg (c2 ((p).z))) (by rfl) (by rfl) (gives_load g1 24 131 (cp2 (p)) (c2 ((p).z)) _ (by rfl) (fun _ h => h.blk 2 (by rfl)) (sl_p2z (p) _ _ 24 (Sl.refl _) (by rfl)) Tryd.underlying37 (by rfl) (hi_2 _)) ?_
  refine L_val (.iface 37 (.agg (c2 ((p).z)))) (by rfl) (by rfl) gk ?_
  refine L_val (.bool false) (by rfl) (by rfl) (gives_invoke (vl := []) (by rfl) (me2_Zero _) (by kernel_rfl) (by rfl) (fun w h => q_zero_f w (hG.keep h.below) hp)) ?_
  refine L_end ?_
  intro w2 hw2
  refine wp_cond_false (fr_at _ _ (by rfl) _) ?_
  refine wp_skip ?_
  change Code.wp _ _ _ _ _
  refine wp_seq ?_
  refine seq_plain hw2 [0, 1, 2, 3] (by rfl) ?_
  refine L_val (.pointer (some ⟨g2, 24, none⟩)) (by rfl) (by rfl) gk ?_
  refine L_val (.agg (c2 ((q).z))) (by rfl) (by rfl) (gives_load g2 24 131 (cp2 (q)) (c2 ((q).z)) _ (by rfl) (fun _ h => h.blk 1 (by rfl)) (sl_p2z (q) _ _ 24 (Sl.refl _) (by rfl)) Tryd.underlying37 (by rfl) (hi_2 _)) ?_
  refine L_val (.iface 37 (.agg (c2 ((q).z)))) (by rfl) (by rfl) gk ?_
  refine L_val (.bool false) (by rfl) (by rfl) (gives_invoke (vl := []) (by rfl) (me2_Zero _) (by kernel_rfl) (by rfl) (fun w h => q_zero_f w (hG.keep h.below) hq)) ?_
  refine L_end ?_
  intro w3 hw3
  refine wp_cond_false (fr_at _ _ (by rfl) _) ?_
  refine wp_skip ?_
  change Code.wp _ _ _ _ _
  refine seq_flow_to (fun a w => ∃ g_5 g_6, a = fr 125 [(5, .pointer (some ⟨g_5, 0, none⟩)), (6, .pointer (some ⟨g_6, 0, none⟩)), (34, .agg (c2 (((q).z) * ((q).z)))), (33, .iface 37 (.agg (c2 ((q).z)))), (32, .agg (c2 ((q).z))), (31, .pointer (some ⟨g2, 24, none⟩)), (30, .agg (c2 (((p).z) * ((p).z)))), (29, .iface 37 (.agg (c2 ((p).z)))), (28, .agg (c2 ((p).z))), (27, .pointer (some ⟨g1, 24, none⟩)), (25, .bool false), (24, .iface 37 (.agg (c2 ((q).z)))), (23, .agg (c2 ((q).z))), (22, .pointer (some ⟨g2, 24, none⟩)), (20, .bool false), (19, .iface 37 (.agg (c2 ((p).z)))), (18, .agg (c2 ((p).z))), (17, .pointer (some ⟨g1, 24, none⟩)), (4, .pointer (some ⟨g3, 0, none⟩)), (3, .pointer (some ⟨g2, 0, none⟩)), (2, .pointer (some ⟨g1, 0, none⟩)), (1, .agg (cp2 (q))), (0, .agg (cp2 (p)))] ∧ Hbl v [(g_5, 37, (c2 (((p).z) * ((p).z)))), (g_6, 37, (c2 (((q).z) * ((q).z)))), (g3, 131, (cp2 (0 : J3 F2))), (g2, 131, (cp2 (q))), (g1, 131, (cp2 (p)))] w) (by kernel_rfl) hw3 [] [(g3, 131, (cp2 (0 : J3 F2))), (g2, 131, (cp2 (q))), (g1, 131, (cp2 (p)))] 12 (by rfl) ?_ ?_
  ·
    refine fT (i := 0) (u := (.pointer (some ⟨g1, 24, none⟩))) (g := gk) (h := ?_)
    refine fT (i := 1) (g := (gives_load g1 24 131 (cp2 (p)) (c2 ((p).z)) _ (by rfl) (fun _ h => h.blk 2 (by rfl)) (sl_p2z (p) _ _ 24 (Sl.refl _) (by rfl)) Tryd.underlying37 (by rfl) (hi_2 _))) (h := ?_)
    refine fT (i := 2) (u := (.iface 37 (.agg (c2 ((p).z))))) (g := gk) (h := ?_)
    refine fT (i := 3) (g := (gives_invoke (vl := []) (by rfl) (me2_Square _) (by kernel_rfl) (by rfl) (fun w h => q_square _ w (hG.keep h.below)))) (h := ?_)
    refine fT (i := 4) (u := (.pointer (some ⟨g2, 24, none⟩))) (g := gk) (h := ?_)
    refine fT (i := 5) (g := (gives_load g2 24 131 (cp2 (q)) (c2 ((q).z)) _ (by rfl) (fun _ h => h.blk 1 (by rfl)) (sl_p2z (q) _ _ 24 (Sl.refl _) (by rfl)) Tryd.underlying37 (by rfl) (hi_2 _))) (h := ?_)
    refine fT (i := 6) (u := (.iface 37 (.agg (c2 ((q).z))))) (g := gk) (h := ?_)
    refine fT (i := 7) (g := (gives_invoke (vl := []) (by rfl) (me2_Square _) (by kernel_rfl) (by rfl) (fun w h => q_square _ w (hG.keep h.below)))) (h := ?_)
    refine flow_two 8 9 (by kernel_rfl) ?_ ?_
    ·
      refine F_alloc _ (by rfl) (by rfl) z_2 (c2 (0 : F2)) rfl (List.Sublist.refl _) ?_; intro g_5
      refine flow_one 9 (by kernel_rfl) ?_
      refine F_alloc _ (by rfl) (by rfl) z_2 (c2 (0 : F2)) rfl (List.Sublist.cons _ (List.Sublist.refl _)) ?_; intro g_6
      refine flow_one 10 (by kernel_rfl) ?_
      refine F_store (t := 37) 1 g_5 _ _ (by rfl) (by rfl) (by rfl) (by rfl) (by rfl) (hi_2 _) ((c2_size _).trans (c2_size _).symm) (c2_one _) (.inr (List.Sublist.cons _ (List.Sublist.cons _ (List.Sublist.refl _)))) ?_
      simp only [List.set_cons_zero, List.set_cons_succ]
      refine flow_one 11 (by kernel_rfl) ?_
      refine F_store (t := 37) 0 g_6 _ _ (by rfl) (by rfl) (by rfl) (by rfl) (by rfl) (hi_2 _) ((c2_size _).trans (c2_size _).symm) (c2_one _) (.inr (List.Sublist.cons _ (List.Sublist.cons _ (List.Sublist.refl _)))) ?_
      simp only [List.set_cons_zero, List.set_cons_succ]
      refine flow_done (by kernel_rfl) ?_
      intro wz hz
      exact ⟨g_5, g_6, ((fr_comm _ _ _ _ (by decide))), hz.perm (List.Perm.swap _ _ _)⟩
    ·
      refine F_alloc _ (by rfl) (by rfl) z_2 (c2 (0 : F2)) rfl (List.Sublist.refl _) ?_; intro g_6
      refine flow_one 8 (by kernel_rfl) ?_
      refine F_alloc _ (by rfl) (by rfl) z_2 (c2 (0 : F2)) rfl (List.Sublist.cons _ (List.Sublist.refl _)) ?_; intro g_5
      refine flow_one 10 (by kernel_rfl) ?_
      refine F_store (t := 37) 0 g_5 _ _ (by rfl) (by rfl) (by rfl) (by rfl) (by rfl) (hi_2 _) ((c2_size _).trans (c2_size _).symm) (c2_one _) (.inr (List.Sublist.cons _ (List.Sublist.cons _ (List.Sublist.refl _)))) ?_
      simp only [List.set_cons_zero, List.set_cons_succ]
      refine flow_one 11 (by kernel_rfl) ?_
      refine F_store (t := 37) 1 g_6 _ _ (by rfl) (by rfl) (by rfl) (by rfl) (by rfl) (hi_2 _) ((c2_size _).trans (c2_size _).symm) (c2_one _) (.inr (List.Sublist.cons _ (List.Sublist.cons _ (List.Sublist.refl _)))) ?_
      simp only [List.set_cons_zero, List.set_cons_succ]
      refine flow_done (by kernel_rfl) ?_
      intro wz hz
      exact ⟨g_5, g_6, rfl, hz.perm (List.Perm.refl _)⟩
  ·
    rintro a0 w4 ⟨g4, g5, rfl, hw4⟩
    refine seq_flow_to (fun a w => ∃ g_7 g_8, a = fr 125 [(7, .pointer (some ⟨g_7, 0, none⟩)), (8, .pointer (some ⟨g_8, 0, none⟩)), (44, .agg (c2 (((q).x) * (((p).z) * ((p).z))))), (43, .agg (c2 (((p).z) * ((p).z)))), (42, .iface 37 (.agg (c2 ((q).x)))), (41, .agg (c2 ((q).x))), (40, .pointer (some ⟨g2, 0, none⟩)), (39, .agg (c2 (((p).x) * (((q).z) * ((q).z))))), (38, .agg (c2 (((q).z) * ((q).z)))), (37, .iface 37 (.agg (c2 ((p).x)))), (36, .agg (c2 ((p).x))), (35, .pointer (some ⟨g1, 0, none⟩)), (5, .pointer (some ⟨g4, 0, none⟩)), (6, .pointer (some ⟨g5, 0, none⟩)), (34, .agg (c2 (((q).z) * ((q).z)))), (33, .iface 37 (.agg (c2 ((q).z)))), (32, .agg (c2 ((q).z))), (31, .pointer (some ⟨g2, 24, none⟩)), (30, .agg (c2 (((p).z) * ((p).z)))), (29, .iface 37 (.agg (c2 ((p).z)))), (28, .agg (c2 ((p).z))), (27, .pointer (some ⟨g1, 24, none⟩)), (25, .bool false), (24, .iface 37 (.agg (c2 ((q).z)))), (23, .agg (c2 ((q).z))), (22, .pointer (some ⟨g2, 24, none⟩)), (20, .bool false), (19, .iface 37 (.agg (c2 ((p).z)))), (18, .agg (c2 ((p).z))), (17, .pointer (some ⟨g1, 24, none⟩)), (4, .pointer (some ⟨g3, 0, none⟩)), (3, .pointer (some ⟨g2, 0, none⟩)), (2, .pointer (some ⟨g1, 0, none⟩)), (1, .agg (cp2 (q))), (0, .agg (cp2 (p)))] ∧ Hbl v [(g_7, 37, (c2 (((p).x) * (((q).z) * ((q).z))))), (g_8, 37, (c2 (((q).x) * (((p).z) * ((p).z))))), (g4, 37, (c2 (((p).z) * ((p).z)))), (g5, 37, (c2 (((q).z) * ((q).z)))), (g3, 131, (cp2 (0 : J3 F2))), (g2, 131, (cp2 (q))), (g1, 131, (cp2 (p)))] w) (by kernel_rfl) hw4 [] [(g4, 37, (c2 (((p).z) * ((p).z)))), (g5, 37, (c2 (((q).z) * ((q).z)))), (g3, 131, (cp2 (0 : J3 F2))), (g2, 131, (cp2 (q))), (g1, 131, (cp2 (p)))] 14 (by rfl) ?_ ?_
    ·
      refine fT (i := 0) (u := (.pointer (some ⟨g1, 0, none⟩))) (g := gk) (h := ?_)
      refine fT (i := 1) (g := (gives_load g1 0 131 (cp2 (p)) (c2 ((p).x)) _ (by rfl) (fun _ h => h.blk 4 (by rfl)) (sl_p2x (p) _ _ (Sl.refl _)) Tryd.underlying37 (by rfl) (hi_2 _))) (h := ?_)
      refine fT (i := 2) (u := (.iface 37 (.agg (c2 ((p).x))))) (g := gk) (h := ?_)
      refine fT (i := 3) (g := (gL g5 37 (c2 (((q).z) * ((q).z))) 1 Tryd.underlying37 (hi_2 _))) (h := ?_)
      refine fT (i := 4) (g := (gives_invoke (vl := [.agg (c2 (((q).z) * ((q).z)))]) (by rfl) (me2_Mul _) (by kernel_rfl) (by rfl) (fun w h => q_mul _ _ w (hG.keep h.below)))) (h := ?_)
      refine fT (i := 5) (u := (.pointer (some ⟨g2, 0, none⟩))) (g := gk) (h := ?_)
      refine fT (i := 6) (g := (gives_load g2 0 131 (cp2 (q)) (c2 ((q).x)) _ (by rfl) (fun _ h => h.blk 3 (by rfl)) (sl_p2x (q) _ _ (Sl.refl _)) Tryd.underlying37 (by rfl) (hi_2 _))) (h := ?_)
      refine fT (i := 7) (u := (.iface 37 (.agg (c2 ((q).x))))) (g := gk) (h := ?_)
      refine fT (i := 8) (g := (gL g4 37 (c2 (((p).z) * ((p).z))) 0 Tryd.underlying37 (hi_2 _))) (h := ?_)
      refine fT (i := 9) (g := (gives_invoke (vl := [.agg (c2 (((p).z) * ((p).z)))]) (by rfl) (me2_Mul _) (by kernel_rfl) (by rfl) (fun w h => q_mul _ _ w (hG.keep h.below)))) (h := ?_)
      refine flow_two 10 11 (by kernel_rfl) ?_ ?_
      ·
        refine F_alloc _ (by rfl) (by rfl) z_2 (c2 (0 : F2)) rfl (List.Sublist.refl _) ?_; intro g_7
        refine flow_one 11 (by kernel_rfl) ?_
        refine F_alloc _ (by rfl) (by rfl) z_2 (c2 (0 : F2)) rfl (List.Sublist.cons _ (List.Sublist.refl _)) ?_; intro g_8
        refine flow_one 12 (by kernel_rfl) ?_
        refine F_store (t := 37) 1 g_7 _ _ (by rfl) (by rfl) (by rfl) (by rfl) (by rfl) (hi_2 _) ((c2_size _).trans (c2_size _).symm) (c2_one _) (.inr (List.Sublist.cons _ (List.Sublist.cons _ (List.Sublist.refl _)))) ?_
        simp only [List.set_cons_zero, List.set_cons_succ]
        refine flow_one 13 (by kernel_rfl) ?_
        refine F_store (t := 37) 0 g_8 _ _ (by rfl) (by rfl) (by rfl) (by rfl) (by rfl) (hi_2 _) ((c2_size _).trans (c2_size _).symm) (c2_one _) (.inr (List.Sublist.cons _ (List.Sublist.cons _ (List.Sublist.refl _)))) ?_
        simp only [List.set_cons_zero, List.set_cons_succ]
        refine flow_done (by kernel_rfl) ?_
        intro wz hz
        exact ⟨g_7, g_8, ((fr_comm _ _ _ _ (by decide))), hz.perm (List.Perm.swap _ _ _)⟩
      ·
        refine F_alloc _ (by rfl) (by rfl) z_2 (c2 (0 : F2)) rfl (List.Sublist.refl _) ?_; intro g_8
        refine flow_one 10 (by kernel_rfl) ?_
        refine F_alloc _ (by rfl) (by rfl) z_2 (c2 (0 : F2)) rfl (List.Sublist.cons _ (List.Sublist.refl _)) ?_; intro g_7
        refine flow_one 12 (by kernel_rfl) ?_
        refine F_store (t := 37) 0 g_7 _ _ (by rfl) (by rfl) (by rfl) (by rfl) (by rfl) (hi_2 _) ((c2_size _).trans (c2_size _).symm) (c2_one _) (.inr (List.Sublist.cons _ (List.Sublist.cons _ (List.Sublist.refl _)))) ?_
        simp only [List.set_cons_zero, List.set_cons_succ]
        refine flow_one 13 (by kernel_rfl) ?_
        refine F_store (t := 37) 1 g_8 _ _ (by rfl) (by rfl) (by rfl) (by rfl) (by rfl) (hi_2 _) ((c2_size _).trans (c2_size _).symm) (c2_one _) (.inr (List.Sublist.cons _ (List.Sublist.cons _ (List.Sublist.refl _)))) ?_
        simp only [List.set_cons_zero, List.set_cons_succ]
        refine flow_done (by kernel_rfl) ?_
        intro wz hz
        exact ⟨g_7, g_8, rfl, hz.perm (List.Perm.refl _)⟩
    ·
      rintro a0 w5 ⟨g6, g7, rfl, hw5⟩
      refine seq_flow_to (fun a w => ∃ g_9 g_10, a = fr 125 [(9, .pointer (some ⟨g_9, 0, none⟩)), (10, .pointer (some ⟨g_10, 0, none⟩)), (62, .agg (c2 ((((q).y) * (((p).z) * ((p).z))) * ((p).z)))), (61, .agg (c2 ((p).z))), (60, .pointer (some ⟨g1, 24, none⟩)), (59, .iface 37 (.agg (c2 (((q).y) * (((p).z) * ((p).z)))))), (58, .agg (c2 (((q).y) * (((p).z) * ((p).z))))), (57, .agg (c2 (((p).z) * ((p).z)))), (56, .iface 37 (.agg (c2 ((q).y)))), (55, .agg (c2 ((q).y))), (54, .pointer (some ⟨g2, 12, none⟩)), (53, .agg (c2 ((((p).y) * (((q).z) * ((q).z))) * ((q).z)))), (52, .agg (c2 ((q).z))), (51, .pointer (some ⟨g2, 24, none⟩)), (50, .iface 37 (.agg (c2 (((p).y) * (((q).z) * ((q).z)))))), (49, .agg (c2 (((p).y) * (((q).z) * ((q).z))))), (48, .agg (c2 (((q).z) * ((q).z)))), (47, .iface 37 (.agg (c2 ((p).y)))), (46, .agg (c2 ((p).y))), (45, .pointer (some ⟨g1, 12, none⟩)), (7, .pointer (some ⟨g6, 0, none⟩)), (8, .pointer (some ⟨g7, 0, none⟩)), (44, .agg (c2 (((q).x) * (((p).z) * ((p).z))))), (43, .agg (c2 (((p).z) * ((p).z)))), (42, .iface 37 (.agg (c2 ((q).x)))), (41, .agg (c2 ((q).x))), (40, .pointer (some ⟨g2, 0, none⟩)), (39, .agg (c2 (((p).x) * (((q).z) * ((q).z))))), (38, .agg (c2 (((q).z) * ((q).z)))), (37, .iface 37 (.agg (c2 ((p).x)))), (36, .agg (c2 ((p).x))), (35, .pointer (some ⟨g1, 0, none⟩)), (5, .pointer (some ⟨g4, 0, none⟩)), (6, .pointer (some ⟨g5, 0, none⟩)), (34, .agg (c2 (((q).z) * ((q).z)))), (33, .iface 37 (.agg (c2 ((q).z)))), (32, .agg (c2 ((q).z))), (31, .pointer (some ⟨g2, 24, none⟩)), (30, .agg (c2 (((p).z) * ((p).z)))), (29, .iface 37 (.agg (c2 ((p).z)))), (28, .agg (c2 ((p).z))), (27, .pointer (some ⟨g1, 24, none⟩)), (25, .bool false), (24, .iface 37 (.agg (c2 ((q).z)))), (23, .agg (c2 ((q).z))), (22, .pointer (some ⟨g2, 24, none⟩)), (20, .bool false), (19, .iface 37 (.agg (c2 ((p).z)))), (18, .agg (c2 ((p).z))), (17, .pointer (some ⟨g1, 24, none⟩)), (4, .pointer (some ⟨g3, 0, none⟩)), (3, .pointer (some ⟨g2, 0, none⟩)), (2, .pointer (some ⟨g1, 0, none⟩)), (1, .agg (cp2 (q))), (0, .agg (cp2 (p)))] ∧ Hbl v [(g_9, 37, (c2 ((((p).y) * (((q).z) * ((q).z))) * ((q).z)))), (g_10, 37, (c2 ((((q).y) * (((p).z) * ((p).z))) * ((p).z)))), (g6, 37, (c2 (((p).x) * (((q).z) * ((q).z))))), (g7, 37, (c2 (((q).x) * (((p).z) * ((p).z))))), (g4, 37, (c2 (((p).z) * ((p).z)))), (g5, 37, (c2 (((q).z) * ((q).z)))), (g3, 131, (cp2 (0 : J3 F2))), (g2, 131, (cp2 (q))), (g1, 131, (cp2 (p)))] w) (by kernel_rfl) hw5 [] [(g6, 37, (c2 (((p).x) * (((q).z) * ((q).z))))), (g7, 37, (c2 (((q).x) * (((p).z) * ((p).z))))), (g4, 37, (c2 (((p).z) * ((p).z)))), (g5, 37, (c2 (((q).z) * ((q).z)))), (g3, 131, (cp2 (0 : J3 F2))), (g2, 131, (cp2 (q))), (g1, 131, (cp2 (p)))] 22 (by rfl) ?_ ?_
      ·
        refine fT (i := 0) (u := (.pointer (some ⟨g1, 12, none⟩))) (g := gk) (h := ?_)
        refine fT (i := 1) (g := (gives_load g1 12 131 (cp2 (p)) (c2 ((p).y)) _ (by rfl) (fun _ h => h.blk 6 (by rfl)) (sl_p2y (p) _ _ 12 (Sl.refl _) (by rfl)) Tryd.underlying37 (by rfl) (hi_2 _))) (h := ?_)
        refine fT (i := 2) (u := (.iface 37 (.agg (c2 ((p).y))))) (g := gk) (h := ?_)
        refine fT (i := 3) (g := (gL g5 37 (c2 (((q).z) * ((q).z))) 3 Tryd.underlying37 (hi_2 _))) (h := ?_)
        refine fT (i := 4) (g := (gives_invoke (vl := [.agg (c2 (((q).z) * ((q).z)))]) (by rfl) (me2_Mul _) (by kernel_rfl) (by rfl) (fun w h => q_mul _ _ w (hG.keep h.below)))) (h := ?_)
        refine fT (i := 5) (u := (.iface 37 (.agg (c2 (((p).y) * (((q).z) * ((q).z))))))) (g := gk) (h := ?_)
        refine fT (i := 6) (u := (.pointer (some ⟨g2, 24, none⟩))) (g := gk) (h := ?_)
        refine fT (i := 7) (g := (gives_load g2 24 131 (cp2 (q)) (c2 ((q).z)) _ (by rfl) (fun _ h => h.blk 5 (by rfl)) (sl_p2z (q) _ _ 24 (Sl.refl _) (by rfl)) Tryd.underlying37 (by rfl) (hi_2 _))) (h := ?_)
        refine fT (i := 8) (g := (gives_invoke (vl := [.agg (c2 ((q).z))]) (by rfl) (me2_Mul _) (by kernel_rfl) (by rfl) (fun w h => q_mul _ _ w (hG.keep h.below)))) (h := ?_)
        refine fT (i := 9) (u := (.pointer (some ⟨g2, 12, none⟩))) (g := gk) (h := ?_)
        refine fT (i := 10) (g := (gives_load g2 12 131 (cp2 (q)) (c2 ((q).y)) _ (by rfl) (fun _ h => h.blk 5 (by rfl)) (sl_p2y (q) _ _ 12 (Sl.refl _) (by rfl)) Tryd.underlying37 (by rfl) (hi_2 _))) (h := ?_)
        refine fT (i := 11) (u := (.iface 37 (.agg (c2 ((q).y))))) (g := gk) (h := ?_)
        refine fT (i := 12) (g := (gL g4 37 (c2 (((p).z) * ((p).z))) 2 Tryd.underlying37 (hi_2 _))) (h := ?_)
        refine fT (i := 13) (g := (gives_invoke (vl := [.agg (c2 (((p).z) * ((p).z)))]) (by rfl) (me2_Mul _) (by kernel_rfl) (by rfl) (fun w h => q_mul _ _ w (hG.keep h.below)))) (h := ?_)
        refine fT (i := 14) (u := (.iface 37 (.agg (c2 (((q).y) * (((p).z) * ((p).z))))))) (g := gk) (h := ?_)
        refine fT (i := 15) (u := (.pointer (some ⟨g1, 24, none⟩))) (g := gk) (h := ?_)
        refine fT (i := 16) (g := (gives_load g1 24 131 (cp2 (p)) (c2 ((p).z)) _ (by rfl) (fun _ h => h.blk 6 (by rfl)) (sl_p2z (p) _ _ 24 (Sl.refl _) (by rfl)) Tryd.underlying37 (by rfl) (hi_2 _))) (h := ?_)
        refine fT (i := 17) (g := (gives_invoke (vl := [.agg (c2 ((p).z))]) (by rfl) (me2_Mul _) (by kernel_rfl) (by rfl) (fun w h => q_mul _ _ w (hG.keep h.below)))) (h := ?_)
        refine flow_two 18 19 (by kernel_rfl) ?_ ?_
        ·
          refine F_alloc _ (by rfl) (by rfl) z_2 (c2 (0 : F2)) rfl (List.Sublist.refl _) ?_; intro g_9
          refine flow_one 19 (by kernel_rfl) ?_
          refine F_alloc _ (by rfl) (by rfl) z_2 (c2 (0 : F2)) rfl (List.Sublist.cons _ (List.Sublist.refl _)) ?_; intro g_10
          refine flow_one 20 (by kernel_rfl) ?_
          refine F_store (t := 37) 1 g_9 _ _ (by rfl) (by rfl) (by rfl) (by rfl) (by rfl) (hi_2 _) ((c2_size _).trans (c2_size _).symm) (c2_one _) (.inr (List.Sublist.cons _ (List.Sublist.cons _ (List.Sublist.refl _)))) ?_
          simp only [List.set_cons_zero, List.set_cons_succ]
          refine flow_one 21 (by kernel_rfl) ?_
          refine F_store (t := 37) 0 g_10 _ _ (by rfl) (by rfl) (by rfl) (by rfl) (by rfl) (hi_2 _) ((c2_size _).trans (c2_size _).symm) (c2_one _) (.inr (List.Sublist.cons _ (List.Sublist.cons _ (List.Sublist.refl _)))) ?_
          simp only [List.set_cons_zero, List.set_cons_succ]
          refine flow_done (by kernel_rfl) ?_
          intro wz hz
          exact ⟨g_9, g_10, ((fr_comm _ _ _ _ (by decide))), hz.perm (List.Perm.swap _ _ _)⟩
        ·
          refine F_alloc _ (by rfl) (by rfl) z_2 (c2 (0 : F2)) rfl (List.Sublist.refl _) ?_; intro g_10
          refine flow_one 18 (by kernel_rfl) ?_
          refine F_alloc _ (by rfl) (by rfl) z_2 (c2 (0 : F2)) rfl (List.Sublist.cons _ (List.Sublist.refl _)) ?_; intro g_9
          refine flow_one 20 (by kernel_rfl) ?_
          refine F_store (t := 37) 0 g_9 _ _ (by rfl) (by rfl) (by rfl) (by rfl) (by rfl) (hi_2 _) ((c2_size _).trans (c2_size _).symm) (c2_one _) (.inr (List.Sublist.cons _ (List.Sublist.cons _ (List.Sublist.refl _)))) ?_
          simp only [List.set_cons_zero, List.set_cons_succ]
          refine flow_one 21 (by kernel_rfl) ?_
          refine F_store (t := 37) 1 g_10 _ _ (by rfl) (by rfl) (by rfl) (by rfl) (by rfl) (hi_2 _) ((c2_size _).trans (c2_size _).symm) (c2_one _) (.inr (List.Sublist.cons _ (List.Sublist.cons _ (List.Sublist.refl _)))) ?_
          simp only [List.set_cons_zero, List.set_cons_succ]
          refine flow_done (by kernel_rfl) ?_
          intro wz hz
          exact ⟨g_9, g_10, rfl, hz.perm (List.Perm.refl _)⟩
      ·
        rintro a0 w6 ⟨g8, g9, rfl, hw6⟩
        refine seq_flow_to (fun a w => ∃ g_11 g_12, a = fr 125 [(11, .pointer (some ⟨g_11, 0, none⟩)), (12, .pointer (some ⟨g_12, 0, none⟩)), (70, .agg (c2 (ce_1 p q))), (69, .agg (c2 ((((p).y) * (((q).z) * ((q).z))) * ((q).z)))), (68, .iface 37 (.agg (c2 ((((q).y) * (((p).z) * ((p).z))) * ((p).z))))), (67, .agg (c2 ((((q).y) * (((p).z) * ((p).z))) * ((p).z)))), (66, .agg (c2 (ce_0 p q))), (65, .agg (c2 (((p).x) * (((q).z) * ((q).z))))), (64, .iface 37 (.agg (c2 (((q).x) * (((p).z) * ((p).z)))))), (63, .agg (c2 (((q).x) * (((p).z) * ((p).z))))), (9, .pointer (some ⟨g8, 0, none⟩)), (10, .pointer (some ⟨g9, 0, none⟩)), (62, .agg (c2 ((((q).y) * (((p).z) * ((p).z))) * ((p).z)))), (61, .agg (c2 ((p).z))), (60, .pointer (some ⟨g1, 24, none⟩)), (59, .iface 37 (.agg (c2 (((q).y) * (((p).z) * ((p).z)))))), (58, .agg (c2 (((q).y) * (((p).z) * ((p).z))))), (57, .agg (c2 (((p).z) * ((p).z)))), (56, .iface 37 (.agg (c2 ((q).y)))), (55, .agg (c2 ((q).y))), (54, .pointer (some ⟨g2, 12, none⟩)), (53, .agg (c2 ((((p).y) * (((q).z) * ((q).z))) * ((q).z)))), (52, .agg (c2 ((q).z))), (51, .pointer (some ⟨g2, 24, none⟩)), (50, .iface 37 (.agg (c2 (((p).y) * (((q).z) * ((q).z)))))), (49, .agg (c2 (((p).y) * (((q).z) * ((q).z))))), (48, .agg (c2 (((q).z) * ((q).z)))), (47, .iface 37 (.agg (c2 ((p).y)))), (46, .agg (c2 ((p).y))), (45, .pointer (some ⟨g1, 12, none⟩)), (7, .pointer (some ⟨g6, 0, none⟩)), (8, .pointer (some ⟨g7, 0, none⟩)), (44, .agg (c2 (((q).x) * (((p).z) * ((p).z))))), (43, .agg (c2 (((p).z) * ((p).z)))), (42, .iface 37 (.agg (c2 ((q).x)))), (41, .agg (c2 ((q).x))), (40, .pointer (some ⟨g2, 0, none⟩)), (39, .agg (c2 (((p).x) * (((q).z) * ((q).z))))), (38, .agg (c2 (((q).z) * ((q).z)))), (37, .iface 37 (.agg (c2 ((p).x)))), (36, .agg (c2 ((p).x))), (35, .pointer (some ⟨g1, 0, none⟩)), (5, .pointer (some ⟨g4, 0, none⟩)), (6, .pointer (some ⟨g5, 0, none⟩)), (34, .agg (c2 (((q).z) * ((q).z)))), (33, .iface 37 (.agg (c2 ((q).z)))), (32, .agg (c2 ((q).z))), (31, .pointer (some ⟨g2, 24, none⟩)), (30, .agg (c2 (((p).z) * ((p).z)))), (29, .iface 37 (.agg (c2 ((p).z)))), (28, .agg (c2 ((p).z))), (27, .pointer (some ⟨g1, 24, none⟩)), (25, .bool false), (24, .iface 37 (.agg (c2 ((q).z)))), (23, .agg (c2 ((q).z))), (22, .pointer (some ⟨g2, 24, none⟩)), (20, .bool false), (19, .iface 37 (.agg (c2 ((p).z)))), (18, .agg (c2 ((p).z))), (17, .pointer (some ⟨g1, 24, none⟩)), (4, .pointer (some ⟨g3, 0, none⟩)), (3, .pointer (some ⟨g2, 0, none⟩)), (2, .pointer (some ⟨g1, 0, none⟩)), (1, .agg (cp2 (q))), (0, .agg (cp2 (p)))] ∧ Hbl v [(g_11, 37, (c2 (ce_0 p q))), (g_12, 37, (c2 (ce_1 p q))), (g8, 37, (c2 ((((p).y) * (((q).z) * ((q).z))) * ((q).z)))), (g9, 37, (c2 ((((q).y) * (((p).z) * ((p).z))) * ((p).z)))), (g6, 37, (c2 (((p).x) * (((q).z) * ((q).z))))), (g7, 37, (c2 (((q).x) * (((p).z) * ((p).z))))), (g4, 37, (c2 (((p).z) * ((p).z)))), (g5, 37, (c2 (((q).z) * ((q).z)))), (g3, 131, (cp2 (0 : J3 F2))), (g2, 131, (cp2 (q))), (g1, 131, (cp2 (p)))] w) (by kernel_rfl) hw6 [] [(g8, 37, (c2 ((((p).y) * (((q).z) * ((q).z))) * ((q).z)))), (g9, 37, (c2 ((((q).y) * (((p).z) * ((p).z))) * ((p).z)))), (g6, 37, (c2 (((p).x) * (((q).z) * ((q).z))))), (g7, 37, (c2 (((q).x) * (((p).z) * ((p).z))))), (g4, 37, (c2 (((p).z) * ((p).z)))), (g5, 37, (c2 (((q).z) * ((q).z)))), (g3, 131, (cp2 (0 : J3 F2))), (g2, 131, (cp2 (q))), (g1, 131, (cp2 (p)))] 12 (by rfl) ?_ ?_
        ·
          refine fT (i := 0) (g := (gL g7 37 (c2 (((q).x) * (((p).z) * ((p).z)))) 3 Tryd.underlying37 (hi_2 _))) (h := ?_)
          refine fT (i := 1) (u := (.iface 37 (.agg (c2 (((q).x) * (((p).z) * ((p).z))))))) (g := gk) (h := ?_)
          refine fT (i := 2) (g := (gL g6 37 (c2 (((p).x) * (((q).z) * ((q).z)))) 2 Tryd.underlying37 (hi_2 _))) (h := ?_)
          refine fT (i := 3) (g := (gives_invoke (vl := [.agg (c2 (((p).x) * (((q).z) * ((q).z))))]) (by rfl) (me2_Sub _) (by kernel_rfl) (by rfl) (fun w h => q_sub _ _ w (hG.keep h.below)))) (h := ?_)
          refine fT (i := 4) (g := (gL g9 37 (c2 ((((q).y) * (((p).z) * ((p).z))) * ((p).z))) 1 Tryd.underlying37 (hi_2 _))) (h := ?_)
          refine fT (i := 5) (u := (.iface 37 (.agg (c2 ((((q).y) * (((p).z) * ((p).z))) * ((p).z)))))) (g := gk) (h := ?_)
          refine fT (i := 6) (g := (gL g8 37 (c2 ((((p).y) * (((q).z) * ((q).z))) * ((q).z))) 0 Tryd.underlying37 (hi_2 _))) (h := ?_)
          refine fT (i := 7) (g := (gives_invoke (vl := [.agg (c2 ((((p).y) * (((q).z) * ((q).z))) * ((q).z)))]) (by rfl) (me2_Sub _) (by kernel_rfl) (by rfl) (fun w h => q_sub _ _ w (hG.keep h.below)))) (h := ?_)
          refine flow_two 8 9 (by kernel_rfl) ?_ ?_
          ·
            refine F_alloc _ (by rfl) (by rfl) z_2 (c2 (0 : F2)) rfl (List.Sublist.refl _) ?_; intro g_11
            refine flow_one 9 (by kernel_rfl) ?_
            refine F_alloc _ (by rfl) (by rfl) z_2 (c2 (0 : F2)) rfl (List.Sublist.cons _ (List.Sublist.refl _)) ?_; intro g_12
            refine flow_one 10 (by kernel_rfl) ?_
            refine F_store (t := 37) 1 g_11 _ _ (by rfl) (by rfl) (by rfl) (by rfl) (by rfl) (hi_2 _) ((c2_size _).trans (c2_size _).symm) (c2_one _) (.inr (List.Sublist.cons _ (List.Sublist.cons _ (List.Sublist.refl _)))) ?_
            simp only [List.set_cons_zero, List.set_cons_succ]
            refine flow_one 11 (by kernel_rfl) ?_
            refine F_store (t := 37) 0 g_12 _ _ (by rfl) (by rfl) (by rfl) (by rfl) (by rfl) (hi_2 _) ((c2_size _).trans (c2_size _).symm) (c2_one _) (.inr (List.Sublist.cons _ (List.Sublist.cons _ (List.Sublist.refl _)))) ?_
            simp only [List.set_cons_zero, List.set_cons_succ]
            refine flow_done (by kernel_rfl) ?_
            intro wz hz
            exact ⟨g_11, g_12, ((fr_comm _ _ _ _ (by decide))), hz.perm (List.Perm.swap _ _ _)⟩
          ·
            refine F_alloc _ (by rfl) (by rfl) z_2 (c2 (0 : F2)) rfl (List.Sublist.refl _) ?_; intro g_12
            refine flow_one 8 (by kernel_rfl) ?_
            refine F_alloc _ (by rfl) (by rfl) z_2 (c2 (0 : F2)) rfl (List.Sublist.cons _ (List.Sublist.refl _)) ?_; intro g_11
            refine flow_one 10 (by kernel_rfl) ?_
            refine F_store (t := 37) 0 g_11 _ _ (by rfl) (by rfl) (by rfl) (by rfl) (by rfl) (hi_2 _) ((c2_size _).trans (c2_size _).symm) (c2_one _) (.inr (List.Sublist.cons _ (List.Sublist.cons _ (List.Sublist.refl _)))) ?_
            simp only [List.set_cons_zero, List.set_cons_succ]
            refine flow_one 11 (by kernel_rfl) ?_
            refine F_store (t := 37) 1 g_12 _ _ (by rfl) (by rfl) (by rfl) (by rfl) (by rfl) (hi_2 _) ((c2_size _).trans (c2_size _).symm) (c2_one _) (.inr (List.Sublist.cons _ (List.Sublist.cons _ (List.Sublist.refl _)))) ?_
            simp only [List.set_cons_zero, List.set_cons_succ]
            refine flow_done (by kernel_rfl) ?_
            intro wz hz
            exact ⟨g_11, g_12, rfl, hz.perm (List.Perm.refl _)⟩
        ·
          rintro a0 w7 ⟨g10, g11, rfl, hw7⟩
          refine wp_seq ?_
          refine seq_plain hw7 [0, 1, 2] (by rfl) ?_
          refine L_val (.agg (c2 (ce_0 p q))) (by rfl) (by rfl) (gL g10 37 (c2 (ce_0 p q)) 0 Tryd.underlying37 (hi_2 _)) ?_
          refine L_val (.iface 37 (.agg (c2 (ce_0 p q)))) (by rfl) (by rfl) gk ?_
          refine L_val (.bool false) (by rfl) (by rfl) (gives_invoke (vl := []) (by rfl) (me2_Zero _) (by kernel_rfl) (by rfl) (fun w h => q_zero_f w (hG.keep h.below) hw0)) ?_
          refine L_end ?_
          intro w8 hw8
          refine wp_cond_false (fr_at _ _ (by rfl) _) ?_
          refine wp_skip ?_
          change Code.wp _ _ _ _ _
          refine seq_plain hw8 [0, 1, 2, 3, 4] (by rfl) ?_
          refine L_val (.agg (c2 (ce_0 p q))) (by rfl) (by rfl) (gL g10 37 (c2 (ce_0 p q)) 0 Tryd.underlying37 (hi_2 _)) ?_
          refine L_val (.iface 37 (.agg (c2 (ce_0 p q)))) (by rfl) (by rfl) gk ?_
          refine L_val (.agg (c2 (ce_2 p q))) (by rfl) (by rfl) (gives_invoke (vl := []) (by rfl) (me2_Square _) (by kernel_rfl) (by rfl) (fun w h => q_square _ w (hG.keep h.below))) ?_
          refine L_alloc _ (by rfl) (by rfl) z_2 (c2 (0 : F2)) rfl ?_; intro g12
          refine L_store (t := 37) 0 g12 _ _ (by rfl) (by rfl) (by rfl) (by rfl) (by rfl) (hi_2 _) ((c2_size _).trans (c2_size _).symm) (c2_one _) ?_
          simp only [List.set_cons_zero, List.set_cons_succ]
          refine L_end ?_
          intro w9 hw9
          refine seq_plain hw9 [0, 1, 2, 3, 4, 5] (by rfl) ?_
          refine L_val (.agg (c2 (ce_2 p q))) (by rfl) (by rfl) (gL g12 37 (c2 (ce_2 p q)) 0 Tryd.underlying37 (hi_2 _)) ?_
          refine L_val (.iface 37 (.agg (c2 (ce_2 p q)))) (by rfl) (by rfl) gk ?_
          refine L_val (.agg (c2 (ce_0 p q))) (by rfl) (by rfl) (gL g10 37 (c2 (ce_0 p q)) 1 Tryd.underlying37 (hi_2 _)) ?_
          refine L_val (.agg (c2 (ce_5 p q))) (by rfl) (by rfl) (gives_invoke (vl := [.agg (c2 (ce_0 p q))]) (by rfl) (me2_Mul _) (by kernel_rfl) (by rfl) (fun w h => q_mul _ _ w (hG.keep h.below))) ?_
          refine L_alloc _ (by rfl) (by rfl) z_2 (c2 (0 : F2)) rfl ?_; intro g13
          refine L_store (t := 37) 0 g13 _ _ (by rfl) (by rfl) (by rfl) (by rfl) (by rfl) (hi_2 _) ((c2_size _).trans (c2_size _).symm) (c2_one _) ?_
          simp only [List.set_cons_zero, List.set_cons_succ]
          refine L_end ?_
          intro w10 hw10
          refine seq_plain hw10 [0, 1, 2, 3, 4] (by rfl) ?_
          refine L_val (.agg (c2 (((p).x) * (((q).z) * ((q).z))))) (by rfl) (by rfl) (gL g6 37 (c2 (((p).x) * (((q).z) * ((q).z)))) 6 Tryd.underlying37 (hi_2 _)) ?_
          refine L_val (.iface 37 (.agg (c2 (((p).x) * (((q).z) * ((q).z)))))) (by rfl) (by rfl) gk ?_
          refine L_val (.agg (c2 (ce_2 p q))) (by rfl) (by rfl) (gL g12 37 (c2 (ce_2 p q)) 1 Tryd.underlying37 (hi_2 _)) ?_
          refine L_val (.agg (c2 (ce_3 p q))) (by rfl) (by rfl) (gives_invoke (vl := [.agg (c2 (ce_2 p q))]) (by rfl) (me2_Mul _) (by kernel_rfl) (by rfl) (fun w h => q_mul _ _ w (hG.keep h.below))) ?_
          refine L_store (t := 37) 6 g6 _ _ (by rfl) (by rfl) (by rfl) (by rfl) (by rfl) (hi_2 _) ((c2_size _).trans (c2_size _).symm) (c2_one _) ?_
          simp only [List.set_cons_zero, List.set_cons_succ]
          refine L_end ?_
          intro w11 hw11
          refine seq_flow (by kernel_rfl) hw11 [] [(g13, 37, (c2 (ce_5 p q))), (g12, 37, (c2 (ce_2 p q))), (g10, 37, (c2 (ce_0 p q))), (g11, 37, (c2 (ce_1 p q))), (g8, 37, (c2 ((((p).y) * (((q).z) * ((q).z))) * ((q).z)))), (g9, 37, (c2 ((((q).y) * (((p).z) * ((p).z))) * ((p).z)))), (g6, 37, (c2 (ce_3 p q))), (g7, 37, (c2 (((q).x) * (((p).z) * ((p).z))))), (g4, 37, (c2 (((p).z) * ((p).z)))), (g5, 37, (c2 (((q).z) * ((q).z)))), (g3, 131, (cp2 (0 : J3 F2))), (g2, 131, (cp2 (q))), (g1, 131, (cp2 (p)))] 14 (by rfl) ?_
          refine fT (i := 0) (g := (gL g11 37 (c2 (ce_1 p q)) 3 Tryd.underlying37 (hi_2 _))) (h := ?_)
          refine fT (i := 1) (u := (.iface 37 (.agg (c2 (ce_1 p q))))) (g := gk) (h := ?_)
          refine fT (i := 2) (g := (gives_invoke (vl := []) (by rfl) (me2_Square _) (by kernel_rfl) (by rfl) (fun w h => q_square _ w (hG.keep h.below)))) (h := ?_)
          refine fT (i := 3) (u := (.iface 37 (.agg (c2 (ce_4 p q))))) (g := gk) (h := ?_)
          refine fT (i := 4) (g := (gL g13 37 (c2 (ce_5 p q)) 0 Tryd.underlying37 (hi_2 _))) (h := ?_)
          refine fT (i := 5) (g := (gives_invoke (vl := [.agg (c2 (ce_5 p q))]) (by rfl) (me2_Sub _) (by kernel_rfl) (by rfl) (fun w h => q_sub _ _ w (hG.keep h.below)))) (h := ?_)
          refine fT (i := 6) (u := (.iface 37 (.agg (c2 (ce_7 p q))))) (g := gk) (h := ?_)
          refine fT (i := 7) (g := (gL g6 37 (c2 (ce_3 p q)) 6 Tryd.underlying37 (hi_2 _))) (h := ?_)
          refine fT (i := 8) (g := (gives_invoke (vl := [.agg (c2 (ce_3 p q))]) (by rfl) (me2_Sub _) (by kernel_rfl) (by rfl) (fun w h => q_sub _ _ w (hG.keep h.below)))) (h := ?_)
          refine fT (i := 9) (u := (.iface 37 (.agg (c2 (ce_8 p q))))) (g := gk) (h := ?_)
          refine fT (i := 10) (g := (gL g6 37 (c2 (ce_3 p q)) 6 Tryd.underlying37 (hi_2 _))) (h := ?_)
          refine fT (i := 11) (g := (gives_invoke (vl := [.agg (c2 (ce_3 p q))]) (by rfl) (me2_Sub _) (by kernel_rfl) (by rfl) (fun w h => q_sub _ _ w (hG.keep h.below)))) (h := ?_)
          refine flow_one 12 (by kernel_rfl) ?_
          refine F_alloc _ (by rfl) (by rfl) z_2 (c2 (0 : F2)) rfl (List.Sublist.refl _) ?_; intro g14
          refine flow_one 13 (by kernel_rfl) ?_
          refine F_store (t := 37) 0 g14 _ _ (by rfl) (by rfl) (by rfl) (by rfl) (by rfl) (hi_2 _) ((c2_size _).trans (c2_size _).symm) (c2_one _) (.inr (List.Sublist.cons _ (List.Sublist.refl _))) ?_
          simp only [List.set_cons_zero, List.set_cons_succ]
          refine flow_done (by kernel_rfl) ?_
          intro w12 hw12
          refine seq_flow (by kernel_rfl) hw12 [] [(g14, 37, (c2 (ce_9 p q))), (g13, 37, (c2 (ce_5 p q))), (g12, 37, (c2 (ce_2 p q))), (g10, 37, (c2 (ce_0 p q))), (g11, 37, (c2 (ce_1 p q))), (g8, 37, (c2 ((((p).y) * (((q).z) * ((q).z))) * ((q).z)))), (g9, 37, (c2 ((((q).y) * (((p).z) * ((p).z))) * ((p).z)))), (g6, 37, (c2 (ce_3 p q))), (g7, 37, (c2 (((q).x) * (((p).z) * ((p).z))))), (g4, 37, (c2 (((p).z) * ((p).z)))), (g5, 37, (c2 (((q).z) * ((q).z)))), (g3, 131, (cp2 (0 : J3 F2))), (g2, 131, (cp2 (q))), (g1, 131, (cp2 (p)))] 15 (by rfl) ?_
          refine fT (i := 0) (g := (gL g11 37 (c2 (ce_1 p q)) 4 Tryd.underlying37 (hi_2 _))) (h := ?_)
          refine fT (i := 1) (u := (.iface 37 (.agg (c2 (ce_1 p q))))) (g := gk) (h := ?_)
          refine fT (i := 2) (g := (gL g6 37 (c2 (ce_3 p q)) 7 Tryd.underlying37 (hi_2 _))) (h := ?_)
          refine fT (i := 3) (u := (.iface 37 (.agg (c2 (ce_3 p q))))) (g := gk) (h := ?_)
          refine fT (i := 4) (g := (gL g14 37 (c2 (ce_9 p q)) 0 Tryd.underlying37 (hi_2 _))) (h := ?_)
          refine fT (i := 5) (g := (gives_invoke (vl := [.agg (c2 (ce_9 p q))]) (by rfl) (me2_Sub _) (by kernel_rfl) (by rfl) (fun w h => q_sub _ _ w (hG.keep h.below)))) (h := ?_)
          refine fT (i := 6) (g := (gives_invoke (vl := [.agg (c2 (ce_10 p q))]) (by rfl) (me2_Mul _) (by kernel_rfl) (by rfl) (fun w h => q_mul _ _ w (hG.keep h.below)))) (h := ?_)
          refine fT (i := 7) (u := (.iface 37 (.agg (c2 (ce_11 p q))))) (g := gk) (h := ?_)
          refine fT (i := 8) (g := (gL g8 37 (c2 ((((p).y) * (((q).z) * ((q).z))) * ((q).z))) 5 Tryd.underlying37 (hi_2 _))) (h := ?_)
          refine fT (i := 9) (u := (.iface 37 (.agg (c2 ((((p).y) * (((q).z) * ((q).z))) * ((q).z)))))) (g := gk) (h := ?_)
          refine fT (i := 10) (g := (gL g13 37 (c2 (ce_5 p q)) 1 Tryd.underlying37 (hi_2 _))) (h := ?_)
          refine fT (i := 11) (g := (gives_invoke (vl := [.agg (c2 (ce_5 p q))]) (by rfl) (me2_Mul _) (by kernel_rfl) (by rfl) (fun w h => q_mul _ _ w (hG.keep h.below)))) (h := ?_)
          refine fT (i := 12) (g := (gives_invoke (vl := [.agg (c2 (ce_6 p q))]) (by rfl) (me2_Sub _) (by kernel_rfl) (by rfl) (fun w h => q_sub _ _ w (hG.keep h.below)))) (h := ?_)
          refine flow_one 13 (by kernel_rfl) ?_
          refine F_alloc _ (by rfl) (by rfl) z_2 (c2 (0 : F2)) rfl (List.Sublist.refl _) ?_; intro g15
          refine flow_one 14 (by kernel_rfl) ?_
          refine F_store (t := 37) 0 g15 _ _ (by rfl) (by rfl) (by rfl) (by rfl) (by rfl) (hi_2 _) ((c2_size _).trans (c2_size _).symm) (c2_one _) (.inr (List.Sublist.cons _ (List.Sublist.refl _))) ?_
          simp only [List.set_cons_zero, List.set_cons_succ]
          refine flow_done (by kernel_rfl) ?_
          intro w13 hw13
          refine seq_flow (by kernel_rfl) hw13 [] [(g15, 37, (c2 (ce_12 p q))), (g14, 37, (c2 (ce_9 p q))), (g13, 37, (c2 (ce_5 p q))), (g12, 37, (c2 (ce_2 p q))), (g10, 37, (c2 (ce_0 p q))), (g11, 37, (c2 (ce_1 p q))), (g8, 37, (c2 ((((p).y) * (((q).z) * ((q).z))) * ((q).z)))), (g9, 37, (c2 ((((q).y) * (((p).z) * ((p).z))) * ((p).z)))), (g6, 37, (c2 (ce_3 p q))), (g7, 37, (c2 (((q).x) * (((p).z) * ((p).z))))), (g4, 37, (c2 (((p).z) * ((p).z)))), (g5, 37, (c2 (((q).z) * ((q).z)))), (g2, 131, (cp2 (q))), (g1, 131, (cp2 (p)))] 13 (by rfl) ?_
          refine fTs (i := 0) (e := (List.Sublist.cons_cons _ (List.Sublist.cons_cons _ (List.Sublist.cons_cons _ (List.Sublist.cons_cons _ (List.Sublist.cons_cons _ (List.Sublist.cons_cons _ (List.Sublist.cons_cons _ (List.Sublist.cons_cons _ (List.Sublist.cons_cons _ (List.Sublist.cons_cons _ (List.Sublist.cons_cons _ (List.Sublist.cons_cons _ (List.Sublist.cons _ (List.Sublist.refl _))))))))))))))) (g := (gL g14 37 (c2 (ce_9 p q)) 1 Tryd.underlying37 (hi_2 _))) (h := ?_)
          refine fTs (i := 1) (e := (List.Sublist.cons_cons _ (List.Sublist.cons_cons _ (List.Sublist.cons_cons _ (List.Sublist.cons_cons _ (List.Sublist.cons_cons _ (List.Sublist.cons_cons _ (List.Sublist.cons_cons _ (List.Sublist.cons_cons _ (List.Sublist.cons_cons _ (List.Sublist.cons_cons _ (List.Sublist.cons_cons _ (List.Sublist.cons_cons _ (List.Sublist.cons _ (List.Sublist.refl _))))))))))))))) (g := (gL g15 37 (c2 (ce_12 p q)) 0 Tryd.underlying37 (hi_2 _))) (h := ?_)
          refine fTs (i := 2) (u := (.pointer (some ⟨g1, 24, none⟩))) (e := (List.Sublist.cons_cons _ (List.Sublist.cons_cons _ (List.Sublist.cons_cons _ (List.Sublist.cons_cons _ (List.Sublist.cons_cons _ (List.Sublist.cons_cons _ (List.Sublist.cons_cons _ (List.Sublist.cons_cons _ (List.Sublist.cons_cons _ (List.Sublist.cons_cons _ (List.Sublist.cons_cons _ (List.Sublist.cons_cons _ (List.Sublist.cons _ (List.Sublist.refl _))))))))))))))) (g := gk) (h := ?_)
          refine fTs (i := 3) (e := (List.Sublist.cons_cons _ (List.Sublist.cons_cons _ (List.Sublist.cons_cons _ (List.Sublist.cons_cons _ (List.Sublist.cons_cons _ (List.Sublist.cons_cons _ (List.Sublist.cons_cons _ (List.Sublist.cons_cons _ (List.Sublist.cons_cons _ (List.Sublist.cons_cons _ (List.Sublist.cons_cons _ (List.Sublist.cons_cons _ (List.Sublist.cons _ (List.Sublist.refl _))))))))))))))) (g := (gives_load g1 24 131 (cp2 (p)) (c2 ((p).z)) _ (by rfl) (fun _ h => h.blk 13 (by rfl)) (sl_p2z (p) _ _ 24 (Sl.refl _) (by rfl)) Tryd.underlying37 (by rfl) (hi_2 _))) (h := ?_)
          refine fTs (i := 4) (u := (.iface 37 (.agg (c2 ((p).z))))) (e := (List.Sublist.cons_cons _ (List.Sublist.cons_cons _ (List.Sublist.cons_cons _ (List.Sublist.cons_cons _ (List.Sublist.cons_cons _ (List.Sublist.cons_cons _ (List.Sublist.cons_cons _ (List.Sublist.cons_cons _ (List.Sublist.cons_cons _ (List.Sublist.cons_cons _ (List.Sublist.cons_cons _ (List.Sublist.cons_cons _ (List.Sublist.cons _ (List.Sublist.refl _))))))))))))))) (g := gk) (h := ?_)
          refine fTs (i := 5) (u := (.pointer (some ⟨g2, 24, none⟩))) (e := (List.Sublist.cons_cons _ (List.Sublist.cons_cons _ (List.Sublist.cons_cons _ (List.Sublist.cons_cons _ (List.Sublist.cons_cons _ (List.Sublist.cons_cons _ (List.Sublist.cons_cons _ (List.Sublist.cons_cons _ (List.Sublist.cons_cons _ (List.Sublist.cons_cons _ (List.Sublist.cons_cons _ (List.Sublist.cons_cons _ (List.Sublist.cons _ (List.Sublist.refl _))))))))))))))) (g := gk) (h := ?_)
          refine fTs (i := 6) (e := (List.Sublist.cons_cons _ (List.Sublist.cons_cons _ (List.Sublist.cons_cons _ (List.Sublist.cons_cons _ (List.Sublist.cons_cons _ (List.Sublist.cons_cons _ (List.Sublist.cons_cons _ (List.Sublist.cons_cons _ (List.Sublist.cons_cons _ (List.Sublist.cons_cons _ (List.Sublist.cons_cons _ (List.Sublist.cons_cons _ (List.Sublist.cons _ (List.Sublist.refl _))))))))))))))) (g := (gives_load g2 24 131 (cp2 (q)) (c2 ((q).z)) _ (by rfl) (fun _ h => h.blk 12 (by rfl)) (sl_p2z (q) _ _ 24 (Sl.refl _) (by rfl)) Tryd.underlying37 (by rfl) (hi_2 _))) (h := ?_)
          refine fTs (i := 7) (e := (List.Sublist.cons_cons _ (List.Sublist.cons_cons _ (List.Sublist.cons_cons _ (List.Sublist.cons_cons _ (List.Sublist.cons_cons _ (List.Sublist.cons_cons _ (List.Sublist.cons_cons _ (List.Sublist.cons_cons _ (List.Sublist.cons_cons _ (List.Sublist.cons_cons _ (List.Sublist.cons_cons _ (List.Sublist.cons_cons _ (List.Sublist.cons _ (List.Sublist.refl _))))))))))))))) (g := (gives_invoke (vl := [.agg (c2 ((q).z))]) (by rfl) (me2_Mul _) (by kernel_rfl) (by rfl) (fun w h => q_mul _ _ w (hG.keep h.below)))) (h := ?_)
          refine fTs (i := 8) (u := (.iface 37 (.agg (c2 (((p).z) * ((q).z)))))) (e := (List.Sublist.cons_cons _ (List.Sublist.cons_cons _ (List.Sublist.cons_cons _ (List.Sublist.cons_cons _ (List.Sublist.cons_cons _ (List.Sublist.cons_cons _ (List.Sublist.cons_cons _ (List.Sublist.cons_cons _ (List.Sublist.cons_cons _ (List.Sublist.cons_cons _ (List.Sublist.cons_cons _ (List.Sublist.cons_cons _ (List.Sublist.cons _ (List.Sublist.refl _))))))))))))))) (g := gk) (h := ?_)
          refine fTs (i := 9) (e := (List.Sublist.cons_cons _ (List.Sublist.cons_cons _ (List.Sublist.cons_cons _ (List.Sublist.cons_cons _ (List.Sublist.cons_cons _ (List.Sublist.cons_cons _ (List.Sublist.cons_cons _ (List.Sublist.cons_cons _ (List.Sublist.cons_cons _ (List.Sublist.cons_cons _ (List.Sublist.cons_cons _ (List.Sublist.cons_cons _ (List.Sublist.cons _ (List.Sublist.refl _))))))))))))))) (g := (gL g10 37 (c2 (ce_0 p q)) 4 Tryd.underlying37 (hi_2 _))) (h := ?_)
          refine fTs (i := 10) (e := (List.Sublist.cons_cons _ (List.Sublist.cons_cons _ (List.Sublist.cons_cons _ (List.Sublist.cons_cons _ (List.Sublist.cons_cons _ (List.Sublist.cons_cons _ (List.Sublist.cons_cons _ (List.Sublist.cons_cons _ (List.Sublist.cons_cons _ (List.Sublist.cons_cons _ (List.Sublist.cons_cons _ (List.Sublist.cons_cons _ (List.Sublist.cons _ (List.Sublist.refl _))))))))))))))) (g := (gives_invoke (vl := [.agg (c2 (ce_0 p q))]) (by rfl) (me2_Mul _) (by kernel_rfl) (by rfl) (fun w h => q_mul _ _ w (hG.keep h.below)))) (h := ?_)
          refine fTs (i := 11) (u := (.agg (cp2 (⟨(ce_8 p q) - (ce_3 p q), (ce_11 p q) - (ce_6 p q), (((p).z) * ((q).z)) * (ce_0 p q)⟩ : J3 F2)))) (e := (List.Sublist.cons_cons _ (List.Sublist.cons_cons _ (List.Sublist.cons_cons _ (List.Sublist.cons_cons _ (List.Sublist.cons_cons _ (List.Sublist.cons_cons _ (List.Sublist.cons_cons _ (List.Sublist.cons_cons _ (List.Sublist.cons_cons _ (List.Sublist.cons_cons _ (List.Sublist.cons_cons _ (List.Sublist.cons_cons _ (List.Sublist.cons _ (List.Sublist.refl _))))))))))))))) (g := (gb_p2 [(0, (c2 (ce_9 p q))), (1, (c2 (ce_12 p q))), (2, (c2 ((((p).z) * ((q).z)) * (ce_0 p q))))] ⟨congrArg some (c2_size _).symm, congrArg some (c2_size _).symm, congrArg some (c2_size _).symm, trivial⟩ (by rfl) (cp2 (⟨(ce_8 p q) - (ce_3 p q), (ce_11 p q) - (ce_6 p q), (((p).z) * ((q).z)) * (ce_0 p q)⟩ : J3 F2)) (by rfl))) (h := ?_)
          refine flow_one 12 (by kernel_rfl) ?_
          refine F_store (t := 131) 12 g3 _ _ (by rfl) (by rfl) (by rfl) (by rfl) (by rfl) (hi_p2 _) ((cp2_size _).trans (cp2_size _).symm) (cp2_one _) (.inr (List.Sublist.cons_cons _ (List.Sublist.cons_cons _ (List.Sublist.cons_cons _ (List.Sublist.cons_cons _ (List.Sublist.cons_cons _ (List.Sublist.cons_cons _ (List.Sublist.cons_cons _ (List.Sublist.cons_cons _ (List.Sublist.cons_cons _ (List.Sublist.cons_cons _ (List.Sublist.cons_cons _ (List.Sublist.cons_cons _ (List.Sublist.cons _ (List.Sublist.refl _))))))))))))))) ?_
          simp only [List.set_cons_zero, List.set_cons_succ]
          refine flow_done (by kernel_rfl) ?_
          intro w14 hw14
          refine wp_ret ?_
          change bodyPost _ _ _ Exit.ret _ _
          refine (ret_cell (by rfl) (by rfl) (by rfl) (hw14.blk 12 (by rfl)) Tryd.underlying131 (by rfl) (hi_p2 _) ⟨?_, hw14.below⟩)
          refine congrArg (fun z : J3 F2 => Ending.returned (.agg (cp2 z))) ?_
          exact ((if_neg hp).trans ((if_neg hq).trans (if_neg hw0))).symm
theorem k2_add (p q : J3 F2) (v : World) (hG : Glo v) : Rets 85 #[.agg (cp2 (p)), .agg (cp2 (q))] v (.agg (cp2 (J3.add p q))) := by
  by_cases hp : p.z = 0
  · exact k2_add_p p q v hG hp
  · by_cases hq : q.z = 0
    · exact k2_add_q p q v hG hp hq
    · by_cases hw0 : J3.wide p q = 0
      · by_cases hh : J3.high p q = 0
        · exact k2_add_w p q v hG hp hq hw0 hh
        · exact k2_add_h p q v hG hp hq hw0 hh
      · exact k2_add_c p q v hG hp hq hw0
set_option maxRecDepth 100000 in
set_option maxHeartbeats 4000000 in
theorem k2_sixteen (p : J3 F2) (v : World) (hG : Glo v) : Rets 154 #[.agg (cp2 (p))] v (.agg (cp2 (J3.sixteen p))) := by
  refine calls_fr1 Tryd.func154 rfl (by rfl : _ = 9) (by rfl) ?_
  have hw := Hbl.nil v
  refine seq_plain hw [0, 1] (by rfl) ?_
  refine L_box (.agg (cp2 (p))) (by rfl) (by rfl) (by rfl) (cp2 (p)) (by rfl) ?_; intro g1
  refine L_alloc _ (by rfl) (by rfl) z_p2 (cp2 (0 : J3 F2)) rfl ?_; intro g2
  refine L_end ?_
  intro w1 hw1
  refine wp_seq ?_
  refine seq_plain hw1 [0] (by rfl) ?_
  refine lv (.int .i64 0) (h := ?_)
  refine L_end ?_
  intro w2 hw2
  refine wp_block ?_
  refine rounds_first 4 ?_
  refine seq_plain hw2 [0] (by rfl) ?_
  refine L_val (.bool true) (by rfl) (by rfl) (gives_lss (k := .i64) 0 4 true (by rfl) (by rfl) (by rfl)) ?_
  refine L_end ?_
  intro w3 hw3
  refine wp_seq ?_
  refine wp_cond_true (fr_at _ _ (by rfl) _) ?_
  refine wp_skip ?_
  change Code.wp _ _ _ _ _
  refine wp_seq ?_
  refine wp_block ?_
  refine one_plain hw3 [0, 1, 2] (by rfl) ?_
  refine L_val (.agg (cp2 (p))) (by rfl) (by rfl) (gL g1 131 (cp2 (p)) 1 Tryd.underlying131 (hi_p2 _)) ?_
  refine L_val (.agg (cp2 (J3.dbl (p)))) (by rfl) (by rfl) (gives_call (vl := [.agg (cp2 (p))]) (by kernel_rfl) (by rfl) (fun w h => k2_dbl _ w (hG.keep h.below))) ?_
  refine L_store (t := 131) 1 g1 _ _ (by rfl) (by rfl) (by rfl) (by rfl) (by rfl) (hi_p2 _) ((cp2_size _).trans (cp2_size _).symm) (cp2_one _) ?_
  simp only [List.set_cons_zero, List.set_cons_succ]
  refine L_end ?_
  intro w4 hw4
  change Code.wp _ _ _ _ _
  refine one_plain hw4 [0, 1] (by rfl) ?_
  refine L_val (.int .i64 1) (by rfl) (by rfl) (gives_add (k := .i64) 0 1 1 (by rfl) (by rfl) (by rfl)) ?_
  refine lv (.int .i64 1) (h := ?_)
  refine L_end ?_
  intro w5 hw5
  refine rounds_next ?_
  refine seq_plain hw5 [0] (by rfl) ?_
  refine L_val (.bool true) (by rfl) (by rfl) (gives_lss (k := .i64) 1 4 true (by rfl) (by rfl) (by rfl)) ?_
  refine L_end ?_
  intro w6 hw6
  refine wp_seq ?_
  refine wp_cond_true (fr_at _ _ (by rfl) _) ?_
  refine wp_skip ?_
  change Code.wp _ _ _ _ _
  refine wp_seq ?_
  refine wp_block ?_
  refine one_plain hw6 [0, 1, 2] (by rfl) ?_
  refine L_val (.agg (cp2 (J3.dbl (p)))) (by rfl) (by rfl) (gL g1 131 (cp2 (J3.dbl (p))) 1 Tryd.underlying131 (hi_p2 _)) ?_
  refine L_val (.agg (cp2 (J3.dbl (J3.dbl (p))))) (by rfl) (by rfl) (gives_call (vl := [.agg (cp2 (J3.dbl (p)))]) (by kernel_rfl) (by rfl) (fun w h => k2_dbl _ w (hG.keep h.below))) ?_
  refine L_store (t := 131) 1 g1 _ _ (by rfl) (by rfl) (by rfl) (by rfl) (by rfl) (hi_p2 _) ((cp2_size _).trans (cp2_size _).symm) (cp2_one _) ?_
  simp only [List.set_cons_zero, List.set_cons_succ]
  refine L_end ?_
  intro w7 hw7
  change Code.wp _ _ _ _ _
  refine one_plain hw7 [0, 1] (by rfl) ?_
  refine L_val (.int .i64 2) (by rfl) (by rfl) (gives_add (k := .i64) 1 1 2 (by rfl) (by rfl) (by rfl)) ?_
  refine lv (.int .i64 2) (h := ?_)
  refine L_end ?_
  intro w8 hw8
  refine rounds_next ?_
  refine seq_plain hw8 [0] (by rfl) ?_
  refine L_val (.bool true) (by rfl) (by rfl) (gives_lss (k := .i64) 2 4 true (by rfl) (by rfl) (by rfl)) ?_
  refine L_end ?_
  intro w9 hw9
  refine wp_seq ?_
  refine wp_cond_true (fr_at _ _ (by rfl) _) ?_
  refine wp_skip ?_
  change Code.wp _ _ _ _ _
  refine wp_seq ?_
  refine wp_block ?_
  refine one_plain hw9 [0, 1, 2] (by rfl) ?_
  refine L_val (.agg (cp2 (J3.dbl (J3.dbl (p))))) (by rfl) (by rfl) (gL g1 131 (cp2 (J3.dbl (J3.dbl (p)))) 1 Tryd.underlying131 (hi_p2 _)) ?_
  refine L_val (.agg (cp2 (J3.dbl (J3.dbl (J3.dbl (p)))))) (by rfl) (by rfl) (gives_call (vl := [.agg (cp2 (J3.dbl (J3.dbl (p))))]) (by kernel_rfl) (by rfl) (fun w h => k2_dbl _ w (hG.keep h.below))) ?_
  refine L_store (t := 131) 1 g1 _ _ (by rfl) (by rfl) (by rfl) (by rfl) (by rfl) (hi_p2 _) ((cp2_size _).trans (cp2_size _).symm) (cp2_one _) ?_
  simp only [List.set_cons_zero, List.set_cons_succ]
  refine L_end ?_
  intro w10 hw10
  change Code.wp _ _ _ _ _
  refine one_plain hw10 [0, 1] (by rfl) ?_
  refine L_val (.int .i64 3) (by rfl) (by rfl) (gives_add (k := .i64) 2 1 3 (by rfl) (by rfl) (by rfl)) ?_
  refine lv (.int .i64 3) (h := ?_)
  refine L_end ?_
  intro w11 hw11
  refine rounds_next ?_
  refine seq_plain hw11 [0] (by rfl) ?_
  refine L_val (.bool true) (by rfl) (by rfl) (gives_lss (k := .i64) 3 4 true (by rfl) (by rfl) (by rfl)) ?_
  refine L_end ?_
  intro w12 hw12
  refine wp_seq ?_
  refine wp_cond_true (fr_at _ _ (by rfl) _) ?_
  refine wp_skip ?_
  change Code.wp _ _ _ _ _
  refine wp_seq ?_
  refine wp_block ?_
  refine one_plain hw12 [0, 1, 2] (by rfl) ?_
  refine L_val (.agg (cp2 (J3.dbl (J3.dbl (J3.dbl (p)))))) (by rfl) (by rfl) (gL g1 131 (cp2 (J3.dbl (J3.dbl (J3.dbl (p))))) 1 Tryd.underlying131 (hi_p2 _)) ?_
  refine L_val (.agg (cp2 (J3.dbl (J3.dbl (J3.dbl (J3.dbl (p))))))) (by rfl) (by rfl) (gives_call (vl := [.agg (cp2 (J3.dbl (J3.dbl (J3.dbl (p)))))]) (by kernel_rfl) (by rfl) (fun w h => k2_dbl _ w (hG.keep h.below))) ?_
  refine L_store (t := 131) 1 g1 _ _ (by rfl) (by rfl) (by rfl) (by rfl) (by rfl) (hi_p2 _) ((cp2_size _).trans (cp2_size _).symm) (cp2_one _) ?_
  simp only [List.set_cons_zero, List.set_cons_succ]
  refine L_end ?_
  intro w13 hw13
  change Code.wp _ _ _ _ _
  refine one_plain hw13 [0, 1] (by rfl) ?_
  refine L_val (.int .i64 4) (by rfl) (by rfl) (gives_add (k := .i64) 3 1 4 (by rfl) (by rfl) (by rfl)) ?_
  refine lv (.int .i64 4) (h := ?_)
  refine L_end ?_
  intro w14 hw14
  refine rounds_next ?_
  refine seq_plain hw14 [0] (by rfl) ?_
  refine L_val (.bool false) (by rfl) (by rfl) (gives_lss (k := .i64) 4 4 false (by rfl) (by rfl) (by rfl)) ?_
  refine L_end ?_
  intro w15 hw15
  refine wp_seq ?_
  refine wp_cond_false (fr_at _ _ (by rfl) _) ?_
  refine wp_exit ?_
  change Code.wp _ _ _ _ _
  change Code.wp _ _ _ _ _
  refine seq_plain hw15 [0, 1] (by rfl) ?_
  refine L_val (.agg (cp2 (J3.dbl (J3.dbl (J3.dbl (J3.dbl (p))))))) (by rfl) (by rfl) (gL g1 131 (cp2 (J3.dbl (J3.dbl (J3.dbl (J3.dbl (p)))))) 1 Tryd.underlying131 (hi_p2 _)) ?_
  refine L_store (t := 131) 0 g2 _ _ (by rfl) (by rfl) (by rfl) (by rfl) (by rfl) (hi_p2 _) ((cp2_size _).trans (cp2_size _).symm) (cp2_one _) ?_
  simp only [List.set_cons_zero, List.set_cons_succ]
  refine L_end ?_
  intro w16 hw16
  refine wp_ret ?_
  change bodyPost _ _ _ Exit.ret _ _
  refine (ret_cell (by rfl) (by rfl) (by rfl) (hw16.blk 0 (by rfl)) Tryd.underlying131 (by rfl) (hi_p2 _) ⟨?_, hw16.below⟩)
  rfl
set_option maxRecDepth 100000 in
set_option maxHeartbeats 4000000 in
theorem k2_at (p : J3 F2) (v : World) (hG : Glo v) : Rets 138 #[.agg (cp2 (p))] v (.tuple #[.agg (c2 (J3.at_ F2.inv p).x), .agg (c2 (J3.at_ F2.inv p).y)]) := by
  refine calls_fr1 Tryd.func138 rfl (by rfl : _ = 26) (by rfl) ?_
  have hw := Hbl.nil v
  refine seq_plain hw [0, 1, 2] (by rfl) ?_
  refine L_box (.agg (cp2 (p))) (by rfl) (by rfl) (by rfl) (cp2 (p)) (by rfl) ?_; intro g1
  refine L_alloc _ (by rfl) (by rfl) z_2 (c2 (0 : F2)) rfl ?_; intro g2
  refine L_alloc _ (by rfl) (by rfl) z_2 (c2 (0 : F2)) rfl ?_; intro g3
  refine L_end ?_
  intro w1 hw1
  refine seq_plain hw1 [0, 1, 2, 3, 4, 5] (by rfl) ?_
  refine L_val (.pointer (some ⟨g1, 24, none⟩)) (by rfl) (by rfl) gk ?_
  refine L_val (.agg (c2 ((p).z))) (by rfl) (by rfl) (gives_load g1 24 131 (cp2 (p)) (c2 ((p).z)) _ (by rfl) (fun _ h => h.blk 2 (by rfl)) (sl_p2z (p) _ _ 24 (Sl.refl _) (by rfl)) Tryd.underlying37 (by rfl) (hi_2 _)) ?_
  refine L_val (.iface 37 (.agg (c2 ((p).z)))) (by rfl) (by rfl) gk ?_
  refine L_val (.agg (c2 (F2.inv ((p).z)))) (by rfl) (by rfl) (gives_invoke (vl := []) (by rfl) (me2_Inv _) (by kernel_rfl) (by rfl) (fun w h => q_inv _ w (hG.keep h.below))) ?_
  refine L_alloc _ (by rfl) (by rfl) z_2 (c2 (0 : F2)) rfl ?_; intro g4
  refine L_store (t := 37) 0 g4 _ _ (by rfl) (by rfl) (by rfl) (by rfl) (by rfl) (hi_2 _) ((c2_size _).trans (c2_size _).symm) (c2_one _) ?_
  simp only [List.set_cons_zero, List.set_cons_succ]
  refine L_end ?_
  intro w2 hw2
  refine seq_plain hw2 [0, 1, 2, 3, 4] (by rfl) ?_
  refine L_val (.agg (c2 (F2.inv ((p).z)))) (by rfl) (by rfl) (gL g4 37 (c2 (F2.inv ((p).z))) 0 Tryd.underlying37 (hi_2 _)) ?_
  refine L_val (.iface 37 (.agg (c2 (F2.inv ((p).z))))) (by rfl) (by rfl) gk ?_
  refine L_val (.agg (c2 ((F2.inv ((p).z)) * (F2.inv ((p).z))))) (by rfl) (by rfl) (gives_invoke (vl := []) (by rfl) (me2_Square _) (by kernel_rfl) (by rfl) (fun w h => q_square _ w (hG.keep h.below))) ?_
  refine L_alloc _ (by rfl) (by rfl) z_2 (c2 (0 : F2)) rfl ?_; intro g5
  refine L_store (t := 37) 0 g5 _ _ (by rfl) (by rfl) (by rfl) (by rfl) (by rfl) (hi_2 _) ((c2_size _).trans (c2_size _).symm) (c2_one _) ?_
  simp only [List.set_cons_zero, List.set_cons_succ]
  refine L_end ?_
  intro w3 hw3
  refine seq_flow (by kernel_rfl) hw3 [] [(g5, 37, (c2 ((F2.inv ((p).z)) * (F2.inv ((p).z))))), (g4, 37, (c2 (F2.inv ((p).z)))), (g1, 131, (cp2 (p)))] 15 (by rfl) ?_
  refine fTs (i := 0) (u := (.pointer (some ⟨g1, 0, none⟩))) (e := (List.Sublist.cons_cons _ (List.Sublist.cons_cons _ (List.Sublist.cons _ (List.Sublist.cons _ (List.Sublist.refl _)))))) (g := gk) (h := ?_)
  refine fTs (i := 1) (e := (List.Sublist.cons_cons _ (List.Sublist.cons_cons _ (List.Sublist.cons _ (List.Sublist.cons _ (List.Sublist.refl _)))))) (g := (gives_load g1 0 131 (cp2 (p)) (c2 ((p).x)) _ (by rfl) (fun _ h => h.blk 2 (by rfl)) (sl_p2x (p) _ _ (Sl.refl _)) Tryd.underlying37 (by rfl) (hi_2 _))) (h := ?_)
  refine fTs (i := 2) (u := (.iface 37 (.agg (c2 ((p).x))))) (e := (List.Sublist.cons_cons _ (List.Sublist.cons_cons _ (List.Sublist.cons _ (List.Sublist.cons _ (List.Sublist.refl _)))))) (g := gk) (h := ?_)
  refine fTs (i := 3) (e := (List.Sublist.cons_cons _ (List.Sublist.cons_cons _ (List.Sublist.cons _ (List.Sublist.cons _ (List.Sublist.refl _)))))) (g := (gL g5 37 (c2 ((F2.inv ((p).z)) * (F2.inv ((p).z)))) 0 Tryd.underlying37 (hi_2 _))) (h := ?_)
  refine fTs (i := 4) (e := (List.Sublist.cons_cons _ (List.Sublist.cons_cons _ (List.Sublist.cons _ (List.Sublist.cons _ (List.Sublist.refl _)))))) (g := (gives_invoke (vl := [.agg (c2 ((F2.inv ((p).z)) * (F2.inv ((p).z))))]) (by rfl) (me2_Mul _) (by kernel_rfl) (by rfl) (fun w h => q_mul _ _ w (hG.keep h.below)))) (h := ?_)
  refine fTs (i := 5) (u := (.pointer (some ⟨g1, 12, none⟩))) (e := (List.Sublist.cons_cons _ (List.Sublist.cons_cons _ (List.Sublist.cons _ (List.Sublist.cons _ (List.Sublist.refl _)))))) (g := gk) (h := ?_)
  refine fTs (i := 6) (e := (List.Sublist.cons_cons _ (List.Sublist.cons_cons _ (List.Sublist.cons _ (List.Sublist.cons _ (List.Sublist.refl _)))))) (g := (gives_load g1 12 131 (cp2 (p)) (c2 ((p).y)) _ (by rfl) (fun _ h => h.blk 2 (by rfl)) (sl_p2y (p) _ _ 12 (Sl.refl _) (by rfl)) Tryd.underlying37 (by rfl) (hi_2 _))) (h := ?_)
  refine fTs (i := 7) (u := (.iface 37 (.agg (c2 ((p).y))))) (e := (List.Sublist.cons_cons _ (List.Sublist.cons_cons _ (List.Sublist.cons _ (List.Sublist.cons _ (List.Sublist.refl _)))))) (g := gk) (h := ?_)
  refine fTs (i := 8) (e := (List.Sublist.cons_cons _ (List.Sublist.cons_cons _ (List.Sublist.cons _ (List.Sublist.cons _ (List.Sublist.refl _)))))) (g := (gL g5 37 (c2 ((F2.inv ((p).z)) * (F2.inv ((p).z)))) 0 Tryd.underlying37 (hi_2 _))) (h := ?_)
  refine fTs (i := 9) (e := (List.Sublist.cons_cons _ (List.Sublist.cons_cons _ (List.Sublist.cons _ (List.Sublist.cons _ (List.Sublist.refl _)))))) (g := (gives_invoke (vl := [.agg (c2 ((F2.inv ((p).z)) * (F2.inv ((p).z))))]) (by rfl) (me2_Mul _) (by kernel_rfl) (by rfl) (fun w h => q_mul _ _ w (hG.keep h.below)))) (h := ?_)
  refine fTs (i := 10) (u := (.iface 37 (.agg (c2 (((p).y) * ((F2.inv ((p).z)) * (F2.inv ((p).z)))))))) (e := (List.Sublist.cons_cons _ (List.Sublist.cons_cons _ (List.Sublist.cons _ (List.Sublist.cons _ (List.Sublist.refl _)))))) (g := gk) (h := ?_)
  refine fTs (i := 11) (e := (List.Sublist.cons_cons _ (List.Sublist.cons_cons _ (List.Sublist.cons _ (List.Sublist.cons _ (List.Sublist.refl _)))))) (g := (gL g4 37 (c2 (F2.inv ((p).z))) 1 Tryd.underlying37 (hi_2 _))) (h := ?_)
  refine fTs (i := 12) (e := (List.Sublist.cons_cons _ (List.Sublist.cons_cons _ (List.Sublist.cons _ (List.Sublist.cons _ (List.Sublist.refl _)))))) (g := (gives_invoke (vl := [.agg (c2 (F2.inv ((p).z)))]) (by rfl) (me2_Mul _) (by kernel_rfl) (by rfl) (fun w h => q_mul _ _ w (hG.keep h.below)))) (h := ?_)
  refine flow_one 13 (by kernel_rfl) ?_
  refine F_store (t := 37) 3 g2 _ _ (by rfl) (by rfl) (by rfl) (by rfl) (by rfl) (hi_2 _) ((c2_size _).trans (c2_size _).symm) (c2_one _) (.inr (List.Sublist.cons_cons _ (List.Sublist.cons_cons _ (List.Sublist.cons _ (List.Sublist.cons _ (List.Sublist.refl _)))))) ?_
  simp only [List.set_cons_zero, List.set_cons_succ]
  refine flow_one 14 (by kernel_rfl) ?_
  refine F_store (t := 37) 2 g3 _ _ (by rfl) (by rfl) (by rfl) (by rfl) (by rfl) (hi_2 _) ((c2_size _).trans (c2_size _).symm) (c2_one _) (.inr (List.Sublist.cons_cons _ (List.Sublist.cons_cons _ (List.Sublist.cons _ (List.Sublist.cons _ (List.Sublist.refl _)))))) ?_
  simp only [List.set_cons_zero, List.set_cons_succ]
  refine flow_done (by kernel_rfl) ?_
  intro w4 hw4
  refine wp_ret ?_
  change bodyPost _ _ _ Exit.ret _ _
  refine (ret_cell_cell (by rfl) (by rfl) (by rfl) (by rfl) (hw4.blk 3 (by rfl)) (hw4.blk 2 (by rfl)) Tryd.underlying37 (by rfl) (hi_2 _) Tryd.underlying37 (by rfl) (hi_2 _) ⟨?_, hw4.below⟩)
  rfl
set_option maxRecDepth 100000 in
set_option maxHeartbeats 4000000 in
theorem k2_point (p : J3 F2) (v : World) (hG : Glo v) : Rets 87 #[.agg (cp2 (p))] v (.agg (cg2 (J3.at_ F2.inv p))) := by
  refine calls_fr1 Tryd.func87 rfl (by rfl : _ = 13) (by rfl) ?_
  have hw := Hbl.nil v
  refine seq_plain hw [0, 1] (by rfl) ?_
  refine L_box (.agg (cp2 (p))) (by rfl) (by rfl) (by rfl) (cp2 (p)) (by rfl) ?_; intro g1
  refine L_alloc _ (by rfl) (by rfl) z_g2 (cg2 (0 : Pt F2)) rfl ?_; intro g2
  refine L_end ?_
  intro w1 hw1
  refine seq_plain hw1 [0, 1, 2, 3, 4, 5, 6, 7, 8] (by rfl) ?_
  refine L_val (.agg (cp2 (p))) (by rfl) (by rfl) (gL g1 131 (cp2 (p)) 1 Tryd.underlying131 (hi_p2 _)) ?_
  refine L_val (.tuple #[.agg (c2 ((J3.at_ F2.inv (p)).x)), .agg (c2 ((J3.at_ F2.inv (p)).y))]) (by rfl) (by rfl) (gives_call (vl := [.agg (cp2 (p))]) (by kernel_rfl) (by rfl) (fun w h => k2_at _ w (hG.keep h.below))) ?_
  refine lv (.tuple #[.agg (c2 ((J3.at_ F2.inv (p)).x)), .agg (c2 ((J3.at_ F2.inv (p)).y))]) (h := ?_)
  refine L_val (.agg (c2 ((J3.at_ F2.inv (p)).x))) (by rfl) (by rfl) gk ?_
  refine L_val (.agg (c2 ((J3.at_ F2.inv (p)).y))) (by rfl) (by rfl) gk ?_
  refine L_alloc _ (by rfl) (by rfl) z_2 (c2 (0 : F2)) rfl ?_; intro g3
  refine L_alloc _ (by rfl) (by rfl) z_2 (c2 (0 : F2)) rfl ?_; intro g4
  refine L_store (t := 37) 1 g3 _ _ (by rfl) (by rfl) (by rfl) (by rfl) (by rfl) (hi_2 _) ((c2_size _).trans (c2_size _).symm) (c2_one _) ?_
  simp only [List.set_cons_zero, List.set_cons_succ]
  refine L_store (t := 37) 0 g4 _ _ (by rfl) (by rfl) (by rfl) (by rfl) (by rfl) (hi_2 _) ((c2_size _).trans (c2_size _).symm) (c2_one _) ?_
  simp only [List.set_cons_zero, List.set_cons_succ]
  refine L_end ?_
  intro w2 hw2
  refine seq_plain hw2 [0, 1, 2, 3] (by rfl) ?_
  refine L_val (.agg (c2 ((J3.at_ F2.inv (p)).x))) (by rfl) (by rfl) (gL g3 37 (c2 ((J3.at_ F2.inv (p)).x)) 1 Tryd.underlying37 (hi_2 _)) ?_
  refine L_val (.agg (c2 ((J3.at_ F2.inv (p)).y))) (by rfl) (by rfl) (gL g4 37 (c2 ((J3.at_ F2.inv (p)).y)) 0 Tryd.underlying37 (hi_2 _)) ?_
  refine L_val (.agg (cg2 (⟨(J3.at_ F2.inv (p)).x, (J3.at_ F2.inv (p)).y⟩ : Pt F2))) (by rfl) (by rfl) (gb_g2 [(0, (c2 ((J3.at_ F2.inv (p)).x))), (1, (c2 ((J3.at_ F2.inv (p)).y)))] ⟨congrArg some (c2_size _).symm, congrArg some (c2_size _).symm, trivial⟩ (by rfl) (cg2 (⟨(J3.at_ F2.inv (p)).x, (J3.at_ F2.inv (p)).y⟩ : Pt F2)) (by rfl)) ?_
  refine L_store (t := 71) 2 g2 _ _ (by rfl) (by rfl) (by rfl) (by rfl) (by rfl) (hi_g2 _) ((cg2_size _).trans (cg2_size _).symm) (cg2_one _) ?_
  simp only [List.set_cons_zero, List.set_cons_succ]
  refine L_end ?_
  intro w3 hw3
  refine wp_ret ?_
  change bodyPost _ _ _ Exit.ret _ _
  refine (ret_cell (by rfl) (by rfl) (by rfl) (hw3.blk 2 (by rfl)) Tryd.underlying71 (by rfl) (hi_g2 _) ⟨?_, hw3.below⟩)
  rfl
set_option maxRecDepth 100000 in
set_option maxHeartbeats 4000000 in
theorem k2_term_z (p : Pt F2) (v : World) (hG : Glo v) (hz : p = 0) : Rets 86 #[.agg (cg2 (p))] v (.agg (cp2 (J3.of p))) := by
  refine calls_fr1 Tryd.func86 rfl (by rfl : _ = 13) (by rfl) ?_
  have hw := Hbl.nil v
  refine seq_plain hw [0, 1] (by rfl) ?_
  refine L_box (.agg (cg2 (p))) (by rfl) (by rfl) (by rfl) (cg2 (p)) (by rfl) ?_; intro g1
  refine L_alloc _ (by rfl) (by rfl) z_p2 (cp2 (0 : J3 F2)) rfl ?_; intro g2
  refine L_end ?_
  intro w1 hw1
  refine wp_seq ?_
  refine seq_plain hw1 [0, 1, 2] (by rfl) ?_
  refine L_val (.agg (cg2 (p))) (by rfl) (by rfl) (gL g1 71 (cg2 (p)) 1 Tryd.underlying71 (hi_g2 _)) ?_
  refine L_val (.agg (cg2 (0 : Pt F2))) (by rfl) (by rfl) (gb_g2 [] trivial (by rfl) (cg2 (0 : Pt F2)) (by rfl)) ?_
  refine L_val (.bool true) (by rfl) (by rfl) (gives_eql (cg2 (p)) (cg2 (0 : Pt F2)) true (by rfl) (by rfl) (by kernel_rfl) (fun w => eq_g2_t (d := 9995) w hz)) ?_
  refine L_end ?_
  intro w2 hw2
  refine wp_cond_true (fr_at _ _ (by rfl) _) ?_
  refine seq_plain hw2 [0, 1] (by rfl) ?_
  refine L_val (.agg (cp2 (0 : J3 F2))) (by rfl) (by rfl) (gb_p2 [] trivial (by rfl) (cp2 (0 : J3 F2)) (by rfl)) ?_
  refine L_store (t := 131) 0 g2 _ _ (by rfl) (by rfl) (by rfl) (by rfl) (by rfl) (hi_p2 _) ((cp2_size _).trans (cp2_size _).symm) (cp2_one _) ?_
  simp only [List.set_cons_zero, List.set_cons_succ]
  refine L_end ?_
  intro w3 hw3
  refine wp_ret ?_
  change bodyPost _ _ _ Exit.ret _ _
  refine (ret_cell (by rfl) (by rfl) (by rfl) (hw3.blk 0 (by rfl)) Tryd.underlying131 (by rfl) (hi_p2 _) ⟨?_, hw3.below⟩)
  refine congrArg (fun z : J3 F2 => Ending.returned (.agg (cp2 z))) ?_
  exact (if_pos hz).symm
set_option maxRecDepth 100000 in
set_option maxHeartbeats 4000000 in
theorem k2_term_n (p : Pt F2) (v : World) (hG : Glo v) (hz : p ≠ 0) : Rets 86 #[.agg (cg2 (p))] v (.agg (cp2 (J3.of p))) := by
  obtain ⟨k0, hk0⟩ : ∃ k : F2, k = F2.sm 1 0 := ⟨_, rfl⟩
  refine calls_fr1 Tryd.func86 rfl (by rfl : _ = 13) (by rfl) ?_
  have hw := Hbl.nil v
  refine seq_plain hw [0, 1] (by rfl) ?_
  refine L_box (.agg (cg2 (p))) (by rfl) (by rfl) (by rfl) (cg2 (p)) (by rfl) ?_; intro g1
  refine L_alloc _ (by rfl) (by rfl) z_p2 (cp2 (0 : J3 F2)) rfl ?_; intro g2
  refine L_end ?_
  intro w1 hw1
  refine wp_seq ?_
  refine seq_plain hw1 [0, 1, 2] (by rfl) ?_
  refine L_val (.agg (cg2 (p))) (by rfl) (by rfl) (gL g1 71 (cg2 (p)) 1 Tryd.underlying71 (hi_g2 _)) ?_
  refine L_val (.agg (cg2 (0 : Pt F2))) (by rfl) (by rfl) (gb_g2 [] trivial (by rfl) (cg2 (0 : Pt F2)) (by rfl)) ?_
  refine L_val (.bool false) (by rfl) (by rfl) (gives_eql (cg2 (p)) (cg2 (0 : Pt F2)) false (by rfl) (by rfl) (by kernel_rfl) (fun w => eq_g2_f (d := 9995) w hz)) ?_
  refine L_end ?_
  intro w2 hw2
  refine wp_cond_false (fr_at _ _ (by rfl) _) ?_
  refine wp_skip ?_
  change Code.wp _ _ _ _ _
  refine seq_flow (by kernel_rfl) hw2 [] [(g1, 71, (cg2 (p)))] 7 (by rfl) ?_
  refine fTs (i := 0) (u := (.pointer (some ⟨g1, 0, none⟩))) (e := (List.Sublist.cons _ (List.Sublist.refl _))) (g := gk) (h := ?_)
  refine fTs (i := 1) (e := (List.Sublist.cons _ (List.Sublist.refl _))) (g := (gives_load g1 0 71 (cg2 (p)) (c2 ((p).x)) _ (by rfl) (fun _ h => h.blk 0 (by rfl)) (sl_g2x (p) _ _ (Sl.refl _)) Tryd.underlying37 (by rfl) (hi_2 _))) (h := ?_)
  refine fTs (i := 2) (u := (.pointer (some ⟨g1, 12, none⟩))) (e := (List.Sublist.cons _ (List.Sublist.refl _))) (g := gk) (h := ?_)
  refine fTs (i := 3) (e := (List.Sublist.cons _ (List.Sublist.refl _))) (g := (gives_load g1 12 71 (cg2 (p)) (c2 ((p).y)) _ (by rfl) (fun _ h => h.blk 0 (by rfl)) (sl_g2y (p) _ _ 12 (Sl.refl _) (by rfl)) Tryd.underlying37 (by rfl) (hi_2 _))) (h := ?_)
  refine fTs (i := 4) (u := (.agg (c2 (k0)))) (e := (List.Sublist.cons _ (List.Sublist.refl _))) (g := (gives_call (vl := [.int .u64 1, .int .u64 0]) (by kernel_rfl) (by rfl) (fun w h => by rw [hk0]; exact q_small _ _ w (hG.keep h.below) (by omega) (by simp only [Wd]; omega) (by omega) (by simp only [Wd]; omega)))) (h := ?_)
  refine fTs (i := 5) (e := (List.Sublist.cons _ (List.Sublist.refl _))) (g := (gives_call (vl := [.agg (c2 ((p).x)), .agg (c2 ((p).y)), .agg (c2 (k0))]) (by kernel_rfl) (by rfl) (fun w h => k2_of _ _ _ w (hG.keep h.below)))) (h := ?_)
  refine flow_one 6 (by kernel_rfl) ?_
  refine F_store (t := 131) 0 g2 _ _ (by rfl) (by rfl) (by rfl) (by rfl) (by rfl) (hi_p2 _) ((cp2_size _).trans (cp2_size _).symm) (cp2_one _) (.inr (List.Sublist.cons _ (List.Sublist.refl _))) ?_
  simp only [List.set_cons_zero, List.set_cons_succ]
  refine flow_done (by kernel_rfl) ?_
  intro w3 hw3
  refine wp_ret ?_
  change bodyPost _ _ _ Exit.ret _ _
  refine (ret_cell (by rfl) (by rfl) (by rfl) (hw3.blk 0 (by rfl)) Tryd.underlying131 (by rfl) (hi_p2 _) ⟨?_, hw3.below⟩)
  refine congrArg (fun z : J3 F2 => Ending.returned (.agg (cp2 z))) ?_
  refine Eq.trans ?_ (if_neg hz).symm
  rw [hk0]; exact congrArg (J3.mk p.x p.y) F2.sm1
theorem k2_term (p : Pt F2) (v : World) (hG : Glo v) : Rets 86 #[.agg (cg2 (p))] v (.agg (cp2 (J3.of p))) := by
  by_cases hz : p = 0
  · exact k2_term_z p v hG hz
  · exact k2_term_n p v hG hz
set_option maxRecDepth 100000 in
set_option maxHeartbeats 4000000 in
theorem k2_neg (p : Pt F2) (v : World) (hG : Glo v) : Rets 39 #[.agg (cg2 (p))] v (.agg (cg2 (-p))) := by
  refine calls_fr1 Tryd.func39 rfl (by rfl : _ = 9) (by rfl) ?_
  have hw := Hbl.nil v
  refine seq_plain hw [0, 1] (by rfl) ?_
  refine L_box (.agg (cg2 (p))) (by rfl) (by rfl) (by rfl) (cg2 (p)) (by rfl) ?_; intro g1
  refine L_alloc _ (by rfl) (by rfl) z_g2 (cg2 (0 : Pt F2)) rfl ?_; intro g2
  refine L_end ?_
  intro w1 hw1
  refine seq_flow (by kernel_rfl) hw1 [] [(g1, 71, (cg2 (p)))] 7 (by rfl) ?_
  refine fTs (i := 0) (u := (.pointer (some ⟨g1, 0, none⟩))) (e := (List.Sublist.cons _ (List.Sublist.refl _))) (g := gk) (h := ?_)
  refine fTs (i := 1) (e := (List.Sublist.cons _ (List.Sublist.refl _))) (g := (gives_load g1 0 71 (cg2 (p)) (c2 ((p).x)) _ (by rfl) (fun _ h => h.blk 0 (by rfl)) (sl_g2x (p) _ _ (Sl.refl _)) Tryd.underlying37 (by rfl) (hi_2 _))) (h := ?_)
  refine fTs (i := 2) (u := (.pointer (some ⟨g1, 12, none⟩))) (e := (List.Sublist.cons _ (List.Sublist.refl _))) (g := gk) (h := ?_)
  refine fTs (i := 3) (e := (List.Sublist.cons _ (List.Sublist.refl _))) (g := (gives_load g1 12 71 (cg2 (p)) (c2 ((p).y)) _ (by rfl) (fun _ h => h.blk 0 (by rfl)) (sl_g2y (p) _ _ 12 (Sl.refl _) (by rfl)) Tryd.underlying37 (by rfl) (hi_2 _))) (h := ?_)
  refine fTs (i := 4) (e := (List.Sublist.cons _ (List.Sublist.refl _))) (g := (gives_call (vl := [.agg (c2 ((p).y))]) (by kernel_rfl) (by rfl) (fun w h => q_neg _ w (hG.keep h.below)))) (h := ?_)
  refine fTs (i := 5) (u := (.agg (cg2 (⟨(p).x, -((p).y)⟩ : Pt F2)))) (e := (List.Sublist.cons _ (List.Sublist.refl _))) (g := (gb_g2 [(0, (c2 ((p).x))), (1, (c2 (-((p).y))))] ⟨congrArg some (c2_size _).symm, congrArg some (c2_size _).symm, trivial⟩ (by rfl) (cg2 (⟨(p).x, -((p).y)⟩ : Pt F2)) (by rfl))) (h := ?_)
  refine flow_one 6 (by kernel_rfl) ?_
  refine F_store (t := 71) 0 g2 _ _ (by rfl) (by rfl) (by rfl) (by rfl) (by rfl) (hi_g2 _) ((cg2_size _).trans (cg2_size _).symm) (cg2_one _) (.inr (List.Sublist.cons _ (List.Sublist.refl _))) ?_
  simp only [List.set_cons_zero, List.set_cons_succ]
  refine flow_done (by kernel_rfl) ?_
  intro w2 hw2
  refine wp_ret ?_
  change bodyPost _ _ _ Exit.ret _ _
  refine (ret_cell (by rfl) (by rfl) (by rfl) (hw2.blk 0 (by rfl)) Tryd.underlying71 (by rfl) (hi_g2 _) ⟨?_, hw2.below⟩)
  rfl
set_option maxRecDepth 100000 in
set_option maxHeartbeats 4000000 in
theorem k2_times (p : J3 F2) (A0 : Option Addr) (n0 c0 : Nat) (bs0 : List Int) (v : World) (hG : Glo v) (hr0 : Reads v v.heap.size A0 n0 (bs0.map (Value.int .u8))) (ho0 : Oct bs0) (hb0 : n0 ≤ 1099511627776) : Rets 134 #[.agg (cp2 (p)), .slice A0 n0 c0] v (.agg (cp2 (tsum p bs0))) := by
  have hn0 : bs0.length = n0 := by simpa using hr0.1
  refine calls_fr2 Tryd.func134 rfl (by rfl : _ = 44) (by rfl) ?_
  have hw := Hbl.nil v
  refine seq_plain hw [0, 1] (by rfl) ?_
  refine L_box (.agg (cp2 (p))) (by rfl) (by rfl) (by rfl) (cp2 (p)) (by rfl) ?_; intro g1
  refine L_alloc _ (by rfl) (by rfl) z_p2 (cp2 (0 : J3 F2)) rfl ?_; intro g2
  refine L_end ?_
  intro w1 hw1
  refine seq_plain hw1 [0] (by rfl) ?_
  refine L_alloc _ (by rfl) (by rfl) z_a16_2 (joinA [(cp2 (0 : J3 F2)), (cp2 (0 : J3 F2)), (cp2 (0 : J3 F2)), (cp2 (0 : J3 F2)), (cp2 (0 : J3 F2)), (cp2 (0 : J3 F2)), (cp2 (0 : J3 F2)), (cp2 (0 : J3 F2)), (cp2 (0 : J3 F2)), (cp2 (0 : J3 F2)), (cp2 (0 : J3 F2)), (cp2 (0 : J3 F2)), (cp2 (0 : J3 F2)), (cp2 (0 : J3 F2)), (cp2 (0 : J3 F2)), (cp2 (0 : J3 F2))]) rfl ?_; intro g3
  refine L_end ?_
  intro w2 hw2
  refine wp_seq ?_
  refine seq_plain hw2 [0] (by rfl) ?_
  refine lv (.int .i64 1) (h := ?_)
  refine L_end ?_
  intro w3 hw3
  refine wp_block ?_
  refine rounds_first 15 ?_
  refine wp_seq ?_
  refine seq_plain hw3 [0, 1] (by rfl) ?_
  refine lv (.int .i64 1) (h := ?_)
  refine L_val (.bool true) (by rfl) (by rfl) (gives_lss (k := .i64) 1 16 true (by rfl) (by rfl) (by rfl)) ?_
  refine L_end ?_
  intro w4 hw4
  refine wp_cond_true (fr_at _ _ (by rfl) _) ?_
  refine wp_skip ?_
  change Code.wp _ _ _ _ _
  refine wp_seq ?_
  refine wp_block ?_
  refine one_flow (by kernel_rfl) hw4 [8] [(g3, 183, (joinA [(cp2 (0 : J3 F2)), (cp2 (0 : J3 F2)), (cp2 (0 : J3 F2)), (cp2 (0 : J3 F2)), (cp2 (0 : J3 F2)), (cp2 (0 : J3 F2)), (cp2 (0 : J3 F2)), (cp2 (0 : J3 F2)), (cp2 (0 : J3 F2)), (cp2 (0 : J3 F2)), (cp2 (0 : J3 F2)), (cp2 (0 : J3 F2)), (cp2 (0 : J3 F2)), (cp2 (0 : J3 F2)), (cp2 (0 : J3 F2)), (cp2 (0 : J3 F2))])), (g2, 131, (cp2 (0 : J3 F2))), (g1, 131, (cp2 (p)))] 9 (by rfl) ?_
  refine fV (i := 0) (u := (.int .i64 1)) (h := ?_)
  refine fV (i := 1) (u := (.int .i64 1)) (h := ?_)
  refine fT (i := 2) (u := (.int .i64 0)) (g := (gives_sub (k := .i64) 1 1 0 (by rfl) (by rfl) (by rfl))) (h := ?_)
  refine fT (i := 3) (u := (.pointer (some ⟨g3, 0, none⟩))) (g := gk) (h := ?_)
  refine fT (i := 4) (g := (gives_load g3 0 183 (joinA [(cp2 (0 : J3 F2)), (cp2 (0 : J3 F2)), (cp2 (0 : J3 F2)), (cp2 (0 : J3 F2)), (cp2 (0 : J3 F2)), (cp2 (0 : J3 F2)), (cp2 (0 : J3 F2)), (cp2 (0 : J3 F2)), (cp2 (0 : J3 F2)), (cp2 (0 : J3 F2)), (cp2 (0 : J3 F2)), (cp2 (0 : J3 F2)), (cp2 (0 : J3 F2)), (cp2 (0 : J3 F2)), (cp2 (0 : J3 F2)), (cp2 (0 : J3 F2))]) (cp2 (0 : J3 F2)) _ (by rfl) (fun _ h => h.blk 0 (by rfl)) (sl_joinC 36 _ (by simp [cp2_size]) 0 _ (by rfl) _ (by rfl)) Tryd.underlying131 (by rfl) (hi_p2 _))) (h := ?_)
  refine fT (i := 5) (g := (gL g1 131 (cp2 (p)) 2 Tryd.underlying131 (hi_p2 _))) (h := ?_)
  refine fT (i := 6) (g := (gives_call (vl := [.agg (cp2 (0 : J3 F2)), .agg (cp2 (p))]) (by kernel_rfl) (by rfl) (fun w h => k2_add _ _ w (hG.keep h.below)))) (h := ?_)
  refine fT (i := 7) (u := (.pointer (some ⟨g3, 36, none⟩))) (g := gk) (h := ?_)
  refine flow_one 8 (by kernel_rfl) ?_
  refine F_storeA (t := 183) 0 g3 36 (joinA [(cp2 (0 : J3 F2)), (cp2 (0 : J3 F2)), (cp2 (0 : J3 F2)), (cp2 (0 : J3 F2)), (cp2 (0 : J3 F2)), (cp2 (0 : J3 F2)), (cp2 (0 : J3 F2)), (cp2 (0 : J3 F2)), (cp2 (0 : J3 F2)), (cp2 (0 : J3 F2)), (cp2 (0 : J3 F2)), (cp2 (0 : J3 F2)), (cp2 (0 : J3 F2)), (cp2 (0 : J3 F2)), (cp2 (0 : J3 F2)), (cp2 (0 : J3 F2))]) (cp2 (J3.few p 1)) (joinA [(cp2 (0 : J3 F2)), (cp2 (J3.few p 1)), (cp2 (0 : J3 F2)), (cp2 (0 : J3 F2)), (cp2 (0 : J3 F2)), (cp2 (0 : J3 F2)), (cp2 (0 : J3 F2)), (cp2 (0 : J3 F2)), (cp2 (0 : J3 F2)), (cp2 (0 : J3 F2)), (cp2 (0 : J3 F2)), (cp2 (0 : J3 F2)), (cp2 (0 : J3 F2)), (cp2 (0 : J3 F2)), (cp2 (0 : J3 F2)), (cp2 (0 : J3 F2))]) (by rfl) (by rfl) (by rfl) (by rfl) (by rfl) (hi_p2 _) (by rw [joinC_size 36 _ (by simp [cp2_size]), cp2_size]; simp) (cp2_one _) (spliceC' 36 _ (by simp [cp2_size]) 1 _ (cp2_size _) (by simp) _ (by rfl) _ (by rfl)) (.inl (by decide)) ?_
  simp only [List.set_cons_zero, List.set_cons_succ]
  refine flow_done (by kernel_rfl) ?_
  intro w5 hw5
  change Code.wp _ _ _ _ _
  refine one_plain hw5 [0, 1, 2] (by rfl) ?_
  refine lv (.int .i64 1) (h := ?_)
  refine L_val (.int .i64 2) (by rfl) (by rfl) (gives_add (k := .i64) 1 1 2 (by rfl) (by rfl) (by rfl)) ?_
  refine lv (.int .i64 2) (h := ?_)
  refine L_end ?_
  intro w6 hw6
  refine rounds_next ?_
  refine wp_seq ?_
  refine seq_plain hw6 [0, 1] (by rfl) ?_
  refine lv (.int .i64 2) (h := ?_)
  refine L_val (.bool true) (by rfl) (by rfl) (gives_lss (k := .i64) 2 16 true (by rfl) (by rfl) (by rfl)) ?_
  refine L_end ?_
  intro w7 hw7
  refine wp_cond_true (fr_at _ _ (by rfl) _) ?_
  refine wp_skip ?_
  change Code.wp _ _ _ _ _
  refine wp_seq ?_
  refine wp_block ?_
  refine one_flow (by kernel_rfl) hw7 [8] [(g3, 183, (joinA [(cp2 (0 : J3 F2)), (cp2 (J3.few p 1)), (cp2 (0 : J3 F2)), (cp2 (0 : J3 F2)), (cp2 (0 : J3 F2)), (cp2 (0 : J3 F2)), (cp2 (0 : J3 F2)), (cp2 (0 : J3 F2)), (cp2 (0 : J3 F2)), (cp2 (0 : J3 F2)), (cp2 (0 : J3 F2)), (cp2 (0 : J3 F2)), (cp2 (0 : J3 F2)), (cp2 (0 : J3 F2)), (cp2 (0 : J3 F2)), (cp2 (0 : J3 F2))])), (g2, 131, (cp2 (0 : J3 F2))), (g1, 131, (cp2 (p)))] 9 (by rfl) ?_
  refine fV (i := 0) (u := (.int .i64 2)) (h := ?_)
  refine fV (i := 1) (u := (.int .i64 2)) (h := ?_)
  refine fT (i := 2) (u := (.int .i64 1)) (g := (gives_sub (k := .i64) 2 1 1 (by rfl) (by rfl) (by rfl))) (h := ?_)
  refine fT (i := 3) (u := (.pointer (some ⟨g3, 36, none⟩))) (g := gk) (h := ?_)
  refine fT (i := 4) (g := (gives_load g3 36 183 (joinA [(cp2 (0 : J3 F2)), (cp2 (J3.few p 1)), (cp2 (0 : J3 F2)), (cp2 (0 : J3 F2)), (cp2 (0 : J3 F2)), (cp2 (0 : J3 F2)), (cp2 (0 : J3 F2)), (cp2 (0 : J3 F2)), (cp2 (0 : J3 F2)), (cp2 (0 : J3 F2)), (cp2 (0 : J3 F2)), (cp2 (0 : J3 F2)), (cp2 (0 : J3 F2)), (cp2 (0 : J3 F2)), (cp2 (0 : J3 F2)), (cp2 (0 : J3 F2))]) (cp2 (J3.few p 1)) _ (by rfl) (fun _ h => h.blk 0 (by rfl)) (sl_joinC 36 _ (by simp [cp2_size]) 1 _ (by rfl) _ (by rfl)) Tryd.underlying131 (by rfl) (hi_p2 _))) (h := ?_)
  refine fT (i := 5) (g := (gL g1 131 (cp2 (p)) 2 Tryd.underlying131 (hi_p2 _))) (h := ?_)
  refine fT (i := 6) (g := (gives_call (vl := [.agg (cp2 (J3.few p 1)), .agg (cp2 (p))]) (by kernel_rfl) (by rfl) (fun w h => k2_add _ _ w (hG.keep h.below)))) (h := ?_)
  refine fT (i := 7) (u := (.pointer (some ⟨g3, 72, none⟩))) (g := gk) (h := ?_)
  refine flow_one 8 (by kernel_rfl) ?_
  refine F_storeA (t := 183) 0 g3 72 (joinA [(cp2 (0 : J3 F2)), (cp2 (J3.few p 1)), (cp2 (0 : J3 F2)), (cp2 (0 : J3 F2)), (cp2 (0 : J3 F2)), (cp2 (0 : J3 F2)), (cp2 (0 : J3 F2)), (cp2 (0 : J3 F2)), (cp2 (0 : J3 F2)), (cp2 (0 : J3 F2)), (cp2 (0 : J3 F2)), (cp2 (0 : J3 F2)), (cp2 (0 : J3 F2)), (cp2 (0 : J3 F2)), (cp2 (0 : J3 F2)), (cp2 (0 : J3 F2))]) (cp2 (J3.few p 2)) (joinA [(cp2 (0 : J3 F2)), (cp2 (J3.few p 1)), (cp2 (J3.few p 2)), (cp2 (0 : J3 F2)), (cp2 (0 : J3 F2)), (cp2 (0 : J3 F2)), (cp2 (0 : J3 F2)), (cp2 (0 : J3 F2)), (cp2 (0 : J3 F2)), (cp2 (0 : J3 F2)), (cp2 (0 : J3 F2)), (cp2 (0 : J3 F2)), (cp2 (0 : J3 F2)), (cp2 (0 : J3 F2)), (cp2 (0 : J3 F2)), (cp2 (0 : J3 F2))]) (by rfl) (by rfl) (by rfl) (by rfl) (by rfl) (hi_p2 _) (by rw [joinC_size 36 _ (by simp [cp2_size]), cp2_size]; simp) (cp2_one _) (spliceC' 36 _ (by simp [cp2_size]) 2 _ (cp2_size _) (by simp) _ (by rfl) _ (by rfl)) (.inl (by decide)) ?_
  simp only [List.set_cons_zero, List.set_cons_succ]
  refine flow_done (by kernel_rfl) ?_
  intro w8 hw8
  change Code.wp _ _ _ _ _
  refine one_plain hw8 [0, 1, 2] (by rfl) ?_
  refine lv (.int .i64 2) (h := ?_)
  refine L_val (.int .i64 3) (by rfl) (by rfl) (gives_add (k := .i64) 2 1 3 (by rfl) (by rfl) (by rfl)) ?_
  refine lv (.int .i64 3) (h := ?_)
  refine L_end ?_
  intro w9 hw9
  refine rounds_next ?_
  refine wp_seq ?_
  refine seq_plain hw9 [0, 1] (by rfl) ?_
  refine lv (.int .i64 3) (h := ?_)
  refine L_val (.bool true) (by rfl) (by rfl) (gives_lss (k := .i64) 3 16 true (by rfl) (by rfl) (by rfl)) ?_
  refine L_end ?_
  intro w10 hw10
  refine wp_cond_true (fr_at _ _ (by rfl) _) ?_
  refine wp_skip ?_
  change Code.wp _ _ _ _ _
  refine wp_seq ?_
  refine wp_block ?_
  refine one_flow (by kernel_rfl) hw10 [8] [(g3, 183, (joinA [(cp2 (0 : J3 F2)), (cp2 (J3.few p 1)), (cp2 (J3.few p 2)), (cp2 (0 : J3 F2)), (cp2 (0 : J3 F2)), (cp2 (0 : J3 F2)), (cp2 (0 : J3 F2)), (cp2 (0 : J3 F2)), (cp2 (0 : J3 F2)), (cp2 (0 : J3 F2)), (cp2 (0 : J3 F2)), (cp2 (0 : J3 F2)), (cp2 (0 : J3 F2)), (cp2 (0 : J3 F2)), (cp2 (0 : J3 F2)), (cp2 (0 : J3 F2))])), (g2, 131, (cp2 (0 : J3 F2))), (g1, 131, (cp2 (p)))] 9 (by rfl) ?_
  refine fV (i := 0) (u := (.int .i64 3)) (h := ?_)
  refine fV (i := 1) (u := (.int .i64 3)) (h := ?_)
  refine fT (i := 2) (u := (.int .i64 2)) (g := (gives_sub (k := .i64) 3 1 2 (by rfl) (by rfl) (by rfl))) (h := ?_)
  refine fT (i := 3) (u := (.pointer (some ⟨g3, 72, none⟩))) (g := gk) (h := ?_)
  refine fT (i := 4) (g := (gives_load g3 72 183 (joinA [(cp2 (0 : J3 F2)), (cp2 (J3.few p 1)), (cp2 (J3.few p 2)), (cp2 (0 : J3 F2)), (cp2 (0 : J3 F2)), (cp2 (0 : J3 F2)), (cp2 (0 : J3 F2)), (cp2 (0 : J3 F2)), (cp2 (0 : J3 F2)), (cp2 (0 : J3 F2)), (cp2 (0 : J3 F2)), (cp2 (0 : J3 F2)), (cp2 (0 : J3 F2)), (cp2 (0 : J3 F2)), (cp2 (0 : J3 F2)), (cp2 (0 : J3 F2))]) (cp2 (J3.few p 2)) _ (by rfl) (fun _ h => h.blk 0 (by rfl)) (sl_joinC 36 _ (by simp [cp2_size]) 2 _ (by rfl) _ (by rfl)) Tryd.underlying131 (by rfl) (hi_p2 _))) (h := ?_)
  refine fT (i := 5) (g := (gL g1 131 (cp2 (p)) 2 Tryd.underlying131 (hi_p2 _))) (h := ?_)
  refine fT (i := 6) (g := (gives_call (vl := [.agg (cp2 (J3.few p 2)), .agg (cp2 (p))]) (by kernel_rfl) (by rfl) (fun w h => k2_add _ _ w (hG.keep h.below)))) (h := ?_)
  refine fT (i := 7) (u := (.pointer (some ⟨g3, 108, none⟩))) (g := gk) (h := ?_)
  refine flow_one 8 (by kernel_rfl) ?_
  refine F_storeA (t := 183) 0 g3 108 (joinA [(cp2 (0 : J3 F2)), (cp2 (J3.few p 1)), (cp2 (J3.few p 2)), (cp2 (0 : J3 F2)), (cp2 (0 : J3 F2)), (cp2 (0 : J3 F2)), (cp2 (0 : J3 F2)), (cp2 (0 : J3 F2)), (cp2 (0 : J3 F2)), (cp2 (0 : J3 F2)), (cp2 (0 : J3 F2)), (cp2 (0 : J3 F2)), (cp2 (0 : J3 F2)), (cp2 (0 : J3 F2)), (cp2 (0 : J3 F2)), (cp2 (0 : J3 F2))]) (cp2 (J3.few p 3)) (joinA [(cp2 (0 : J3 F2)), (cp2 (J3.few p 1)), (cp2 (J3.few p 2)), (cp2 (J3.few p 3)), (cp2 (0 : J3 F2)), (cp2 (0 : J3 F2)), (cp2 (0 : J3 F2)), (cp2 (0 : J3 F2)), (cp2 (0 : J3 F2)), (cp2 (0 : J3 F2)), (cp2 (0 : J3 F2)), (cp2 (0 : J3 F2)), (cp2 (0 : J3 F2)), (cp2 (0 : J3 F2)), (cp2 (0 : J3 F2)), (cp2 (0 : J3 F2))]) (by rfl) (by rfl) (by rfl) (by rfl) (by rfl) (hi_p2 _) (by rw [joinC_size 36 _ (by simp [cp2_size]), cp2_size]; simp) (cp2_one _) (spliceC' 36 _ (by simp [cp2_size]) 3 _ (cp2_size _) (by simp) _ (by rfl) _ (by rfl)) (.inl (by decide)) ?_
  simp only [List.set_cons_zero, List.set_cons_succ]
  refine flow_done (by kernel_rfl) ?_
  intro w11 hw11
  change Code.wp _ _ _ _ _
  refine one_plain hw11 [0, 1, 2] (by rfl) ?_
  refine lv (.int .i64 3) (h := ?_)
  refine L_val (.int .i64 4) (by rfl) (by rfl) (gives_add (k := .i64) 3 1 4 (by rfl) (by rfl) (by rfl)) ?_
  refine lv (.int .i64 4) (h := ?_)
  refine L_end ?_
  intro w12 hw12
  refine rounds_next ?_
  refine wp_seq ?_
  refine seq_plain hw12 [0, 1] (by rfl) ?_
  refine lv (.int .i64 4) (h := ?_)
  refine L_val (.bool true) (by rfl) (by rfl) (gives_lss (k := .i64) 4 16 true (by rfl) (by rfl) (by rfl)) ?_
  refine L_end ?_
  intro w13 hw13
  refine wp_cond_true (fr_at _ _ (by rfl) _) ?_
  refine wp_skip ?_
  change Code.wp _ _ _ _ _
  refine wp_seq ?_
  refine wp_block ?_
  refine one_flow (by kernel_rfl) hw13 [8] [(g3, 183, (joinA [(cp2 (0 : J3 F2)), (cp2 (J3.few p 1)), (cp2 (J3.few p 2)), (cp2 (J3.few p 3)), (cp2 (0 : J3 F2)), (cp2 (0 : J3 F2)), (cp2 (0 : J3 F2)), (cp2 (0 : J3 F2)), (cp2 (0 : J3 F2)), (cp2 (0 : J3 F2)), (cp2 (0 : J3 F2)), (cp2 (0 : J3 F2)), (cp2 (0 : J3 F2)), (cp2 (0 : J3 F2)), (cp2 (0 : J3 F2)), (cp2 (0 : J3 F2))])), (g2, 131, (cp2 (0 : J3 F2))), (g1, 131, (cp2 (p)))] 9 (by rfl) ?_
  refine fV (i := 0) (u := (.int .i64 4)) (h := ?_)
  refine fV (i := 1) (u := (.int .i64 4)) (h := ?_)
  refine fT (i := 2) (u := (.int .i64 3)) (g := (gives_sub (k := .i64) 4 1 3 (by rfl) (by rfl) (by rfl))) (h := ?_)
  refine fT (i := 3) (u := (.pointer (some ⟨g3, 108, none⟩))) (g := gk) (h := ?_)
  refine fT (i := 4) (g := (gives_load g3 108 183 (joinA [(cp2 (0 : J3 F2)), (cp2 (J3.few p 1)), (cp2 (J3.few p 2)), (cp2 (J3.few p 3)), (cp2 (0 : J3 F2)), (cp2 (0 : J3 F2)), (cp2 (0 : J3 F2)), (cp2 (0 : J3 F2)), (cp2 (0 : J3 F2)), (cp2 (0 : J3 F2)), (cp2 (0 : J3 F2)), (cp2 (0 : J3 F2)), (cp2 (0 : J3 F2)), (cp2 (0 : J3 F2)), (cp2 (0 : J3 F2)), (cp2 (0 : J3 F2))]) (cp2 (J3.few p 3)) _ (by rfl) (fun _ h => h.blk 0 (by rfl)) (sl_joinC 36 _ (by simp [cp2_size]) 3 _ (by rfl) _ (by rfl)) Tryd.underlying131 (by rfl) (hi_p2 _))) (h := ?_)
  refine fT (i := 5) (g := (gL g1 131 (cp2 (p)) 2 Tryd.underlying131 (hi_p2 _))) (h := ?_)
  refine fT (i := 6) (g := (gives_call (vl := [.agg (cp2 (J3.few p 3)), .agg (cp2 (p))]) (by kernel_rfl) (by rfl) (fun w h => k2_add _ _ w (hG.keep h.below)))) (h := ?_)
  refine fT (i := 7) (u := (.pointer (some ⟨g3, 144, none⟩))) (g := gk) (h := ?_)
  refine flow_one 8 (by kernel_rfl) ?_
  refine F_storeA (t := 183) 0 g3 144 (joinA [(cp2 (0 : J3 F2)), (cp2 (J3.few p 1)), (cp2 (J3.few p 2)), (cp2 (J3.few p 3)), (cp2 (0 : J3 F2)), (cp2 (0 : J3 F2)), (cp2 (0 : J3 F2)), (cp2 (0 : J3 F2)), (cp2 (0 : J3 F2)), (cp2 (0 : J3 F2)), (cp2 (0 : J3 F2)), (cp2 (0 : J3 F2)), (cp2 (0 : J3 F2)), (cp2 (0 : J3 F2)), (cp2 (0 : J3 F2)), (cp2 (0 : J3 F2))]) (cp2 (J3.few p 4)) (joinA [(cp2 (0 : J3 F2)), (cp2 (J3.few p 1)), (cp2 (J3.few p 2)), (cp2 (J3.few p 3)), (cp2 (J3.few p 4)), (cp2 (0 : J3 F2)), (cp2 (0 : J3 F2)), (cp2 (0 : J3 F2)), (cp2 (0 : J3 F2)), (cp2 (0 : J3 F2)), (cp2 (0 : J3 F2)), (cp2 (0 : J3 F2)), (cp2 (0 : J3 F2)), (cp2 (0 : J3 F2)), (cp2 (0 : J3 F2)), (cp2 (0 : J3 F2))]) (by rfl) (by rfl) (by rfl) (by rfl) (by rfl) (hi_p2 _) (by rw [joinC_size 36 _ (by simp [cp2_size]), cp2_size]; simp) (cp2_one _) (spliceC' 36 _ (by simp [cp2_size]) 4 _ (cp2_size _) (by simp) _ (by rfl) _ (by rfl)) (.inl (by decide)) ?_
  simp only [List.set_cons_zero, List.set_cons_succ]
  refine flow_done (by kernel_rfl) ?_
  intro w14 hw14
  change Code.wp _ _ _ _ _
  refine one_plain hw14 [0, 1, 2] (by rfl) ?_
  refine lv (.int .i64 4) (h := ?_)
  refine L_val (.int .i64 5) (by rfl) (by rfl) (gives_add (k := .i64) 4 1 5 (by rfl) (by rfl) (by rfl)) ?_
  refine lv (.int .i64 5) (h := ?_)
  refine L_end ?_
  intro w15 hw15
  refine rounds_next ?_
  refine wp_seq ?_
  refine seq_plain hw15 [0, 1] (by rfl) ?_
  refine lv (.int .i64 5) (h := ?_)
  refine L_val (.bool true) (by rfl) (by rfl) (gives_lss (k := .i64) 5 16 true (by rfl) (by rfl) (by rfl)) ?_
  refine L_end ?_
  intro w16 hw16
  refine wp_cond_true (fr_at _ _ (by rfl) _) ?_
  refine wp_skip ?_
  change Code.wp _ _ _ _ _
  refine wp_seq ?_
  refine wp_block ?_
  refine one_flow (by kernel_rfl) hw16 [8] [(g3, 183, (joinA [(cp2 (0 : J3 F2)), (cp2 (J3.few p 1)), (cp2 (J3.few p 2)), (cp2 (J3.few p 3)), (cp2 (J3.few p 4)), (cp2 (0 : J3 F2)), (cp2 (0 : J3 F2)), (cp2 (0 : J3 F2)), (cp2 (0 : J3 F2)), (cp2 (0 : J3 F2)), (cp2 (0 : J3 F2)), (cp2 (0 : J3 F2)), (cp2 (0 : J3 F2)), (cp2 (0 : J3 F2)), (cp2 (0 : J3 F2)), (cp2 (0 : J3 F2))])), (g2, 131, (cp2 (0 : J3 F2))), (g1, 131, (cp2 (p)))] 9 (by rfl) ?_
  refine fV (i := 0) (u := (.int .i64 5)) (h := ?_)
  refine fV (i := 1) (u := (.int .i64 5)) (h := ?_)
  refine fT (i := 2) (u := (.int .i64 4)) (g := (gives_sub (k := .i64) 5 1 4 (by rfl) (by rfl) (by rfl))) (h := ?_)
  refine fT (i := 3) (u := (.pointer (some ⟨g3, 144, none⟩))) (g := gk) (h := ?_)
  refine fT (i := 4) (g := (gives_load g3 144 183 (joinA [(cp2 (0 : J3 F2)), (cp2 (J3.few p 1)), (cp2 (J3.few p 2)), (cp2 (J3.few p 3)), (cp2 (J3.few p 4)), (cp2 (0 : J3 F2)), (cp2 (0 : J3 F2)), (cp2 (0 : J3 F2)), (cp2 (0 : J3 F2)), (cp2 (0 : J3 F2)), (cp2 (0 : J3 F2)), (cp2 (0 : J3 F2)), (cp2 (0 : J3 F2)), (cp2 (0 : J3 F2)), (cp2 (0 : J3 F2)), (cp2 (0 : J3 F2))]) (cp2 (J3.few p 4)) _ (by rfl) (fun _ h => h.blk 0 (by rfl)) (sl_joinC 36 _ (by simp [cp2_size]) 4 _ (by rfl) _ (by rfl)) Tryd.underlying131 (by rfl) (hi_p2 _))) (h := ?_)
  refine fT (i := 5) (g := (gL g1 131 (cp2 (p)) 2 Tryd.underlying131 (hi_p2 _))) (h := ?_)
  refine fT (i := 6) (g := (gives_call (vl := [.agg (cp2 (J3.few p 4)), .agg (cp2 (p))]) (by kernel_rfl) (by rfl) (fun w h => k2_add _ _ w (hG.keep h.below)))) (h := ?_)
  refine fT (i := 7) (u := (.pointer (some ⟨g3, 180, none⟩))) (g := gk) (h := ?_)
  refine flow_one 8 (by kernel_rfl) ?_
  refine F_storeA (t := 183) 0 g3 180 (joinA [(cp2 (0 : J3 F2)), (cp2 (J3.few p 1)), (cp2 (J3.few p 2)), (cp2 (J3.few p 3)), (cp2 (J3.few p 4)), (cp2 (0 : J3 F2)), (cp2 (0 : J3 F2)), (cp2 (0 : J3 F2)), (cp2 (0 : J3 F2)), (cp2 (0 : J3 F2)), (cp2 (0 : J3 F2)), (cp2 (0 : J3 F2)), (cp2 (0 : J3 F2)), (cp2 (0 : J3 F2)), (cp2 (0 : J3 F2)), (cp2 (0 : J3 F2))]) (cp2 (J3.few p 5)) (joinA [(cp2 (0 : J3 F2)), (cp2 (J3.few p 1)), (cp2 (J3.few p 2)), (cp2 (J3.few p 3)), (cp2 (J3.few p 4)), (cp2 (J3.few p 5)), (cp2 (0 : J3 F2)), (cp2 (0 : J3 F2)), (cp2 (0 : J3 F2)), (cp2 (0 : J3 F2)), (cp2 (0 : J3 F2)), (cp2 (0 : J3 F2)), (cp2 (0 : J3 F2)), (cp2 (0 : J3 F2)), (cp2 (0 : J3 F2)), (cp2 (0 : J3 F2))]) (by rfl) (by rfl) (by rfl) (by rfl) (by rfl) (hi_p2 _) (by rw [joinC_size 36 _ (by simp [cp2_size]), cp2_size]; simp) (cp2_one _) (spliceC' 36 _ (by simp [cp2_size]) 5 _ (cp2_size _) (by simp) _ (by rfl) _ (by rfl)) (.inl (by decide)) ?_
  simp only [List.set_cons_zero, List.set_cons_succ]
  refine flow_done (by kernel_rfl) ?_
  intro w17 hw17
  change Code.wp _ _ _ _ _
  refine one_plain hw17 [0, 1, 2] (by rfl) ?_
  refine lv (.int .i64 5) (h := ?_)
  refine L_val (.int .i64 6) (by rfl) (by rfl) (gives_add (k := .i64) 5 1 6 (by rfl) (by rfl) (by rfl)) ?_
  refine lv (.int .i64 6) (h := ?_)
  refine L_end ?_
  intro w18 hw18
  refine rounds_next ?_
  refine wp_seq ?_
  refine seq_plain hw18 [0, 1] (by rfl) ?_
  refine lv (.int .i64 6) (h := ?_)
  refine L_val (.bool true) (by rfl) (by rfl) (gives_lss (k := .i64) 6 16 true (by rfl) (by rfl) (by rfl)) ?_
  refine L_end ?_
  intro w19 hw19
  refine wp_cond_true (fr_at _ _ (by rfl) _) ?_
  refine wp_skip ?_
  change Code.wp _ _ _ _ _
  refine wp_seq ?_
  refine wp_block ?_
  refine one_flow (by kernel_rfl) hw19 [8] [(g3, 183, (joinA [(cp2 (0 : J3 F2)), (cp2 (J3.few p 1)), (cp2 (J3.few p 2)), (cp2 (J3.few p 3)), (cp2 (J3.few p 4)), (cp2 (J3.few p 5)), (cp2 (0 : J3 F2)), (cp2 (0 : J3 F2)), (cp2 (0 : J3 F2)), (cp2 (0 : J3 F2)), (cp2 (0 : J3 F2)), (cp2 (0 : J3 F2)), (cp2 (0 : J3 F2)), (cp2 (0 : J3 F2)), (cp2 (0 : J3 F2)), (cp2 (0 : J3 F2))])), (g2, 131, (cp2 (0 : J3 F2))), (g1, 131, (cp2 (p)))] 9 (by rfl) ?_
  refine fV (i := 0) (u := (.int .i64 6)) (h := ?_)
  refine fV (i := 1) (u := (.int .i64 6)) (h := ?_)
  refine fT (i := 2) (u := (.int .i64 5)) (g := (gives_sub (k := .i64) 6 1 5 (by rfl) (by rfl) (by rfl))) (h := ?_)
  refine fT (i := 3) (u := (.pointer (some ⟨g3, 180, none⟩))) (g := gk) (h := ?_)
  refine fT (i := 4) (g := (gives_load g3 180 183 (joinA [(cp2 (0 : J3 F2)), (cp2 (J3.few p 1)), (cp2 (J3.few p 2)), (cp2 (J3.few p 3)), (cp2 (J3.few p 4)), (cp2 (J3.few p 5)), (cp2 (0 : J3 F2)), (cp2 (0 : J3 F2)), (cp2 (0 : J3 F2)), (cp2 (0 : J3 F2)), (cp2 (0 : J3 F2)), (cp2 (0 : J3 F2)), (cp2 (0 : J3 F2)), (cp2 (0 : J3 F2)), (cp2 (0 : J3 F2)), (cp2 (0 : J3 F2))]) (cp2 (J3.few p 5)) _ (by rfl) (fun _ h => h.blk 0 (by rfl)) (sl_joinC 36 _ (by simp [cp2_size]) 5 _ (by rfl) _ (by rfl)) Tryd.underlying131 (by rfl) (hi_p2 _))) (h := ?_)
  refine fT (i := 5) (g := (gL g1 131 (cp2 (p)) 2 Tryd.underlying131 (hi_p2 _))) (h := ?_)
  refine fT (i := 6) (g := (gives_call (vl := [.agg (cp2 (J3.few p 5)), .agg (cp2 (p))]) (by kernel_rfl) (by rfl) (fun w h => k2_add _ _ w (hG.keep h.below)))) (h := ?_)
  refine fT (i := 7) (u := (.pointer (some ⟨g3, 216, none⟩))) (g := gk) (h := ?_)
  refine flow_one 8 (by kernel_rfl) ?_
  refine F_storeA (t := 183) 0 g3 216 (joinA [(cp2 (0 : J3 F2)), (cp2 (J3.few p 1)), (cp2 (J3.few p 2)), (cp2 (J3.few p 3)), (cp2 (J3.few p 4)), (cp2 (J3.few p 5)), (cp2 (0 : J3 F2)), (cp2 (0 : J3 F2)), (cp2 (0 : J3 F2)), (cp2 (0 : J3 F2)), (cp2 (0 : J3 F2)), (cp2 (0 : J3 F2)), (cp2 (0 : J3 F2)), (cp2 (0 : J3 F2)), (cp2 (0 : J3 F2)), (cp2 (0 : J3 F2))]) (cp2 (J3.few p 6)) (joinA [(cp2 (0 : J3 F2)), (cp2 (J3.few p 1)), (cp2 (J3.few p 2)), (cp2 (J3.few p 3)), (cp2 (J3.few p 4)), (cp2 (J3.few p 5)), (cp2 (J3.few p 6)), (cp2 (0 : J3 F2)), (cp2 (0 : J3 F2)), (cp2 (0 : J3 F2)), (cp2 (0 : J3 F2)), (cp2 (0 : J3 F2)), (cp2 (0 : J3 F2)), (cp2 (0 : J3 F2)), (cp2 (0 : J3 F2)), (cp2 (0 : J3 F2))]) (by rfl) (by rfl) (by rfl) (by rfl) (by rfl) (hi_p2 _) (by rw [joinC_size 36 _ (by simp [cp2_size]), cp2_size]; simp) (cp2_one _) (spliceC' 36 _ (by simp [cp2_size]) 6 _ (cp2_size _) (by simp) _ (by rfl) _ (by rfl)) (.inl (by decide)) ?_
  simp only [List.set_cons_zero, List.set_cons_succ]
  refine flow_done (by kernel_rfl) ?_
  intro w20 hw20
  change Code.wp _ _ _ _ _
  refine one_plain hw20 [0, 1, 2] (by rfl) ?_
  refine lv (.int .i64 6) (h := ?_)
  refine L_val (.int .i64 7) (by rfl) (by rfl) (gives_add (k := .i64) 6 1 7 (by rfl) (by rfl) (by rfl)) ?_
  refine lv (.int .i64 7) (h := ?_)
  refine L_end ?_
  intro w21 hw21
  refine rounds_next ?_
  refine wp_seq ?_
  refine seq_plain hw21 [0, 1] (by rfl) ?_
  refine lv (.int .i64 7) (h := ?_)
  refine L_val (.bool true) (by rfl) (by rfl) (gives_lss (k := .i64) 7 16 true (by rfl) (by rfl) (by rfl)) ?_
  refine L_end ?_
  intro w22 hw22
  refine wp_cond_true (fr_at _ _ (by rfl) _) ?_
  refine wp_skip ?_
  change Code.wp _ _ _ _ _
  refine wp_seq ?_
  refine wp_block ?_
  refine one_flow (by kernel_rfl) hw22 [8] [(g3, 183, (joinA [(cp2 (0 : J3 F2)), (cp2 (J3.few p 1)), (cp2 (J3.few p 2)), (cp2 (J3.few p 3)), (cp2 (J3.few p 4)), (cp2 (J3.few p 5)), (cp2 (J3.few p 6)), (cp2 (0 : J3 F2)), (cp2 (0 : J3 F2)), (cp2 (0 : J3 F2)), (cp2 (0 : J3 F2)), (cp2 (0 : J3 F2)), (cp2 (0 : J3 F2)), (cp2 (0 : J3 F2)), (cp2 (0 : J3 F2)), (cp2 (0 : J3 F2))])), (g2, 131, (cp2 (0 : J3 F2))), (g1, 131, (cp2 (p)))] 9 (by rfl) ?_
  refine fV (i := 0) (u := (.int .i64 7)) (h := ?_)
  refine fV (i := 1) (u := (.int .i64 7)) (h := ?_)
  refine fT (i := 2) (u := (.int .i64 6)) (g := (gives_sub (k := .i64) 7 1 6 (by rfl) (by rfl) (by rfl))) (h := ?_)
  refine fT (i := 3) (u := (.pointer (some ⟨g3, 216, none⟩))) (g := gk) (h := ?_)
  refine fT (i := 4) (g := (gives_load g3 216 183 (joinA [(cp2 (0 : J3 F2)), (cp2 (J3.few p 1)), (cp2 (J3.few p 2)), (cp2 (J3.few p 3)), (cp2 (J3.few p 4)), (cp2 (J3.few p 5)), (cp2 (J3.few p 6)), (cp2 (0 : J3 F2)), (cp2 (0 : J3 F2)), (cp2 (0 : J3 F2)), (cp2 (0 : J3 F2)), (cp2 (0 : J3 F2)), (cp2 (0 : J3 F2)), (cp2 (0 : J3 F2)), (cp2 (0 : J3 F2)), (cp2 (0 : J3 F2))]) (cp2 (J3.few p 6)) _ (by rfl) (fun _ h => h.blk 0 (by rfl)) (sl_joinC 36 _ (by simp [cp2_size]) 6 _ (by rfl) _ (by rfl)) Tryd.underlying131 (by rfl) (hi_p2 _))) (h := ?_)
  refine fT (i := 5) (g := (gL g1 131 (cp2 (p)) 2 Tryd.underlying131 (hi_p2 _))) (h := ?_)
  refine fT (i := 6) (g := (gives_call (vl := [.agg (cp2 (J3.few p 6)), .agg (cp2 (p))]) (by kernel_rfl) (by rfl) (fun w h => k2_add _ _ w (hG.keep h.below)))) (h := ?_)
  refine fT (i := 7) (u := (.pointer (some ⟨g3, 252, none⟩))) (g := gk) (h := ?_)
  refine flow_one 8 (by kernel_rfl) ?_
  refine F_storeA (t := 183) 0 g3 252 (joinA [(cp2 (0 : J3 F2)), (cp2 (J3.few p 1)), (cp2 (J3.few p 2)), (cp2 (J3.few p 3)), (cp2 (J3.few p 4)), (cp2 (J3.few p 5)), (cp2 (J3.few p 6)), (cp2 (0 : J3 F2)), (cp2 (0 : J3 F2)), (cp2 (0 : J3 F2)), (cp2 (0 : J3 F2)), (cp2 (0 : J3 F2)), (cp2 (0 : J3 F2)), (cp2 (0 : J3 F2)), (cp2 (0 : J3 F2)), (cp2 (0 : J3 F2))]) (cp2 (J3.few p 7)) (joinA [(cp2 (0 : J3 F2)), (cp2 (J3.few p 1)), (cp2 (J3.few p 2)), (cp2 (J3.few p 3)), (cp2 (J3.few p 4)), (cp2 (J3.few p 5)), (cp2 (J3.few p 6)), (cp2 (J3.few p 7)), (cp2 (0 : J3 F2)), (cp2 (0 : J3 F2)), (cp2 (0 : J3 F2)), (cp2 (0 : J3 F2)), (cp2 (0 : J3 F2)), (cp2 (0 : J3 F2)), (cp2 (0 : J3 F2)), (cp2 (0 : J3 F2))]) (by rfl) (by rfl) (by rfl) (by rfl) (by rfl) (hi_p2 _) (by rw [joinC_size 36 _ (by simp [cp2_size]), cp2_size]; simp) (cp2_one _) (spliceC' 36 _ (by simp [cp2_size]) 7 _ (cp2_size _) (by simp) _ (by rfl) _ (by rfl)) (.inl (by decide)) ?_
  simp only [List.set_cons_zero, List.set_cons_succ]
  refine flow_done (by kernel_rfl) ?_
  intro w23 hw23
  change Code.wp _ _ _ _ _
  refine one_plain hw23 [0, 1, 2] (by rfl) ?_
  refine lv (.int .i64 7) (h := ?_)
  refine L_val (.int .i64 8) (by rfl) (by rfl) (gives_add (k := .i64) 7 1 8 (by rfl) (by rfl) (by rfl)) ?_
  refine lv (.int .i64 8) (h := ?_)
  refine L_end ?_
  intro w24 hw24
  refine rounds_next ?_
  refine wp_seq ?_
  refine seq_plain hw24 [0, 1] (by rfl) ?_
  refine lv (.int .i64 8) (h := ?_)
  refine L_val (.bool true) (by rfl) (by rfl) (gives_lss (k := .i64) 8 16 true (by rfl) (by rfl) (by rfl)) ?_
  refine L_end ?_
  intro w25 hw25
  refine wp_cond_true (fr_at _ _ (by rfl) _) ?_
  refine wp_skip ?_
  change Code.wp _ _ _ _ _
  refine wp_seq ?_
  refine wp_block ?_
  refine one_flow (by kernel_rfl) hw25 [8] [(g3, 183, (joinA [(cp2 (0 : J3 F2)), (cp2 (J3.few p 1)), (cp2 (J3.few p 2)), (cp2 (J3.few p 3)), (cp2 (J3.few p 4)), (cp2 (J3.few p 5)), (cp2 (J3.few p 6)), (cp2 (J3.few p 7)), (cp2 (0 : J3 F2)), (cp2 (0 : J3 F2)), (cp2 (0 : J3 F2)), (cp2 (0 : J3 F2)), (cp2 (0 : J3 F2)), (cp2 (0 : J3 F2)), (cp2 (0 : J3 F2)), (cp2 (0 : J3 F2))])), (g2, 131, (cp2 (0 : J3 F2))), (g1, 131, (cp2 (p)))] 9 (by rfl) ?_
  refine fV (i := 0) (u := (.int .i64 8)) (h := ?_)
  refine fV (i := 1) (u := (.int .i64 8)) (h := ?_)
  refine fT (i := 2) (u := (.int .i64 7)) (g := (gives_sub (k := .i64) 8 1 7 (by rfl) (by rfl) (by rfl))) (h := ?_)
  refine fT (i := 3) (u := (.pointer (some ⟨g3, 252, none⟩))) (g := gk) (h := ?_)
  refine fT (i := 4) (g := (gives_load g3 252 183 (joinA [(cp2 (0 : J3 F2)), (cp2 (J3.few p 1)), (cp2 (J3.few p 2)), (cp2 (J3.few p 3)), (cp2 (J3.few p 4)), (cp2 (J3.few p 5)), (cp2 (J3.few p 6)), (cp2 (J3.few p 7)), (cp2 (0 : J3 F2)), (cp2 (0 : J3 F2)), (cp2 (0 : J3 F2)), (cp2 (0 : J3 F2)), (cp2 (0 : J3 F2)), (cp2 (0 : J3 F2)), (cp2 (0 : J3 F2)), (cp2 (0 : J3 F2))]) (cp2 (J3.few p 7)) _ (by rfl) (fun _ h => h.blk 0 (by rfl)) (sl_joinC 36 _ (by simp [cp2_size]) 7 _ (by rfl) _ (by rfl)) Tryd.underlying131 (by rfl) (hi_p2 _))) (h := ?_)
  refine fT (i := 5) (g := (gL g1 131 (cp2 (p)) 2 Tryd.underlying131 (hi_p2 _))) (h := ?_)
  refine fT (i := 6) (g := (gives_call (vl := [.agg (cp2 (J3.few p 7)), .agg (cp2 (p))]) (by kernel_rfl) (by rfl) (fun w h => k2_add _ _ w (hG.keep h.below)))) (h := ?_)
  refine fT (i := 7) (u := (.pointer (some ⟨g3, 288, none⟩))) (g := gk) (h := ?_)
  refine flow_one 8 (by kernel_rfl) ?_
  refine F_storeA (t := 183) 0 g3 288 (joinA [(cp2 (0 : J3 F2)), (cp2 (J3.few p 1)), (cp2 (J3.few p 2)), (cp2 (J3.few p 3)), (cp2 (J3.few p 4)), (cp2 (J3.few p 5)), (cp2 (J3.few p 6)), (cp2 (J3.few p 7)), (cp2 (0 : J3 F2)), (cp2 (0 : J3 F2)), (cp2 (0 : J3 F2)), (cp2 (0 : J3 F2)), (cp2 (0 : J3 F2)), (cp2 (0 : J3 F2)), (cp2 (0 : J3 F2)), (cp2 (0 : J3 F2))]) (cp2 (J3.few p 8)) (joinA [(cp2 (0 : J3 F2)), (cp2 (J3.few p 1)), (cp2 (J3.few p 2)), (cp2 (J3.few p 3)), (cp2 (J3.few p 4)), (cp2 (J3.few p 5)), (cp2 (J3.few p 6)), (cp2 (J3.few p 7)), (cp2 (J3.few p 8)), (cp2 (0 : J3 F2)), (cp2 (0 : J3 F2)), (cp2 (0 : J3 F2)), (cp2 (0 : J3 F2)), (cp2 (0 : J3 F2)), (cp2 (0 : J3 F2)), (cp2 (0 : J3 F2))]) (by rfl) (by rfl) (by rfl) (by rfl) (by rfl) (hi_p2 _) (by rw [joinC_size 36 _ (by simp [cp2_size]), cp2_size]; simp) (cp2_one _) (spliceC' 36 _ (by simp [cp2_size]) 8 _ (cp2_size _) (by simp) _ (by rfl) _ (by rfl)) (.inl (by decide)) ?_
  simp only [List.set_cons_zero, List.set_cons_succ]
  refine flow_done (by kernel_rfl) ?_
  intro w26 hw26
  change Code.wp _ _ _ _ _
  refine one_plain hw26 [0, 1, 2] (by rfl) ?_
  refine lv (.int .i64 8) (h := ?_)
  refine L_val (.int .i64 9) (by rfl) (by rfl) (gives_add (k := .i64) 8 1 9 (by rfl) (by rfl) (by rfl)) ?_
  refine lv (.int .i64 9) (h := ?_)
  refine L_end ?_
  intro w27 hw27
  refine rounds_next ?_
  refine wp_seq ?_
  refine seq_plain hw27 [0, 1] (by rfl) ?_
  refine lv (.int .i64 9) (h := ?_)
  refine L_val (.bool true) (by rfl) (by rfl) (gives_lss (k := .i64) 9 16 true (by rfl) (by rfl) (by rfl)) ?_
  refine L_end ?_
  intro w28 hw28
  refine wp_cond_true (fr_at _ _ (by rfl) _) ?_
  refine wp_skip ?_
  change Code.wp _ _ _ _ _
  refine wp_seq ?_
  refine wp_block ?_
  refine one_flow (by kernel_rfl) hw28 [8] [(g3, 183, (joinA [(cp2 (0 : J3 F2)), (cp2 (J3.few p 1)), (cp2 (J3.few p 2)), (cp2 (J3.few p 3)), (cp2 (J3.few p 4)), (cp2 (J3.few p 5)), (cp2 (J3.few p 6)), (cp2 (J3.few p 7)), (cp2 (J3.few p 8)), (cp2 (0 : J3 F2)), (cp2 (0 : J3 F2)), (cp2 (0 : J3 F2)), (cp2 (0 : J3 F2)), (cp2 (0 : J3 F2)), (cp2 (0 : J3 F2)), (cp2 (0 : J3 F2))])), (g2, 131, (cp2 (0 : J3 F2))), (g1, 131, (cp2 (p)))] 9 (by rfl) ?_
  refine fV (i := 0) (u := (.int .i64 9)) (h := ?_)
  refine fV (i := 1) (u := (.int .i64 9)) (h := ?_)
  refine fT (i := 2) (u := (.int .i64 8)) (g := (gives_sub (k := .i64) 9 1 8 (by rfl) (by rfl) (by rfl))) (h := ?_)
  refine fT (i := 3) (u := (.pointer (some ⟨g3, 288, none⟩))) (g := gk) (h := ?_)
  refine fT (i := 4) (g := (gives_load g3 288 183 (joinA [(cp2 (0 : J3 F2)), (cp2 (J3.few p 1)), (cp2 (J3.few p 2)), (cp2 (J3.few p 3)), (cp2 (J3.few p 4)), (cp2 (J3.few p 5)), (cp2 (J3.few p 6)), (cp2 (J3.few p 7)), (cp2 (J3.few p 8)), (cp2 (0 : J3 F2)), (cp2 (0 : J3 F2)), (cp2 (0 : J3 F2)), (cp2 (0 : J3 F2)), (cp2 (0 : J3 F2)), (cp2 (0 : J3 F2)), (cp2 (0 : J3 F2))]) (cp2 (J3.few p 8)) _ (by rfl) (fun _ h => h.blk 0 (by rfl)) (sl_joinC 36 _ (by simp [cp2_size]) 8 _ (by rfl) _ (by rfl)) Tryd.underlying131 (by rfl) (hi_p2 _))) (h := ?_)
  refine fT (i := 5) (g := (gL g1 131 (cp2 (p)) 2 Tryd.underlying131 (hi_p2 _))) (h := ?_)
  refine fT (i := 6) (g := (gives_call (vl := [.agg (cp2 (J3.few p 8)), .agg (cp2 (p))]) (by kernel_rfl) (by rfl) (fun w h => k2_add _ _ w (hG.keep h.below)))) (h := ?_)
  refine fT (i := 7) (u := (.pointer (some ⟨g3, 324, none⟩))) (g := gk) (h := ?_)
  refine flow_one 8 (by kernel_rfl) ?_
  refine F_storeA (t := 183) 0 g3 324 (joinA [(cp2 (0 : J3 F2)), (cp2 (J3.few p 1)), (cp2 (J3.few p 2)), (cp2 (J3.few p 3)), (cp2 (J3.few p 4)), (cp2 (J3.few p 5)), (cp2 (J3.few p 6)), (cp2 (J3.few p 7)), (cp2 (J3.few p 8)), (cp2 (0 : J3 F2)), (cp2 (0 : J3 F2)), (cp2 (0 : J3 F2)), (cp2 (0 : J3 F2)), (cp2 (0 : J3 F2)), (cp2 (0 : J3 F2)), (cp2 (0 : J3 F2))]) (cp2 (J3.few p 9)) (joinA [(cp2 (0 : J3 F2)), (cp2 (J3.few p 1)), (cp2 (J3.few p 2)), (cp2 (J3.few p 3)), (cp2 (J3.few p 4)), (cp2 (J3.few p 5)), (cp2 (J3.few p 6)), (cp2 (J3.few p 7)), (cp2 (J3.few p 8)), (cp2 (J3.few p 9)), (cp2 (0 : J3 F2)), (cp2 (0 : J3 F2)), (cp2 (0 : J3 F2)), (cp2 (0 : J3 F2)), (cp2 (0 : J3 F2)), (cp2 (0 : J3 F2))]) (by rfl) (by rfl) (by rfl) (by rfl) (by rfl) (hi_p2 _) (by rw [joinC_size 36 _ (by simp [cp2_size]), cp2_size]; simp) (cp2_one _) (spliceC' 36 _ (by simp [cp2_size]) 9 _ (cp2_size _) (by simp) _ (by rfl) _ (by rfl)) (.inl (by decide)) ?_
  simp only [List.set_cons_zero, List.set_cons_succ]
  refine flow_done (by kernel_rfl) ?_
  intro w29 hw29
  change Code.wp _ _ _ _ _
  refine one_plain hw29 [0, 1, 2] (by rfl) ?_
  refine lv (.int .i64 9) (h := ?_)
  refine L_val (.int .i64 10) (by rfl) (by rfl) (gives_add (k := .i64) 9 1 10 (by rfl) (by rfl) (by rfl)) ?_
  refine lv (.int .i64 10) (h := ?_)
  refine L_end ?_
  intro w30 hw30
  refine rounds_next ?_
  refine wp_seq ?_
  refine seq_plain hw30 [0, 1] (by rfl) ?_
  refine lv (.int .i64 10) (h := ?_)
  refine L_val (.bool true) (by rfl) (by rfl) (gives_lss (k := .i64) 10 16 true (by rfl) (by rfl) (by rfl)) ?_
  refine L_end ?_
  intro w31 hw31
  refine wp_cond_true (fr_at _ _ (by rfl) _) ?_
  refine wp_skip ?_
  change Code.wp _ _ _ _ _
  refine wp_seq ?_
  refine wp_block ?_
  refine one_flow (by kernel_rfl) hw31 [8] [(g3, 183, (joinA [(cp2 (0 : J3 F2)), (cp2 (J3.few p 1)), (cp2 (J3.few p 2)), (cp2 (J3.few p 3)), (cp2 (J3.few p 4)), (cp2 (J3.few p 5)), (cp2 (J3.few p 6)), (cp2 (J3.few p 7)), (cp2 (J3.few p 8)), (cp2 (J3.few p 9)), (cp2 (0 : J3 F2)), (cp2 (0 : J3 F2)), (cp2 (0 : J3 F2)), (cp2 (0 : J3 F2)), (cp2 (0 : J3 F2)), (cp2 (0 : J3 F2))])), (g2, 131, (cp2 (0 : J3 F2))), (g1, 131, (cp2 (p)))] 9 (by rfl) ?_
  refine fV (i := 0) (u := (.int .i64 10)) (h := ?_)
  refine fV (i := 1) (u := (.int .i64 10)) (h := ?_)
  refine fT (i := 2) (u := (.int .i64 9)) (g := (gives_sub (k := .i64) 10 1 9 (by rfl) (by rfl) (by rfl))) (h := ?_)
  refine fT (i := 3) (u := (.pointer (some ⟨g3, 324, none⟩))) (g := gk) (h := ?_)
  refine fT (i := 4) (g := (gives_load g3 324 183 (joinA [(cp2 (0 : J3 F2)), (cp2 (J3.few p 1)), (cp2 (J3.few p 2)), (cp2 (J3.few p 3)), (cp2 (J3.few p 4)), (cp2 (J3.few p 5)), (cp2 (J3.few p 6)), (cp2 (J3.few p 7)), (cp2 (J3.few p 8)), (cp2 (J3.few p 9)), (cp2 (0 : J3 F2)), (cp2 (0 : J3 F2)), (cp2 (0 : J3 F2)), (cp2 (0 : J3 F2)), (cp2 (0 : J3 F2)), (cp2 (0 : J3 F2))]) (cp2 (J3.few p 9)) _ (by rfl) (fun _ h => h.blk 0 (by rfl)) (sl_joinC 36 _ (by simp [cp2_size]) 9 _ (by rfl) _ (by rfl)) Tryd.underlying131 (by rfl) (hi_p2 _))) (h := ?_)
  refine fT (i := 5) (g := (gL g1 131 (cp2 (p)) 2 Tryd.underlying131 (hi_p2 _))) (h := ?_)
  refine fT (i := 6) (g := (gives_call (vl := [.agg (cp2 (J3.few p 9)), .agg (cp2 (p))]) (by kernel_rfl) (by rfl) (fun w h => k2_add _ _ w (hG.keep h.below)))) (h := ?_)
  refine fT (i := 7) (u := (.pointer (some ⟨g3, 360, none⟩))) (g := gk) (h := ?_)
  refine flow_one 8 (by kernel_rfl) ?_
  refine F_storeA (t := 183) 0 g3 360 (joinA [(cp2 (0 : J3 F2)), (cp2 (J3.few p 1)), (cp2 (J3.few p 2)), (cp2 (J3.few p 3)), (cp2 (J3.few p 4)), (cp2 (J3.few p 5)), (cp2 (J3.few p 6)), (cp2 (J3.few p 7)), (cp2 (J3.few p 8)), (cp2 (J3.few p 9)), (cp2 (0 : J3 F2)), (cp2 (0 : J3 F2)), (cp2 (0 : J3 F2)), (cp2 (0 : J3 F2)), (cp2 (0 : J3 F2)), (cp2 (0 : J3 F2))]) (cp2 (J3.few p 10)) (joinA [(cp2 (0 : J3 F2)), (cp2 (J3.few p 1)), (cp2 (J3.few p 2)), (cp2 (J3.few p 3)), (cp2 (J3.few p 4)), (cp2 (J3.few p 5)), (cp2 (J3.few p 6)), (cp2 (J3.few p 7)), (cp2 (J3.few p 8)), (cp2 (J3.few p 9)), (cp2 (J3.few p 10)), (cp2 (0 : J3 F2)), (cp2 (0 : J3 F2)), (cp2 (0 : J3 F2)), (cp2 (0 : J3 F2)), (cp2 (0 : J3 F2))]) (by rfl) (by rfl) (by rfl) (by rfl) (by rfl) (hi_p2 _) (by rw [joinC_size 36 _ (by simp [cp2_size]), cp2_size]; simp) (cp2_one _) (spliceC' 36 _ (by simp [cp2_size]) 10 _ (cp2_size _) (by simp) _ (by rfl) _ (by rfl)) (.inl (by decide)) ?_
  simp only [List.set_cons_zero, List.set_cons_succ]
  refine flow_done (by kernel_rfl) ?_
  intro w32 hw32
  change Code.wp _ _ _ _ _
  refine one_plain hw32 [0, 1, 2] (by rfl) ?_
  refine lv (.int .i64 10) (h := ?_)
  refine L_val (.int .i64 11) (by rfl) (by rfl) (gives_add (k := .i64) 10 1 11 (by rfl) (by rfl) (by rfl)) ?_
  refine lv (.int .i64 11) (h := ?_)
  refine L_end ?_
  intro w33 hw33
  refine rounds_next ?_
  refine wp_seq ?_
  refine seq_plain hw33 [0, 1] (by rfl) ?_
  refine lv (.int .i64 11) (h := ?_)
  refine L_val (.bool true) (by rfl) (by rfl) (gives_lss (k := .i64) 11 16 true (by rfl) (by rfl) (by rfl)) ?_
  refine L_end ?_
  intro w34 hw34
  refine wp_cond_true (fr_at _ _ (by rfl) _) ?_
  refine wp_skip ?_
  change Code.wp _ _ _ _ _
  refine wp_seq ?_
  refine wp_block ?_
  refine one_flow (by kernel_rfl) hw34 [8] [(g3, 183, (joinA [(cp2 (0 : J3 F2)), (cp2 (J3.few p 1)), (cp2 (J3.few p 2)), (cp2 (J3.few p 3)), (cp2 (J3.few p 4)), (cp2 (J3.few p 5)), (cp2 (J3.few p 6)), (cp2 (J3.few p 7)), (cp2 (J3.few p 8)), (cp2 (J3.few p 9)), (cp2 (J3.few p 10)), (cp2 (0 : J3 F2)), (cp2 (0 : J3 F2)), (cp2 (0 : J3 F2)), (cp2 (0 : J3 F2)), (cp2 (0 : J3 F2))])), (g2, 131, (cp2 (0 : J3 F2))), (g1, 131, (cp2 (p)))] 9 (by rfl) ?_
  refine fV (i := 0) (u := (.int .i64 11)) (h := ?_)
  refine fV (i := 1) (u := (.int .i64 11)) (h := ?_)
  refine fT (i := 2) (u := (.int .i64 10)) (g := (gives_sub (k := .i64) 11 1 10 (by rfl) (by rfl) (by rfl))) (h := ?_)
  refine fT (i := 3) (u := (.pointer (some ⟨g3, 360, none⟩))) (g := gk) (h := ?_)
  refine fT (i := 4) (g := (gives_load g3 360 183 (joinA [(cp2 (0 : J3 F2)), (cp2 (J3.few p 1)), (cp2 (J3.few p 2)), (cp2 (J3.few p 3)), (cp2 (J3.few p 4)), (cp2 (J3.few p 5)), (cp2 (J3.few p 6)), (cp2 (J3.few p 7)), (cp2 (J3.few p 8)), (cp2 (J3.few p 9)), (cp2 (J3.few p 10)), (cp2 (0 : J3 F2)), (cp2 (0 : J3 F2)), (cp2 (0 : J3 F2)), (cp2 (0 : J3 F2)), (cp2 (0 : J3 F2))]) (cp2 (J3.few p 10)) _ (by rfl) (fun _ h => h.blk 0 (by rfl)) (sl_joinC 36 _ (by simp [cp2_size]) 10 _ (by rfl) _ (by rfl)) Tryd.underlying131 (by rfl) (hi_p2 _))) (h := ?_)
  refine fT (i := 5) (g := (gL g1 131 (cp2 (p)) 2 Tryd.underlying131 (hi_p2 _))) (h := ?_)
  refine fT (i := 6) (g := (gives_call (vl := [.agg (cp2 (J3.few p 10)), .agg (cp2 (p))]) (by kernel_rfl) (by rfl) (fun w h => k2_add _ _ w (hG.keep h.below)))) (h := ?_)
  refine fT (i := 7) (u := (.pointer (some ⟨g3, 396, none⟩))) (g := gk) (h := ?_)
  refine flow_one 8 (by kernel_rfl) ?_
  refine F_storeA (t := 183) 0 g3 396 (joinA [(cp2 (0 : J3 F2)), (cp2 (J3.few p 1)), (cp2 (J3.few p 2)), (cp2 (J3.few p 3)), (cp2 (J3.few p 4)), (cp2 (J3.few p 5)), (cp2 (J3.few p 6)), (cp2 (J3.few p 7)), (cp2 (J3.few p 8)), (cp2 (J3.few p 9)), (cp2 (J3.few p 10)), (cp2 (0 : J3 F2)), (cp2 (0 : J3 F2)), (cp2 (0 : J3 F2)), (cp2 (0 : J3 F2)), (cp2 (0 : J3 F2))]) (cp2 (J3.few p 11)) (joinA [(cp2 (0 : J3 F2)), (cp2 (J3.few p 1)), (cp2 (J3.few p 2)), (cp2 (J3.few p 3)), (cp2 (J3.few p 4)), (cp2 (J3.few p 5)), (cp2 (J3.few p 6)), (cp2 (J3.few p 7)), (cp2 (J3.few p 8)), (cp2 (J3.few p 9)), (cp2 (J3.few p 10)), (cp2 (J3.few p 11)), (cp2 (0 : J3 F2)), (cp2 (0 : J3 F2)), (cp2 (0 : J3 F2)), (cp2 (0 : J3 F2))]) (by rfl) (by rfl) (by rfl) (by rfl) (by rfl) (hi_p2 _) (by rw [joinC_size 36 _ (by simp [cp2_size]), cp2_size]; simp) (cp2_one _) (spliceC' 36 _ (by simp [cp2_size]) 11 _ (cp2_size _) (by simp) _ (by rfl) _ (by rfl)) (.inl (by decide)) ?_
  simp only [List.set_cons_zero, List.set_cons_succ]
  refine flow_done (by kernel_rfl) ?_
  intro w35 hw35
  change Code.wp _ _ _ _ _
  refine one_plain hw35 [0, 1, 2] (by rfl) ?_
  refine lv (.int .i64 11) (h := ?_)
  refine L_val (.int .i64 12) (by rfl) (by rfl) (gives_add (k := .i64) 11 1 12 (by rfl) (by rfl) (by rfl)) ?_
  refine lv (.int .i64 12) (h := ?_)
  refine L_end ?_
  intro w36 hw36
  refine rounds_next ?_
  refine wp_seq ?_
  refine seq_plain hw36 [0, 1] (by rfl) ?_
  refine lv (.int .i64 12) (h := ?_)
  refine L_val (.bool true) (by rfl) (by rfl) (gives_lss (k := .i64) 12 16 true (by rfl) (by rfl) (by rfl)) ?_
  refine L_end ?_
  intro w37 hw37
  refine wp_cond_true (fr_at _ _ (by rfl) _) ?_
  refine wp_skip ?_
  change Code.wp _ _ _ _ _
  refine wp_seq ?_
  refine wp_block ?_
  refine one_flow (by kernel_rfl) hw37 [8] [(g3, 183, (joinA [(cp2 (0 : J3 F2)), (cp2 (J3.few p 1)), (cp2 (J3.few p 2)), (cp2 (J3.few p 3)), (cp2 (J3.few p 4)), (cp2 (J3.few p 5)), (cp2 (J3.few p 6)), (cp2 (J3.few p 7)), (cp2 (J3.few p 8)), (cp2 (J3.few p 9)), (cp2 (J3.few p 10)), (cp2 (J3.few p 11)), (cp2 (0 : J3 F2)), (cp2 (0 : J3 F2)), (cp2 (0 : J3 F2)), (cp2 (0 : J3 F2))])), (g2, 131, (cp2 (0 : J3 F2))), (g1, 131, (cp2 (p)))] 9 (by rfl) ?_
  refine fV (i := 0) (u := (.int .i64 12)) (h := ?_)
  refine fV (i := 1) (u := (.int .i64 12)) (h := ?_)
  refine fT (i := 2) (u := (.int .i64 11)) (g := (gives_sub (k := .i64) 12 1 11 (by rfl) (by rfl) (by rfl))) (h := ?_)
  refine fT (i := 3) (u := (.pointer (some ⟨g3, 396, none⟩))) (g := gk) (h := ?_)
  refine fT (i := 4) (g := (gives_load g3 396 183 (joinA [(cp2 (0 : J3 F2)), (cp2 (J3.few p 1)), (cp2 (J3.few p 2)), (cp2 (J3.few p 3)), (cp2 (J3.few p 4)), (cp2 (J3.few p 5)), (cp2 (J3.few p 6)), (cp2 (J3.few p 7)), (cp2 (J3.few p 8)), (cp2 (J3.few p 9)), (cp2 (J3.few p 10)), (cp2 (J3.few p 11)), (cp2 (0 : J3 F2)), (cp2 (0 : J3 F2)), (cp2 (0 : J3 F2)), (cp2 (0 : J3 F2))]) (cp2 (J3.few p 11)) _ (by rfl) (fun _ h => h.blk 0 (by rfl)) (sl_joinC 36 _ (by simp [cp2_size]) 11 _ (by rfl) _ (by rfl)) Tryd.underlying131 (by rfl) (hi_p2 _))) (h := ?_)
  refine fT (i := 5) (g := (gL g1 131 (cp2 (p)) 2 Tryd.underlying131 (hi_p2 _))) (h := ?_)
  refine fT (i := 6) (g := (gives_call (vl := [.agg (cp2 (J3.few p 11)), .agg (cp2 (p))]) (by kernel_rfl) (by rfl) (fun w h => k2_add _ _ w (hG.keep h.below)))) (h := ?_)
  refine fT (i := 7) (u := (.pointer (some ⟨g3, 432, none⟩))) (g := gk) (h := ?_)
  refine flow_one 8 (by kernel_rfl) ?_
  refine F_storeA (t := 183) 0 g3 432 (joinA [(cp2 (0 : J3 F2)), (cp2 (J3.few p 1)), (cp2 (J3.few p 2)), (cp2 (J3.few p 3)), (cp2 (J3.few p 4)), (cp2 (J3.few p 5)), (cp2 (J3.few p 6)), (cp2 (J3.few p 7)), (cp2 (J3.few p 8)), (cp2 (J3.few p 9)), (cp2 (J3.few p 10)), (cp2 (J3.few p 11)), (cp2 (0 : J3 F2)), (cp2 (0 : J3 F2)), (cp2 (0 : J3 F2)), (cp2 (0 : J3 F2))]) (cp2 (J3.few p 12)) (joinA [(cp2 (0 : J3 F2)), (cp2 (J3.few p 1)), (cp2 (J3.few p 2)), (cp2 (J3.few p 3)), (cp2 (J3.few p 4)), (cp2 (J3.few p 5)), (cp2 (J3.few p 6)), (cp2 (J3.few p 7)), (cp2 (J3.few p 8)), (cp2 (J3.few p 9)), (cp2 (J3.few p 10)), (cp2 (J3.few p 11)), (cp2 (J3.few p 12)), (cp2 (0 : J3 F2)), (cp2 (0 : J3 F2)), (cp2 (0 : J3 F2))]) (by rfl) (by rfl) (by rfl) (by rfl) (by rfl) (hi_p2 _) (by rw [joinC_size 36 _ (by simp [cp2_size]), cp2_size]; simp) (cp2_one _) (spliceC' 36 _ (by simp [cp2_size]) 12 _ (cp2_size _) (by simp) _ (by rfl) _ (by rfl)) (.inl (by decide)) ?_
  simp only [List.set_cons_zero, List.set_cons_succ]
  refine flow_done (by kernel_rfl) ?_
  intro w38 hw38
  change Code.wp _ _ _ _ _
  refine one_plain hw38 [0, 1, 2] (by rfl) ?_
  refine lv (.int .i64 12) (h := ?_)
  refine L_val (.int .i64 13) (by rfl) (by rfl) (gives_add (k := .i64) 12 1 13 (by rfl) (by rfl) (by rfl)) ?_
  refine lv (.int .i64 13) (h := ?_)
  refine L_end ?_
  intro w39 hw39
  refine rounds_next ?_
  refine wp_seq ?_
  refine seq_plain hw39 [0, 1] (by rfl) ?_
  refine lv (.int .i64 13) (h := ?_)
  refine L_val (.bool true) (by rfl) (by rfl) (gives_lss (k := .i64) 13 16 true (by rfl) (by rfl) (by rfl)) ?_
  refine L_end ?_
  intro w40 hw40
  refine wp_cond_true (fr_at _ _ (by rfl) _) ?_
  refine wp_skip ?_
  change Code.wp _ _ _ _ _
  refine wp_seq ?_
  refine wp_block ?_
  refine one_flow (by kernel_rfl) hw40 [8] [(g3, 183, (joinA [(cp2 (0 : J3 F2)), (cp2 (J3.few p 1)), (cp2 (J3.few p 2)), (cp2 (J3.few p 3)), (cp2 (J3.few p 4)), (cp2 (J3.few p 5)), (cp2 (J3.few p 6)), (cp2 (J3.few p 7)), (cp2 (J3.few p 8)), (cp2 (J3.few p 9)), (cp2 (J3.few p 10)), (cp2 (J3.few p 11)), (cp2 (J3.few p 12)), (cp2 (0 : J3 F2)), (cp2 (0 : J3 F2)), (cp2 (0 : J3 F2))])), (g2, 131, (cp2 (0 : J3 F2))), (g1, 131, (cp2 (p)))] 9 (by rfl) ?_
  refine fV (i := 0) (u := (.int .i64 13)) (h := ?_)
  refine fV (i := 1) (u := (.int .i64 13)) (h := ?_)
  refine fT (i := 2) (u := (.int .i64 12)) (g := (gives_sub (k := .i64) 13 1 12 (by rfl) (by rfl) (by rfl))) (h := ?_)
  refine fT (i := 3) (u := (.pointer (some ⟨g3, 432, none⟩))) (g := gk) (h := ?_)
  refine fT (i := 4) (g := (gives_load g3 432 183 (joinA [(cp2 (0 : J3 F2)), (cp2 (J3.few p 1)), (cp2 (J3.few p 2)), (cp2 (J3.few p 3)), (cp2 (J3.few p 4)), (cp2 (J3.few p 5)), (cp2 (J3.few p 6)), (cp2 (J3.few p 7)), (cp2 (J3.few p 8)), (cp2 (J3.few p 9)), (cp2 (J3.few p 10)), (cp2 (J3.few p 11)), (cp2 (J3.few p 12)), (cp2 (0 : J3 F2)), (cp2 (0 : J3 F2)), (cp2 (0 : J3 F2))]) (cp2 (J3.few p 12)) _ (by rfl) (fun _ h => h.blk 0 (by rfl)) (sl_joinC 36 _ (by simp [cp2_size]) 12 _ (by rfl) _ (by rfl)) Tryd.underlying131 (by rfl) (hi_p2 _))) (h := ?_)
  refine fT (i := 5) (g := (gL g1 131 (cp2 (p)) 2 Tryd.underlying131 (hi_p2 _))) (h := ?_)
  refine fT (i := 6) (g := (gives_call (vl := [.agg (cp2 (J3.few p 12)), .agg (cp2 (p))]) (by kernel_rfl) (by rfl) (fun w h => k2_add _ _ w (hG.keep h.below)))) (h := ?_)
  refine fT (i := 7) (u := (.pointer (some ⟨g3, 468, none⟩))) (g := gk) (h := ?_)
  refine flow_one 8 (by kernel_rfl) ?_
  refine F_storeA (t := 183) 0 g3 468 (joinA [(cp2 (0 : J3 F2)), (cp2 (J3.few p 1)), (cp2 (J3.few p 2)), (cp2 (J3.few p 3)), (cp2 (J3.few p 4)), (cp2 (J3.few p 5)), (cp2 (J3.few p 6)), (cp2 (J3.few p 7)), (cp2 (J3.few p 8)), (cp2 (J3.few p 9)), (cp2 (J3.few p 10)), (cp2 (J3.few p 11)), (cp2 (J3.few p 12)), (cp2 (0 : J3 F2)), (cp2 (0 : J3 F2)), (cp2 (0 : J3 F2))]) (cp2 (J3.few p 13)) (joinA [(cp2 (0 : J3 F2)), (cp2 (J3.few p 1)), (cp2 (J3.few p 2)), (cp2 (J3.few p 3)), (cp2 (J3.few p 4)), (cp2 (J3.few p 5)), (cp2 (J3.few p 6)), (cp2 (J3.few p 7)), (cp2 (J3.few p 8)), (cp2 (J3.few p 9)), (cp2 (J3.few p 10)), (cp2 (J3.few p 11)), (cp2 (J3.few p 12)), (cp2 (J3.few p 13)), (cp2 (0 : J3 F2)), (cp2 (0 : J3 F2))]) (by rfl) (by rfl) (by rfl) (by rfl) (by rfl) (hi_p2 _) (by rw [joinC_size 36 _ (by simp [cp2_size]), cp2_size]; simp) (cp2_one _) (spliceC' 36 _ (by simp [cp2_size]) 13 _ (cp2_size _) (by simp) _ (by rfl) _ (by rfl)) (.inl (by decide)) ?_
  simp only [List.set_cons_zero, List.set_cons_succ]
  refine flow_done (by kernel_rfl) ?_
  intro w41 hw41
  change Code.wp _ _ _ _ _
  refine one_plain hw41 [0, 1, 2] (by rfl) ?_
  refine lv (.int .i64 13) (h := ?_)
  refine L_val (.int .i64 14) (by rfl) (by rfl) (gives_add (k := .i64) 13 1 14 (by rfl) (by rfl) (by rfl)) ?_
  refine lv (.int .i64 14) (h := ?_)
  refine L_end ?_
  intro w42 hw42
  refine rounds_next ?_
  refine wp_seq ?_
  refine seq_plain hw42 [0, 1] (by rfl) ?_
  refine lv (.int .i64 14) (h := ?_)
  refine L_val (.bool true) (by rfl) (by rfl) (gives_lss (k := .i64) 14 16 true (by rfl) (by rfl) (by rfl)) ?_
  refine L_end ?_
  intro w43 hw43
  refine wp_cond_true (fr_at _ _ (by rfl) _) ?_
  refine wp_skip ?_
  change Code.wp _ _ _ _ _
  refine wp_seq ?_
  refine wp_block ?_
  refine one_flow (by kernel_rfl) hw43 [8] [(g3, 183, (joinA [(cp2 (0 : J3 F2)), (cp2 (J3.few p 1)), (cp2 (J3.few p 2)), (cp2 (J3.few p 3)), (cp2 (J3.few p 4)), (cp2 (J3.few p 5)), (cp2 (J3.few p 6)), (cp2 (J3.few p 7)), (cp2 (J3.few p 8)), (cp2 (J3.few p 9)), (cp2 (J3.few p 10)), (cp2 (J3.few p 11)), (cp2 (J3.few p 12)), (cp2 (J3.few p 13)), (cp2 (0 : J3 F2)), (cp2 (0 : J3 F2))])), (g2, 131, (cp2 (0 : J3 F2))), (g1, 131, (cp2 (p)))] 9 (by rfl) ?_
  refine fV (i := 0) (u := (.int .i64 14)) (h := ?_)
  refine fV (i := 1) (u := (.int .i64 14)) (h := ?_)
  refine fT (i := 2) (u := (.int .i64 13)) (g := (gives_sub (k := .i64) 14 1 13 (by rfl) (by rfl) (by rfl))) (h := ?_)
  refine fT (i := 3) (u := (.pointer (some ⟨g3, 468, none⟩))) (g := gk) (h := ?_)
  refine fT (i := 4) (g := (gives_load g3 468 183 (joinA [(cp2 (0 : J3 F2)), (cp2 (J3.few p 1)), (cp2 (J3.few p 2)), (cp2 (J3.few p 3)), (cp2 (J3.few p 4)), (cp2 (J3.few p 5)), (cp2 (J3.few p 6)), (cp2 (J3.few p 7)), (cp2 (J3.few p 8)), (cp2 (J3.few p 9)), (cp2 (J3.few p 10)), (cp2 (J3.few p 11)), (cp2 (J3.few p 12)), (cp2 (J3.few p 13)), (cp2 (0 : J3 F2)), (cp2 (0 : J3 F2))]) (cp2 (J3.few p 13)) _ (by rfl) (fun _ h => h.blk 0 (by rfl)) (sl_joinC 36 _ (by simp [cp2_size]) 13 _ (by rfl) _ (by rfl)) Tryd.underlying131 (by rfl) (hi_p2 _))) (h := ?_)
  refine fT (i := 5) (g := (gL g1 131 (cp2 (p)) 2 Tryd.underlying131 (hi_p2 _))) (h := ?_)
  refine fT (i := 6) (g := (gives_call (vl := [.agg (cp2 (J3.few p 13)), .agg (cp2 (p))]) (by kernel_rfl) (by rfl) (fun w h => k2_add _ _ w (hG.keep h.below)))) (h := ?_)
  refine fT (i := 7) (u := (.pointer (some ⟨g3, 504, none⟩))) (g := gk) (h := ?_)
  refine flow_one 8 (by kernel_rfl) ?_
  refine F_storeA (t := 183) 0 g3 504 (joinA [(cp2 (0 : J3 F2)), (cp2 (J3.few p 1)), (cp2 (J3.few p 2)), (cp2 (J3.few p 3)), (cp2 (J3.few p 4)), (cp2 (J3.few p 5)), (cp2 (J3.few p 6)), (cp2 (J3.few p 7)), (cp2 (J3.few p 8)), (cp2 (J3.few p 9)), (cp2 (J3.few p 10)), (cp2 (J3.few p 11)), (cp2 (J3.few p 12)), (cp2 (J3.few p 13)), (cp2 (0 : J3 F2)), (cp2 (0 : J3 F2))]) (cp2 (J3.few p 14)) (joinA [(cp2 (0 : J3 F2)), (cp2 (J3.few p 1)), (cp2 (J3.few p 2)), (cp2 (J3.few p 3)), (cp2 (J3.few p 4)), (cp2 (J3.few p 5)), (cp2 (J3.few p 6)), (cp2 (J3.few p 7)), (cp2 (J3.few p 8)), (cp2 (J3.few p 9)), (cp2 (J3.few p 10)), (cp2 (J3.few p 11)), (cp2 (J3.few p 12)), (cp2 (J3.few p 13)), (cp2 (J3.few p 14)), (cp2 (0 : J3 F2))]) (by rfl) (by rfl) (by rfl) (by rfl) (by rfl) (hi_p2 _) (by rw [joinC_size 36 _ (by simp [cp2_size]), cp2_size]; simp) (cp2_one _) (spliceC' 36 _ (by simp [cp2_size]) 14 _ (cp2_size _) (by simp) _ (by rfl) _ (by rfl)) (.inl (by decide)) ?_
  simp only [List.set_cons_zero, List.set_cons_succ]
  refine flow_done (by kernel_rfl) ?_
  intro w44 hw44
  change Code.wp _ _ _ _ _
  refine one_plain hw44 [0, 1, 2] (by rfl) ?_
  refine lv (.int .i64 14) (h := ?_)
  refine L_val (.int .i64 15) (by rfl) (by rfl) (gives_add (k := .i64) 14 1 15 (by rfl) (by rfl) (by rfl)) ?_
  refine lv (.int .i64 15) (h := ?_)
  refine L_end ?_
  intro w45 hw45
  refine rounds_next ?_
  refine wp_seq ?_
  refine seq_plain hw45 [0, 1] (by rfl) ?_
  refine lv (.int .i64 15) (h := ?_)
  refine L_val (.bool true) (by rfl) (by rfl) (gives_lss (k := .i64) 15 16 true (by rfl) (by rfl) (by rfl)) ?_
  refine L_end ?_
  intro w46 hw46
  refine wp_cond_true (fr_at _ _ (by rfl) _) ?_
  refine wp_skip ?_
  change Code.wp _ _ _ _ _
  refine wp_seq ?_
  refine wp_block ?_
  refine one_flow (by kernel_rfl) hw46 [8] [(g3, 183, (joinA [(cp2 (0 : J3 F2)), (cp2 (J3.few p 1)), (cp2 (J3.few p 2)), (cp2 (J3.few p 3)), (cp2 (J3.few p 4)), (cp2 (J3.few p 5)), (cp2 (J3.few p 6)), (cp2 (J3.few p 7)), (cp2 (J3.few p 8)), (cp2 (J3.few p 9)), (cp2 (J3.few p 10)), (cp2 (J3.few p 11)), (cp2 (J3.few p 12)), (cp2 (J3.few p 13)), (cp2 (J3.few p 14)), (cp2 (0 : J3 F2))])), (g2, 131, (cp2 (0 : J3 F2))), (g1, 131, (cp2 (p)))] 9 (by rfl) ?_
  refine fV (i := 0) (u := (.int .i64 15)) (h := ?_)
  refine fV (i := 1) (u := (.int .i64 15)) (h := ?_)
  refine fT (i := 2) (u := (.int .i64 14)) (g := (gives_sub (k := .i64) 15 1 14 (by rfl) (by rfl) (by rfl))) (h := ?_)
  refine fT (i := 3) (u := (.pointer (some ⟨g3, 504, none⟩))) (g := gk) (h := ?_)
  refine fT (i := 4) (g := (gives_load g3 504 183 (joinA [(cp2 (0 : J3 F2)), (cp2 (J3.few p 1)), (cp2 (J3.few p 2)), (cp2 (J3.few p 3)), (cp2 (J3.few p 4)), (cp2 (J3.few p 5)), (cp2 (J3.few p 6)), (cp2 (J3.few p 7)), (cp2 (J3.few p 8)), (cp2 (J3.few p 9)), (cp2 (J3.few p 10)), (cp2 (J3.few p 11)), (cp2 (J3.few p 12)), (cp2 (J3.few p 13)), (cp2 (J3.few p 14)), (cp2 (0 : J3 F2))]) (cp2 (J3.few p 14)) _ (by rfl) (fun _ h => h.blk 0 (by rfl)) (sl_joinC 36 _ (by simp [cp2_size]) 14 _ (by rfl) _ (by rfl)) Tryd.underlying131 (by rfl) (hi_p2 _))) (h := ?_)
  refine fT (i := 5) (g := (gL g1 131 (cp2 (p)) 2 Tryd.underlying131 (hi_p2 _))) (h := ?_)
  refine fT (i := 6) (g := (gives_call (vl := [.agg (cp2 (J3.few p 14)), .agg (cp2 (p))]) (by kernel_rfl) (by rfl) (fun w h => k2_add _ _ w (hG.keep h.below)))) (h := ?_)
  refine fT (i := 7) (u := (.pointer (some ⟨g3, 540, none⟩))) (g := gk) (h := ?_)
  refine flow_one 8 (by kernel_rfl) ?_
  refine F_storeA (t := 183) 0 g3 540 (joinA [(cp2 (0 : J3 F2)), (cp2 (J3.few p 1)), (cp2 (J3.few p 2)), (cp2 (J3.few p 3)), (cp2 (J3.few p 4)), (cp2 (J3.few p 5)), (cp2 (J3.few p 6)), (cp2 (J3.few p 7)), (cp2 (J3.few p 8)), (cp2 (J3.few p 9)), (cp2 (J3.few p 10)), (cp2 (J3.few p 11)), (cp2 (J3.few p 12)), (cp2 (J3.few p 13)), (cp2 (J3.few p 14)), (cp2 (0 : J3 F2))]) (cp2 (J3.few p 15)) (joinA [(cp2 (0 : J3 F2)), (cp2 (J3.few p 1)), (cp2 (J3.few p 2)), (cp2 (J3.few p 3)), (cp2 (J3.few p 4)), (cp2 (J3.few p 5)), (cp2 (J3.few p 6)), (cp2 (J3.few p 7)), (cp2 (J3.few p 8)), (cp2 (J3.few p 9)), (cp2 (J3.few p 10)), (cp2 (J3.few p 11)), (cp2 (J3.few p 12)), (cp2 (J3.few p 13)), (cp2 (J3.few p 14)), (cp2 (J3.few p 15))]) (by rfl) (by rfl) (by rfl) (by rfl) (by rfl) (hi_p2 _) (by rw [joinC_size 36 _ (by simp [cp2_size]), cp2_size]; simp) (cp2_one _) (spliceC' 36 _ (by simp [cp2_size]) 15 _ (cp2_size _) (by simp) _ (by rfl) _ (by rfl)) (.inl (by decide)) ?_
  simp only [List.set_cons_zero, List.set_cons_succ]
  refine flow_done (by kernel_rfl) ?_
  intro w47 hw47
  change Code.wp _ _ _ _ _
  refine one_plain hw47 [0, 1, 2] (by rfl) ?_
  refine lv (.int .i64 15) (h := ?_)
  refine L_val (.int .i64 16) (by rfl) (by rfl) (gives_add (k := .i64) 15 1 16 (by rfl) (by rfl) (by rfl)) ?_
  refine lv (.int .i64 16) (h := ?_)
  refine L_end ?_
  intro w48 hw48
  refine rounds_next ?_
  refine wp_seq ?_
  refine seq_plain hw48 [0, 1] (by rfl) ?_
  refine lv (.int .i64 16) (h := ?_)
  refine L_val (.bool false) (by rfl) (by rfl) (gives_lss (k := .i64) 16 16 false (by rfl) (by rfl) (by rfl)) ?_
  refine L_end ?_
  intro w49 hw49
  refine wp_cond_false (fr_at _ _ (by rfl) _) ?_
  refine wp_exit ?_
  change Code.wp _ _ _ _ _
  change Code.wp _ _ _ _ _
  refine seq_plain hw49 [0] (by rfl) ?_
  refine L_alloc _ (by rfl) (by rfl) z_p2 (cp2 (0 : J3 F2)) rfl ?_; intro g4
  refine L_end ?_
  intro w50 hw50
  refine wp_seq ?_
  refine seq_plain hw50 [0, 1, 2] (by rfl) ?_
  refine lv (.slice A0 n0 c0) (h := ?_)
  refine L_val (.int .i64 (n0 : Int)) (by rfl) (by rfl) (gives_len _ n0 c0 und_u8s (by rfl)) ?_
  refine lv (.int .i64 0) (h := ?_)
  refine L_end ?_
  intro w51 hw51
  refine wp_block ?_
  refine loop_down (fun (r_ : Nat) a w => ∃ (k : Nat) (l_1 : List (Nat × Value)), n0 - k = r_ ∧ inFr 44 l_1 = true ∧ a = fr 44 ((2, .pointer (some ⟨g1, 0, none⟩)) :: (4, .pointer (some ⟨g2, 0, none⟩)) :: (5, .pointer (some ⟨g3, 0, none⟩)) :: (7, .pointer (some ⟨g4, 0, none⟩)) :: (22, .slice A0 n0 c0) :: (23, .int .i64 (n0 : Int)) :: (24, .int .i64 (k : Int)) :: l_1) ∧ (k ≤ n0) ∧ Hbl v [(g4, 131, (cp2 (tsum p (bs0.take (k))))), (g3, 183, (joinA [(cp2 (0 : J3 F2)), (cp2 (J3.few p 1)), (cp2 (J3.few p 2)), (cp2 (J3.few p 3)), (cp2 (J3.few p 4)), (cp2 (J3.few p 5)), (cp2 (J3.few p 6)), (cp2 (J3.few p 7)), (cp2 (J3.few p 8)), (cp2 (J3.few p 9)), (cp2 (J3.few p 10)), (cp2 (J3.few p 11)), (cp2 (J3.few p 12)), (cp2 (J3.few p 13)), (cp2 (J3.few p 14)), (cp2 (J3.few p 15))])), (g2, 131, (cp2 (0 : J3 F2))), (g1, 131, (cp2 (p)))] w) ?_ _ _ _ ⟨0, [(24, .int .i64 0), (23, .int .i64 (n0 : Int)), (22, .slice A0 n0 c0), (7, .pointer (some ⟨g4, 0, none⟩)), (11, .bool false), (10, .int .i64 16), (6, .int .i64 16), (13, .int .i64 16), (12, .int .i64 15), (21, .pointer (some ⟨g3, 540, none⟩)), (20, .agg (cp2 (J3.few p 15))), (19, .agg (cp2 (p))), (18, .agg (cp2 (J3.few p 14))), (17, .pointer (some ⟨g3, 504, none⟩)), (16, .int .i64 14), (15, .int .i64 15), (14, .int .i64 15), (11, .bool true), (10, .int .i64 15), (6, .int .i64 15), (13, .int .i64 15), (12, .int .i64 14), (21, .pointer (some ⟨g3, 504, none⟩)), (20, .agg (cp2 (J3.few p 14))), (19, .agg (cp2 (p))), (18, .agg (cp2 (J3.few p 13))), (17, .pointer (some ⟨g3, 468, none⟩)), (16, .int .i64 13), (15, .int .i64 14), (14, .int .i64 14), (11, .bool true), (10, .int .i64 14), (6, .int .i64 14), (13, .int .i64 14), (12, .int .i64 13), (21, .pointer (some ⟨g3, 468, none⟩)), (20, .agg (cp2 (J3.few p 13))), (19, .agg (cp2 (p))), (18, .agg (cp2 (J3.few p 12))), (17, .pointer (some ⟨g3, 432, none⟩)), (16, .int .i64 12), (15, .int .i64 13), (14, .int .i64 13), (11, .bool true), (10, .int .i64 13), (6, .int .i64 13), (13, .int .i64 13), (12, .int .i64 12), (21, .pointer (some ⟨g3, 432, none⟩)), (20, .agg (cp2 (J3.few p 12))), (19, .agg (cp2 (p))), (18, .agg (cp2 (J3.few p 11))), (17, .pointer (some ⟨g3, 396, none⟩)), (16, .int .i64 11), (15, .int .i64 12), (14, .int .i64 12), (11, .bool true), (10, .int .i64 12), (6, .int .i64 12), (13, .int .i64 12), (12, .int .i64 11), (21, .pointer (some ⟨g3, 396, none⟩)), (20, .agg (cp2 (J3.few p 11))), (19, .agg (cp2 (p))), (18, .agg (cp2 (J3.few p 10))), (17, .pointer (some ⟨g3, 360, none⟩)), (16, .int .i64 10), (15, .int .i64 11), (14, .int .i64 11), (11, .bool true), (10, .int .i64 11), (6, .int .i64 11), (13, .int .i64 11), (12, .int .i64 10), (21, .pointer (some ⟨g3, 360, none⟩)), (20, .agg (cp2 (J3.few p 10))), (19, .agg (cp2 (p))), (18, .agg (cp2 (J3.few p 9))), (17, .pointer (some ⟨g3, 324, none⟩)), (16, .int .i64 9), (15, .int .i64 10), (14, .int .i64 10), (11, .bool true), (10, .int .i64 10), (6, .int .i64 10), (13, .int .i64 10), (12, .int .i64 9), (21, .pointer (some ⟨g3, 324, none⟩)), (20, .agg (cp2 (J3.few p 9))), (19, .agg (cp2 (p))), (18, .agg (cp2 (J3.few p 8))), (17, .pointer (some ⟨g3, 288, none⟩)), (16, .int .i64 8), (15, .int .i64 9), (14, .int .i64 9), (11, .bool true), (10, .int .i64 9), (6, .int .i64 9), (13, .int .i64 9), (12, .int .i64 8), (21, .pointer (some ⟨g3, 288, none⟩)), (20, .agg (cp2 (J3.few p 8))), (19, .agg (cp2 (p))), (18, .agg (cp2 (J3.few p 7))), (17, .pointer (some ⟨g3, 252, none⟩)), (16, .int .i64 7), (15, .int .i64 8), (14, .int .i64 8), (11, .bool true), (10, .int .i64 8), (6, .int .i64 8), (13, .int .i64 8), (12, .int .i64 7), (21, .pointer (some ⟨g3, 252, none⟩)), (20, .agg (cp2 (J3.few p 7))), (19, .agg (cp2 (p))), (18, .agg (cp2 (J3.few p 6))), (17, .pointer (some ⟨g3, 216, none⟩)), (16, .int .i64 6), (15, .int .i64 7), (14, .int .i64 7), (11, .bool true), (10, .int .i64 7), (6, .int .i64 7), (13, .int .i64 7), (12, .int .i64 6), (21, .pointer (some ⟨g3, 216, none⟩)), (20, .agg (cp2 (J3.few p 6))), (19, .agg (cp2 (p))), (18, .agg (cp2 (J3.few p 5))), (17, .pointer (some ⟨g3, 180, none⟩)), (16, .int .i64 5), (15, .int .i64 6), (14, .int .i64 6), (11, .bool true), (10, .int .i64 6), (6, .int .i64 6), (13, .int .i64 6), (12, .int .i64 5), (21, .pointer (some ⟨g3, 180, none⟩)), (20, .agg (cp2 (J3.few p 5))), (19, .agg (cp2 (p))), (18, .agg (cp2 (J3.few p 4))), (17, .pointer (some ⟨g3, 144, none⟩)), (16, .int .i64 4), (15, .int .i64 5), (14, .int .i64 5), (11, .bool true), (10, .int .i64 5), (6, .int .i64 5), (13, .int .i64 5), (12, .int .i64 4), (21, .pointer (some ⟨g3, 144, none⟩)), (20, .agg (cp2 (J3.few p 4))), (19, .agg (cp2 (p))), (18, .agg (cp2 (J3.few p 3))), (17, .pointer (some ⟨g3, 108, none⟩)), (16, .int .i64 3), (15, .int .i64 4), (14, .int .i64 4), (11, .bool true), (10, .int .i64 4), (6, .int .i64 4), (13, .int .i64 4), (12, .int .i64 3), (21, .pointer (some ⟨g3, 108, none⟩)), (20, .agg (cp2 (J3.few p 3))), (19, .agg (cp2 (p))), (18, .agg (cp2 (J3.few p 2))), (17, .pointer (some ⟨g3, 72, none⟩)), (16, .int .i64 2), (15, .int .i64 3), (14, .int .i64 3), (11, .bool true), (10, .int .i64 3), (6, .int .i64 3), (13, .int .i64 3), (12, .int .i64 2), (21, .pointer (some ⟨g3, 72, none⟩)), (20, .agg (cp2 (J3.few p 2))), (19, .agg (cp2 (p))), (18, .agg (cp2 (J3.few p 1))), (17, .pointer (some ⟨g3, 36, none⟩)), (16, .int .i64 1), (15, .int .i64 2), (14, .int .i64 2), (11, .bool true), (10, .int .i64 2), (6, .int .i64 2), (13, .int .i64 2), (12, .int .i64 1), (21, .pointer (some ⟨g3, 36, none⟩)), (20, .agg (cp2 (J3.few p 1))), (19, .agg (cp2 (p))), (18, .agg (cp2 (0 : J3 F2))), (17, .pointer (some ⟨g3, 0, none⟩)), (16, .int .i64 0), (15, .int .i64 1), (14, .int .i64 1), (11, .bool true), (10, .int .i64 1), (6, .int .i64 1), (5, .pointer (some ⟨g3, 0, none⟩)), (4, .pointer (some ⟨g2, 0, none⟩)), (2, .pointer (some ⟨g1, 0, none⟩)), (1, .slice A0 n0 c0), (0, .agg (cp2 (p)))], rfl, (by rfl), (Eq.trans (Eq.trans (Eq.trans (Eq.trans (Eq.trans (Eq.trans (fr_dup _ _ 24 _ (by rfl) (by rfl) (by rfl)).symm (fr_dup _ _ 23 _ (by rfl) (by rfl) (by rfl)).symm) (fr_dup _ _ 22 _ (by rfl) (by rfl) (by rfl)).symm) (fr_dup _ _ 7 _ (by rfl) (by rfl) (by rfl)).symm) (fr_dup _ _ 5 _ (by rfl) (by rfl) (by rfl)).symm) (fr_dup _ _ 4 _ (by rfl) (by rfl) (by rfl)).symm) (fr_dup _ _ 2 _ (by rfl) (by rfl) (by rfl)).symm), Nat.zero_le _, (by rw [tsum_nil]; exact hw51)⟩
  rintro r_1 a0 w0_1 ⟨k, l_1, hr_1, hl_1, rfl, hk, hw0_1⟩
  by_cases hlt : k < n0
  ·
    obtain ⟨u, hu, hu2⟩ := oct_nat ho0 k
    obtain ⟨b0, o0, hA0, hq0, hce0⟩ := reads_cell hr0 hlt
    rw [hu] at hce0
    refine seq_plain hw0_1 [0] (by rfl) ?_
    refine L_val (.bool true) (by rfl) (by exact hl_1) (gives_lss (k := .i64) ((k : Int)) ((n0 : Int)) true (by rfl) (by rfl) (decide_eq_true (by omega))) ?_
    refine L_end ?_
    intro w52 hw52
    refine wp_seq ?_
    refine wp_cond_true (fr_at _ _ (by exact hl_1) _) ?_
    refine wp_skip ?_
    change Code.wp _ _ _ _ _
    refine wp_seq ?_
    refine wp_block ?_
    refine seq_plain hw52 [0, 1, 2] (by rfl) ?_
    refine L_val (.pointer (some ⟨b0, o0 + (k), none⟩)) (by rfl) (by exact hl_1) (gives_index_old A0 n0 c0 ((k : Int)) (k) _ _ hA0 (by rfl) (by rfl) und_u8s u8_sz rfl (by omega)) ?_
    refine L_val (.int .u8 (u : Int)) (by rfl) (by exact hl_1) (gives_load_old _ (.int .u8 (u : Int)) (by rfl) (fun _ h => (h.below.cell (p := ⟨b0, _, none⟩) hq0).trans hce0) und_u8') ?_
    refine L_val (.int .u8 (u : Int)) (by rfl) (by exact hl_1) gv ?_
    refine L_end ?_
    intro w53 hw53
    refine seq_flow (by kernel_rfl) hw53 [7] [(g4, 131, (cp2 (tsum p (bs0.take (k))))), (g3, 183, (joinA [(cp2 (0 : J3 F2)), (cp2 (J3.few p 1)), (cp2 (J3.few p 2)), (cp2 (J3.few p 3)), (cp2 (J3.few p 4)), (cp2 (J3.few p 5)), (cp2 (J3.few p 6)), (cp2 (J3.few p 7)), (cp2 (J3.few p 8)), (cp2 (J3.few p 9)), (cp2 (J3.few p 10)), (cp2 (J3.few p 11)), (cp2 (J3.few p 12)), (cp2 (J3.few p 13)), (cp2 (J3.few p 14)), (cp2 (J3.few p 15))])), (g2, 131, (cp2 (0 : J3 F2))), (g1, 131, (cp2 (p)))] 8 (by rfl) ?_
    refine fT (i := 0) (hl := by exact hl_1) (g := (gL g4 131 (cp2 (tsum p (bs0.take (k)))) 0 Tryd.underlying131 (hi_p2 _))) (h := ?_)
    refine fT (i := 1) (hl := by exact hl_1) (g := (gives_call (vl := [.agg (cp2 (tsum p (bs0.take (k))))]) (by kernel_rfl) (by rfl) (fun w h => k2_sixteen _ w (hG.keep h.below)))) (h := ?_)
    refine fV (i := 2) (u := (.int .u8 (u : Int))) (hl := by exact hl_1) (h := ?_)
    refine fT (i := 3) (u := (.int .u8 ((u / 16 : Nat) : Int))) (hl := by exact hl_1) (g := (gives_shr (k := .u8) (k2 := .u64) ((u : Int)) 4 (((u / 16 : Nat) : Int)) (by rfl) (by rfl) (by omega) (shr_4 u))) (h := ?_)
    refine fT (i := 4) (u := (.pointer (some ⟨g3, (u / 16) * 36, none⟩))) (hl := by exact hl_1) (g := (gives_index_arr g3 16 36 (((u / 16 : Nat) : Int)) (u / 16) ((u / 16) * 36) (by rfl) (by rfl) Tryd.underlying183 (by kernel_rfl) rfl (by omega) rfl)) (h := ?_)
    refine fT (i := 5) (hl := by exact hl_1) (g := (gives_load g3 ((u / 16) * 36) 183 (joinA [(cp2 (0 : J3 F2)), (cp2 (J3.few p 1)), (cp2 (J3.few p 2)), (cp2 (J3.few p 3)), (cp2 (J3.few p 4)), (cp2 (J3.few p 5)), (cp2 (J3.few p 6)), (cp2 (J3.few p 7)), (cp2 (J3.few p 8)), (cp2 (J3.few p 9)), (cp2 (J3.few p 10)), (cp2 (J3.few p 11)), (cp2 (J3.few p 12)), (cp2 (J3.few p 13)), (cp2 (J3.few p 14)), (cp2 (J3.few p 15))]) (cp2 (J3.few (p) (u / 16))) _ (by rfl) (fun _ h => h.blk 1 (by rfl)) (sl_joinC 36 _ (by simp [cp2_size]) (u / 16) _ (few_at cp2 p (u / 16) (by omega)) _ rfl) Tryd.underlying131 (by rfl) (hi_p2 _))) (h := ?_)
    refine fT (i := 6) (hl := by exact hl_1) (g := (gives_call (vl := [.agg (cp2 (J3.sixteen (tsum p (bs0.take (k))))), .agg (cp2 (J3.few (p) (u / 16)))]) (by kernel_rfl) (by rfl) (fun w h => k2_add _ _ w (hG.keep h.below)))) (h := ?_)
    refine flow_one 7 (by kernel_rfl) ?_
    refine F_store (t := 131) 0 g4 _ _ (by rfl) (by exact hl_1) (by rfl) (by rfl) (by rfl) (hi_p2 _) ((cp2_size _).trans (cp2_size _).symm) (cp2_one _) (.inl (by decide)) ?_
    simp only [List.set_cons_zero, List.set_cons_succ]
    refine flow_done (by kernel_rfl) ?_
    intro w54 hw54
    refine one_flow (by kernel_rfl) hw54 [7] [(g4, 131, (cp2 (J3.add (J3.sixteen (tsum p (bs0.take (k)))) (J3.few (p) (u / 16))))), (g3, 183, (joinA [(cp2 (0 : J3 F2)), (cp2 (J3.few p 1)), (cp2 (J3.few p 2)), (cp2 (J3.few p 3)), (cp2 (J3.few p 4)), (cp2 (J3.few p 5)), (cp2 (J3.few p 6)), (cp2 (J3.few p 7)), (cp2 (J3.few p 8)), (cp2 (J3.few p 9)), (cp2 (J3.few p 10)), (cp2 (J3.few p 11)), (cp2 (J3.few p 12)), (cp2 (J3.few p 13)), (cp2 (J3.few p 14)), (cp2 (J3.few p 15))])), (g2, 131, (cp2 (0 : J3 F2))), (g1, 131, (cp2 (p)))] 8 (by rfl) ?_
    refine fT (i := 0) (hl := by exact hl_1) (g := (gL g4 131 (cp2 (J3.add (J3.sixteen (tsum p (bs0.take (k)))) (J3.few (p) (u / 16)))) 0 Tryd.underlying131 (hi_p2 _))) (h := ?_)
    refine fT (i := 1) (hl := by exact hl_1) (g := (gives_call (vl := [.agg (cp2 (J3.add (J3.sixteen (tsum p (bs0.take (k)))) (J3.few (p) (u / 16))))]) (by kernel_rfl) (by rfl) (fun w h => k2_sixteen _ w (hG.keep h.below)))) (h := ?_)
    refine fV (i := 2) (u := (.int .u8 (u : Int))) (hl := by exact hl_1) (h := ?_)
    refine fT (i := 3) (u := (.int .u8 ((u % 16 : Nat) : Int))) (hl := by exact hl_1) (g := (gives_and (k := .u8) ((u : Int)) 15 (((u % 16 : Nat) : Int)) (by rfl) (by rfl) (and_15 u hu2))) (h := ?_)
    refine fT (i := 4) (u := (.pointer (some ⟨g3, (u % 16) * 36, none⟩))) (hl := by exact hl_1) (g := (gives_index_arr g3 16 36 (((u % 16 : Nat) : Int)) (u % 16) ((u % 16) * 36) (by rfl) (by rfl) Tryd.underlying183 (by kernel_rfl) rfl (by omega) rfl)) (h := ?_)
    refine fT (i := 5) (hl := by exact hl_1) (g := (gives_load g3 ((u % 16) * 36) 183 (joinA [(cp2 (0 : J3 F2)), (cp2 (J3.few p 1)), (cp2 (J3.few p 2)), (cp2 (J3.few p 3)), (cp2 (J3.few p 4)), (cp2 (J3.few p 5)), (cp2 (J3.few p 6)), (cp2 (J3.few p 7)), (cp2 (J3.few p 8)), (cp2 (J3.few p 9)), (cp2 (J3.few p 10)), (cp2 (J3.few p 11)), (cp2 (J3.few p 12)), (cp2 (J3.few p 13)), (cp2 (J3.few p 14)), (cp2 (J3.few p 15))]) (cp2 (J3.few (p) (u % 16))) _ (by rfl) (fun _ h => h.blk 1 (by rfl)) (sl_joinC 36 _ (by simp [cp2_size]) (u % 16) _ (few_at cp2 p (u % 16) (by omega)) _ rfl) Tryd.underlying131 (by rfl) (hi_p2 _))) (h := ?_)
    refine fT (i := 6) (hl := by exact hl_1) (g := (gives_call (vl := [.agg (cp2 (J3.sixteen (J3.add (J3.sixteen (tsum p (bs0.take (k)))) (J3.few (p) (u / 16))))), .agg (cp2 (J3.few (p) (u % 16)))]) (by kernel_rfl) (by rfl) (fun w h => k2_add _ _ w (hG.keep h.below)))) (h := ?_)
    refine flow_one 7 (by kernel_rfl) ?_
    refine F_store (t := 131) 0 g4 _ _ (by rfl) (by exact hl_1) (by rfl) (by rfl) (by rfl) (hi_p2 _) ((cp2_size _).trans (cp2_size _).symm) (cp2_one _) (.inl (by decide)) ?_
    simp only [List.set_cons_zero, List.set_cons_succ]
    refine flow_done (by kernel_rfl) ?_
    intro w55 hw55
    change Code.wp _ _ _ _ _
    refine one_plain hw55 [0, 1] (by rfl) ?_
    refine L_val (.int .i64 ((k : Int) + 1)) (by rfl) (by exact hl_1) (gives_add (k := .i64) ((k : Int)) (1) ((k : Int) + 1) (by rfl) (by rfl) (IntWalk.i64_in _ (by omega))) ?_
    refine L_val (.int .i64 ((k : Int) + 1)) (by rfl) (by exact hl_1) gv ?_
    refine L_end ?_
    intro w56 hw56
    change ∃ r' : Nat, r' < r_1 ∧ _
    refine ⟨_, ?_, k + 1, ((24, .int .i64 ((k : Int) + 1)) :: (42, .int .i64 ((k : Int) + 1)) :: (41, .agg (cp2 (J3.add (J3.sixteen (J3.add (J3.sixteen (tsum p (bs0.take (k)))) (J3.few (p) (u / 16)))) (J3.few (p) (u % 16))))) :: (40, .agg (cp2 (J3.few (p) (u % 16)))) :: (39, .pointer (some ⟨g3, (u % 16) * 36, none⟩)) :: (38, .int .u8 ((u % 16 : Nat) : Int)) :: (37, .int .u8 (u : Int)) :: (36, .agg (cp2 (J3.sixteen (J3.add (J3.sixteen (tsum p (bs0.take (k)))) (J3.few (p) (u / 16)))))) :: (35, .agg (cp2 (J3.add (J3.sixteen (tsum p (bs0.take (k)))) (J3.few (p) (u / 16))))) :: (34, .agg (cp2 (J3.add (J3.sixteen (tsum p (bs0.take (k)))) (J3.few (p) (u / 16))))) :: (33, .agg (cp2 (J3.few (p) (u / 16)))) :: (32, .pointer (some ⟨g3, (u / 16) * 36, none⟩)) :: (31, .int .u8 ((u / 16 : Nat) : Int)) :: (30, .int .u8 (u : Int)) :: (29, .agg (cp2 (J3.sixteen (tsum p (bs0.take (k)))))) :: (28, .agg (cp2 (tsum p (bs0.take (k))))) :: (9, .int .u8 (u : Int)) :: (27, .int .u8 (u : Int)) :: (26, .pointer (some ⟨b0, o0 + (k), none⟩)) :: (25, .bool true) :: (2, .pointer (some ⟨g1, 0, none⟩)) :: (4, .pointer (some ⟨g2, 0, none⟩)) :: (5, .pointer (some ⟨g3, 0, none⟩)) :: (7, .pointer (some ⟨g4, 0, none⟩)) :: (22, .slice A0 n0 c0) :: (23, .int .i64 (n0 : Int)) :: (24, .int .i64 (k : Int)) :: l_1), rfl, (by exact hl_1), (Eq.trans (Eq.trans (Eq.trans (Eq.trans (Eq.trans (Eq.trans (fr_dup _ _ 24 _ (by exact hl_1) (by rfl) (by rfl)).symm (fr_dup _ _ 23 _ (by exact hl_1) (by rfl) (by rfl)).symm) (fr_dup _ _ 22 _ (by exact hl_1) (by rfl) (by rfl)).symm) (fr_dup _ _ 7 _ (by exact hl_1) (by rfl) (by rfl)).symm) (fr_dup _ _ 5 _ (by exact hl_1) (by rfl) (by rfl)).symm) (fr_dup _ _ 4 _ (by exact hl_1) (by rfl) (by rfl)).symm) (fr_dup _ _ 2 _ (by exact hl_1) (by rfl) (by rfl)).symm), by omega, (by rw [tsum_next p bs0 k u (by omega) hu]; exact hw56)⟩
    omega
  ·
    refine seq_plain hw0_1 [0] (by rfl) ?_
    refine L_val (.bool false) (by rfl) (by exact hl_1) (gives_lss (k := .i64) ((k : Int)) ((n0 : Int)) false (by rfl) (by rfl) (decide_eq_false (by omega))) ?_
    refine L_end ?_
    intro w57 hw57
    refine wp_seq ?_
    refine wp_cond_false (fr_at _ _ (by exact hl_1) _) ?_
    refine wp_exit ?_
    have hkN : k = n0 := by omega
    change Code.wp _ _ _ _ _
    change Code.wp _ _ _ _ _
    refine seq_plain hw57 [0, 1] (by rfl) ?_
    refine L_val (.agg (cp2 (tsum p (bs0.take (k))))) (by rfl) (by exact hl_1) (gL g4 131 (cp2 (tsum p (bs0.take (k)))) 0 Tryd.underlying131 (hi_p2 _)) ?_
    refine L_store (t := 131) 2 g2 _ _ (by rfl) (by exact hl_1) (by rfl) (by rfl) (by rfl) (hi_p2 _) ((cp2_size _).trans (cp2_size _).symm) (cp2_one _) ?_
    simp only [List.set_cons_zero, List.set_cons_succ]
    refine L_end ?_
    intro w58 hw58
    refine wp_ret ?_
    change bodyPost _ _ _ Exit.ret _ _
    refine (ret_cell (by rfl) (by exact hl_1) (by rfl) (hw58.blk 2 (by rfl)) Tryd.underlying131 (by rfl) (hi_p2 _) ⟨?_, hw58.below⟩)
    refine congrArg (fun z : J3 F2 => Ending.returned (.agg (cp2 z))) ?_
    rw [hkN, List.take_of_length_le (by omega)]
end Go.Proofs.YtialfoccalobpaaDoor
