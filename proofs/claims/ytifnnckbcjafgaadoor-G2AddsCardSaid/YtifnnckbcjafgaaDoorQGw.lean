/-
  Points of the curves that as a rule are not of the groups.
-/
import Derived.Test.YtifnnckbcjafgaaDoorQGi
namespace Go.Proofs.YtifnnckbcjafgaaDoor
set_option linter.unusedSimpArgs false
set_option linter.unusedVariables false
open Go.RowKit
theorem und_u16 : Tryd.prog.underlying 23 = some (.int .u16) := by kernel_rfl
theorem wild2_ways {c : F2} (hc : c = F2.sm 4 4) (n : Int) (k : Nat) : (k < 200 ∧ ((((F2.sm (n + (k : Int)) 1) * (F2.sm (n + (k : Int)) 1)) * (F2.sm (n + (k : Int)) 1)) + (c)).sq ∧ ((((F2.sm (n + (k : Int)) 1) * (F2.sm (n + (k : Int)) 1)) * (F2.sm (n + (k : Int)) 1)) + (c)).rt ≠ 0) ∨ (k < 200 ∧ ¬ ((((F2.sm (n + (k : Int)) 1) * (F2.sm (n + (k : Int)) 1)) * (F2.sm (n + (k : Int)) 1)) + (c)).sq) ∨ ¬ k < 200 := by
  by_cases h : k < 200
  · by_cases h1 : ((((F2.sm (n + (k : Int)) 1) * (F2.sm (n + (k : Int)) 1)) * (F2.sm (n + (k : Int)) 1)) + (c)).sq
    · refine .inl ⟨h, h1, fun h2 => ?_⟩
      have h3 := F2.rt_ok h1
      rw [h2, ec2.rg.mz] at h3
      exact ec2.no2 _ (by rw [← hc]; exact h3.symm)
    · exact .inr (.inl ⟨h, h1⟩)
  · exact .inr (.inr h)
attribute [local irreducible] wpL wpF fr Code.wp bodyPost
set_option maxRecDepth 100000 in
set_option maxHeartbeats 4000000 in
theorem k2_wild (n : Int) (v : World) (hG : Glo v) (hQ : GQp v) (hn : 0 ≤ n ∧ n < 65536) : Calls Tryd.prog 40 #[.int .u16 n] v fun e w' => ∃ (u : Unit) (x : Pt F2), e = .returned (.agg (cg2 x)) ∧ OnC (F2.sm 4 4) x ∧ Below v.heap.size v w' := by
  obtain ⟨k0, hk0⟩ : ∃ k : F2, k = F2.sm 4 4 := ⟨_, rfl⟩
  refine calls_fr1 Tryd.func40 rfl (by rfl : _ = 38) (by rfl) ?_
  have hw := Hbl.nil v
  refine seq_plain hw [0] (by rfl) ?_
  refine L_alloc _ (by rfl) (by rfl) z_g2 (cg2 (0 : Pt F2)) rfl ?_; intro g1
  refine L_end ?_
  intro w1 hw1
  refine wp_seq ?_
  refine seq_plain hw1 [0, 1, 2] (by rfl) ?_
  refine L_val (.int .u16 n) (by rfl) (by rfl) (gives_value _ fun _ => by rfl) ?_
  refine L_val (.int .u64 n) (by rfl) (by rfl) (gives_conv (k2 := .u64) (n) (n) (by rfl) und_u16 und_w64 (IntWalk.u64_in _ (by omega))) ?_
  refine L_val (.int .u64 n) (by rfl) (by rfl) (gives_value _ fun _ => by rfl) ?_
  refine L_end ?_
  intro w2 hw2
  refine wp_block ?_
  refine loop_down (fun (r_ : Nat) a w => ∃ (k : Nat) (l_1 : List (Nat × Value)), 200 - k = r_ ∧ inFr 38 l_1 = true ∧ a = fr 38 ((0, .int .u16 n) :: (2, .pointer (some ⟨g1, 0, none⟩)) :: (3, .int .u64 (n + (k : Int))) :: l_1) ∧ (k ≤ 200) ∧ Hbl v [(g1, 59, (cg2 (0 : Pt F2)))] w) ?_ _ _ _ ⟨0, [(3, .int .u64 n), (8, .int .u64 n), (7, .int .u16 n), (2, .pointer (some ⟨g1, 0, none⟩)), (0, .int .u16 n)], rfl, (by rfl), (Eq.trans (Eq.trans (fr_dup _ _ 3 _ (by rfl) (by rfl) (by exact (congrArg (Value.int .u64) (by omega)))).symm (fr_dup _ _ 2 _ (by rfl) (by rfl) (by rfl)).symm) (fr_dup _ _ 0 _ (by rfl) (by rfl) (by rfl)).symm), Nat.zero_le _, hw2⟩
  rintro r_1 a0 w0_1 ⟨k, l_1, hr_1, hl_1, rfl, hk, hw0_1⟩
  rcases wild2_ways hk0 n k with ⟨hlt, hr⟩ | ⟨hlt, hr⟩ | hlt
  ·
    refine wp_seq ?_
    refine seq_plain hw0_1 [0, 1, 2, 3, 4] (by rfl) ?_
    refine L_val (.int .u64 (n + (k : Int))) (by rfl) (by exact hl_1) (gives_value _ fun _ => by rfl) ?_
    refine L_val (.int .u16 n) (by rfl) (by exact hl_1) (gives_value _ fun _ => by rfl) ?_
    refine L_val (.int .u64 n) (by rfl) (by exact hl_1) (gives_conv (k2 := .u64) (n) (n) (by rfl) und_u16 und_w64 (IntWalk.u64_in _ (by omega))) ?_
    refine L_val (.int .u64 (n + 200)) (by rfl) (by exact hl_1) (gives_add (k := .u64) (n) (200) (n + 200) (by rfl) (by rfl) (IntWalk.u64_in _ (by omega))) ?_
    refine L_val (.bool true) (by rfl) (by exact hl_1) (gives_lss (k := .u64) (n + (k : Int)) (n + 200) true (by rfl) (by rfl) (decide_eq_true (by omega))) ?_
    refine L_end ?_
    intro w3 hw3
    refine wp_cond_true (fr_at _ _ (by exact hl_1) _) ?_
    refine wp_skip ?_
    change Code.wp _ _ _ _ _
    refine wp_seq ?_
    refine wp_block ?_
    refine seq_plain hw3 [0, 1, 2, 3] (by rfl) ?_
    refine L_val (.int .u64 (n + (k : Int))) (by rfl) (by exact hl_1) (gives_value _ fun _ => by rfl) ?_
    refine L_val (.agg (c2 (F2.sm (n + (k : Int)) 1))) (by rfl) (by exact hl_1) (gives_call (vl := [.int .u64 (n + (k : Int)), .int .u64 1]) (by kernel_rfl) (by rfl) (fun w h => q_small _ _ w (hG.keep h.below) (by omega) (by simp only [Wd]; omega) (by omega) (by simp only [Wd]; omega))) ?_
    refine L_alloc _ (by rfl) (by exact hl_1) z_2 (c2 (0 : F2)) rfl ?_; intro g2
    refine L_store (t := 57) 0 g2 _ _ (by rfl) (by exact hl_1) (by rfl) (by rfl) (by rfl) (hi_2 _) ((c2_size _).trans (c2_size _).symm) (c2_one _) ?_
    simp only [List.set_cons_zero, List.set_cons_succ]
    refine L_end ?_
    intro w4 hw4
    refine seq_flow (by kernel_rfl) hw4 [] [(g2, 57, (c2 (F2.sm (n + (k : Int)) 1))), (g1, 59, (cg2 (0 : Pt F2)))] 13 (by rfl) ?_
    refine fT (i := 0) (hl := by exact hl_1) (g := (gL g2 57 (c2 (F2.sm (n + (k : Int)) 1)) 0 Tryd.underlying57 (hi_2 _))) (h := ?_)
    refine fT (i := 1) (hl := by exact hl_1) (g := (gives_call (vl := [.agg (c2 (F2.sm (n + (k : Int)) 1))]) (by kernel_rfl) (by rfl) (fun w h => q_square _ w (hG.keep h.below)))) (h := ?_)
    refine fT (i := 2) (hl := by exact hl_1) (g := (gL g2 57 (c2 (F2.sm (n + (k : Int)) 1)) 0 Tryd.underlying57 (hi_2 _))) (h := ?_)
    refine fT (i := 3) (hl := by exact hl_1) (g := (gives_call (vl := [.agg (c2 ((F2.sm (n + (k : Int)) 1) * (F2.sm (n + (k : Int)) 1))), .agg (c2 (F2.sm (n + (k : Int)) 1))]) (by kernel_rfl) (by rfl) (fun w h => q_mul _ _ w (hG.keep h.below)))) (h := ?_)
    refine fT (i := 4) (u := (.agg (c2 (k0)))) (hl := by exact hl_1) (g := (gives_call (vl := [.int .u64 4, .int .u64 4]) (by kernel_rfl) (by rfl) (fun w h => by rw [hk0]; exact q_small _ _ w (hG.keep h.below) (by omega) (by simp only [Wd]; omega) (by omega) (by simp only [Wd]; omega)))) (h := ?_)
    refine fT (i := 5) (hl := by exact hl_1) (g := (gives_call (vl := [.agg (c2 (((F2.sm (n + (k : Int)) 1) * (F2.sm (n + (k : Int)) 1)) * (F2.sm (n + (k : Int)) 1))), .agg (c2 (k0))]) (by kernel_rfl) (by rfl) (fun w h => q_add _ _ w (hG.keep h.below)))) (h := ?_)
    refine fT (i := 6) (hl := by exact hl_1) (g := (gives_call (vl := [.agg (c2 ((((F2.sm (n + (k : Int)) 1) * (F2.sm (n + (k : Int)) 1)) * (F2.sm (n + (k : Int)) 1)) + (k0)))]) (by kernel_rfl) (by rfl) (fun w h => q_sqrt_yes _ w (hG.keep h.below) (hQ.keep h.below) hr.1))) (h := ?_)
    refine fT (i := 7) (u := (.tuple #[.agg (c2 (F2.rt ((((F2.sm (n + (k : Int)) 1) * (F2.sm (n + (k : Int)) 1)) * (F2.sm (n + (k : Int)) 1)) + (k0)))), .bool true])) (hl := by exact hl_1) (g := (gives_value _ fun _ => by rfl)) (h := ?_)
    refine fT (i := 8) (u := (.agg (c2 (F2.rt ((((F2.sm (n + (k : Int)) 1) * (F2.sm (n + (k : Int)) 1)) * (F2.sm (n + (k : Int)) 1)) + (k0)))))) (hl := by exact hl_1) (g := (gives_value _ fun _ => by kernel_rfl)) (h := ?_)
    refine fT (i := 9) (u := (.bool true)) (hl := by exact hl_1) (g := (gives_value _ fun _ => by kernel_rfl)) (h := ?_)
    refine flow_one 10 (by kernel_rfl) ?_
    refine F_alloc _ (by rfl) (by exact hl_1) z_2 (c2 (0 : F2)) rfl (List.Sublist.refl _) ?_; intro g3
    refine flow_one 11 (by kernel_rfl) ?_
    refine F_store (t := 57) 0 g3 _ _ (by rfl) (by exact hl_1) (by rfl) (by rfl) (by rfl) (hi_2 _) ((c2_size _).trans (c2_size _).symm) (c2_one _) (.inr (List.Sublist.cons _ (List.Sublist.refl _))) ?_
    simp only [List.set_cons_zero, List.set_cons_succ]
    refine fTs (i := 12) (u := (.bool true)) (hl := by exact hl_1) (e := (List.Sublist.cons _ (List.Sublist.refl _))) (g := (gives_value _ fun _ => by rfl)) (h := ?_)
    refine flow_done (by kernel_rfl) ?_
    intro w5 hw5
    refine seq_plain hw5 [0, 1, 2, 3, 4, 5] (by rfl) ?_
    refine L_val (.bool true) (by rfl) (by exact hl_1) (gives_value _ fun _ => by rfl) ?_
    refine L_val (.bool true) (by rfl) (by exact hl_1) (gives_value _ fun _ => by rfl) ?_
    refine L_val_g (dj := 29) (.agg (c2 (F2.rt ((((F2.sm (n + (k : Int)) 1) * (F2.sm (n + (k : Int)) 1)) * (F2.sm (n + (k : Int)) 1)) + (k0))))) (by rfl) (by exact hl_1) (by rfl) (by rfl) (by rfl) (gives_load g3 0 57 (c2 (F2.rt ((((F2.sm (n + (k : Int)) 1) * (F2.sm (n + (k : Int)) 1)) * (F2.sm (n + (k : Int)) 1)) + (k0)))) (c2 (F2.rt ((((F2.sm (n + (k : Int)) 1) * (F2.sm (n + (k : Int)) 1)) * (F2.sm (n + (k : Int)) 1)) + (k0)))) _ (by rfl) (fun _ h => h.blk 0 (by rfl)) (Sl.refl _) Tryd.underlying57 (by rfl) (hi_2 _)) ?_
    refine L_val_g (dj := 29) (.bool false) (by rfl) (by exact hl_1) (by rfl) (by rfl) (by rfl) (gives_call (vl := [.agg (c2 (F2.rt ((((F2.sm (n + (k : Int)) 1) * (F2.sm (n + (k : Int)) 1)) * (F2.sm (n + (k : Int)) 1)) + (k0))))]) (by kernel_rfl) (by rfl) (fun w h => q_zero_f w (hG.keep h.below) hr.2)) ?_
    refine L_val_g (dj := 29) (.bool true) (by rfl) (by exact hl_1) (by rfl) (by rfl) (by rfl) (gives_value _ fun _ => by rfl) ?_
    refine L_val (.bool true) (by rfl) (by exact hl_1) (gives_value _ fun _ => by rfl) ?_
    refine L_end ?_
    intro w6 hw6
    refine wp_cond_true (fr_at _ _ (by exact hl_1) _) ?_
    refine seq_plain hw6 [0, 1, 2, 3] (by rfl) ?_
    refine L_val (.agg (c2 (F2.sm (n + (k : Int)) 1))) (by rfl) (by exact hl_1) (gL g2 57 (c2 (F2.sm (n + (k : Int)) 1)) 1 Tryd.underlying57 (hi_2 _)) ?_
    refine L_val (.agg (c2 (F2.rt ((((F2.sm (n + (k : Int)) 1) * (F2.sm (n + (k : Int)) 1)) * (F2.sm (n + (k : Int)) 1)) + (k0))))) (by rfl) (by exact hl_1) (gL g3 57 (c2 (F2.rt ((((F2.sm (n + (k : Int)) 1) * (F2.sm (n + (k : Int)) 1)) * (F2.sm (n + (k : Int)) 1)) + (k0)))) 0 Tryd.underlying57 (hi_2 _)) ?_
    refine L_val (.agg (cg2 (⟨F2.sm (n + (k : Int)) 1, F2.rt ((((F2.sm (n + (k : Int)) 1) * (F2.sm (n + (k : Int)) 1)) * (F2.sm (n + (k : Int)) 1)) + (k0))⟩ : Pt F2))) (by rfl) (by exact hl_1) (gb_g2 [(0, (c2 (F2.sm (n + (k : Int)) 1))), (1, (c2 (F2.rt ((((F2.sm (n + (k : Int)) 1) * (F2.sm (n + (k : Int)) 1)) * (F2.sm (n + (k : Int)) 1)) + (k0)))))] ⟨congrArg some (c2_size _).symm, congrArg some (c2_size _).symm, trivial⟩ (by rfl) (cg2 (⟨F2.sm (n + (k : Int)) 1, F2.rt ((((F2.sm (n + (k : Int)) 1) * (F2.sm (n + (k : Int)) 1)) * (F2.sm (n + (k : Int)) 1)) + (k0))⟩ : Pt F2)) (by rfl)) ?_
    refine L_store (t := 59) 2 g1 _ _ (by rfl) (by exact hl_1) (by rfl) (by rfl) (by rfl) (hi_g2 _) ((cg2_size _).trans (cg2_size _).symm) (cg2_one _) ?_
    simp only [List.set_cons_zero, List.set_cons_succ]
    refine L_end ?_
    intro w7 hw7
    refine wp_ret ?_
    change bodyPost _ _ _ Exit.ret _ _
    refine (ret_cell (by rfl) (by exact hl_1) (by rfl) (hw7.blk 2 (by rfl)) Tryd.underlying59 (by rfl) (hi_g2 _) ⟨(), _, rfl, (.inr (by rw [← hk0]; exact F2.rt_ok hr.1)), hw7.below⟩)
  ·
    refine wp_seq ?_
    refine seq_plain hw0_1 [0, 1, 2, 3, 4] (by rfl) ?_
    refine L_val (.int .u64 (n + (k : Int))) (by rfl) (by exact hl_1) (gives_value _ fun _ => by rfl) ?_
    refine L_val (.int .u16 n) (by rfl) (by exact hl_1) (gives_value _ fun _ => by rfl) ?_
    refine L_val (.int .u64 n) (by rfl) (by exact hl_1) (gives_conv (k2 := .u64) (n) (n) (by rfl) und_u16 und_w64 (IntWalk.u64_in _ (by omega))) ?_
    refine L_val (.int .u64 (n + 200)) (by rfl) (by exact hl_1) (gives_add (k := .u64) (n) (200) (n + 200) (by rfl) (by rfl) (IntWalk.u64_in _ (by omega))) ?_
    refine L_val (.bool true) (by rfl) (by exact hl_1) (gives_lss (k := .u64) (n + (k : Int)) (n + 200) true (by rfl) (by rfl) (decide_eq_true (by omega))) ?_
    refine L_end ?_
    intro w8 hw8
    refine wp_cond_true (fr_at _ _ (by exact hl_1) _) ?_
    refine wp_skip ?_
    change Code.wp _ _ _ _ _
    refine wp_seq ?_
    refine wp_block ?_
    refine seq_plain hw8 [0, 1, 2, 3] (by rfl) ?_
    refine L_val (.int .u64 (n + (k : Int))) (by rfl) (by exact hl_1) (gives_value _ fun _ => by rfl) ?_
    refine L_val (.agg (c2 (F2.sm (n + (k : Int)) 1))) (by rfl) (by exact hl_1) (gives_call (vl := [.int .u64 (n + (k : Int)), .int .u64 1]) (by kernel_rfl) (by rfl) (fun w h => q_small _ _ w (hG.keep h.below) (by omega) (by simp only [Wd]; omega) (by omega) (by simp only [Wd]; omega))) ?_
    refine L_alloc _ (by rfl) (by exact hl_1) z_2 (c2 (0 : F2)) rfl ?_; intro g4
    refine L_store (t := 57) 0 g4 _ _ (by rfl) (by exact hl_1) (by rfl) (by rfl) (by rfl) (hi_2 _) ((c2_size _).trans (c2_size _).symm) (c2_one _) ?_
    simp only [List.set_cons_zero, List.set_cons_succ]
    refine L_end ?_
    intro w9 hw9
    refine seq_flow (by kernel_rfl) hw9 [] [(g4, 57, (c2 (F2.sm (n + (k : Int)) 1))), (g1, 59, (cg2 (0 : Pt F2)))] 13 (by rfl) ?_
    refine fT (i := 0) (hl := by exact hl_1) (g := (gL g4 57 (c2 (F2.sm (n + (k : Int)) 1)) 0 Tryd.underlying57 (hi_2 _))) (h := ?_)
    refine fT (i := 1) (hl := by exact hl_1) (g := (gives_call (vl := [.agg (c2 (F2.sm (n + (k : Int)) 1))]) (by kernel_rfl) (by rfl) (fun w h => q_square _ w (hG.keep h.below)))) (h := ?_)
    refine fT (i := 2) (hl := by exact hl_1) (g := (gL g4 57 (c2 (F2.sm (n + (k : Int)) 1)) 0 Tryd.underlying57 (hi_2 _))) (h := ?_)
    refine fT (i := 3) (hl := by exact hl_1) (g := (gives_call (vl := [.agg (c2 ((F2.sm (n + (k : Int)) 1) * (F2.sm (n + (k : Int)) 1))), .agg (c2 (F2.sm (n + (k : Int)) 1))]) (by kernel_rfl) (by rfl) (fun w h => q_mul _ _ w (hG.keep h.below)))) (h := ?_)
    refine fT (i := 4) (u := (.agg (c2 (k0)))) (hl := by exact hl_1) (g := (gives_call (vl := [.int .u64 4, .int .u64 4]) (by kernel_rfl) (by rfl) (fun w h => by rw [hk0]; exact q_small _ _ w (hG.keep h.below) (by omega) (by simp only [Wd]; omega) (by omega) (by simp only [Wd]; omega)))) (h := ?_)
    refine fT (i := 5) (hl := by exact hl_1) (g := (gives_call (vl := [.agg (c2 (((F2.sm (n + (k : Int)) 1) * (F2.sm (n + (k : Int)) 1)) * (F2.sm (n + (k : Int)) 1))), .agg (c2 (k0))]) (by kernel_rfl) (by rfl) (fun w h => q_add _ _ w (hG.keep h.below)))) (h := ?_)
    refine fT (i := 6) (hl := by exact hl_1) (g := (gives_call (vl := [.agg (c2 ((((F2.sm (n + (k : Int)) 1) * (F2.sm (n + (k : Int)) 1)) * (F2.sm (n + (k : Int)) 1)) + (k0)))]) (by kernel_rfl) (by rfl) (fun w h => q_sqrt_no _ w (hG.keep h.below) (hQ.keep h.below) hr))) (h := ?_)
    refine fT (i := 7) (u := (.tuple #[.agg (c2 (0 : F2)), .bool false])) (hl := by exact hl_1) (g := (gives_value _ fun _ => by rfl)) (h := ?_)
    refine fT (i := 8) (u := (.agg (c2 (0 : F2)))) (hl := by exact hl_1) (g := (gives_value _ fun _ => by kernel_rfl)) (h := ?_)
    refine fT (i := 9) (u := (.bool false)) (hl := by exact hl_1) (g := (gives_value _ fun _ => by kernel_rfl)) (h := ?_)
    refine flow_one 10 (by kernel_rfl) ?_
    refine F_alloc _ (by rfl) (by exact hl_1) z_2 (c2 (0 : F2)) rfl (List.Sublist.refl _) ?_; intro g5
    refine flow_one 11 (by kernel_rfl) ?_
    refine F_store (t := 57) 0 g5 _ _ (by rfl) (by exact hl_1) (by rfl) (by rfl) (by rfl) (hi_2 _) ((c2_size _).trans (c2_size _).symm) (c2_one _) (.inr (List.Sublist.cons _ (List.Sublist.refl _))) ?_
    simp only [List.set_cons_zero, List.set_cons_succ]
    refine fTs (i := 12) (u := (.bool false)) (hl := by exact hl_1) (e := (List.Sublist.cons _ (List.Sublist.refl _))) (g := (gives_value _ fun _ => by rfl)) (h := ?_)
    refine flow_done (by kernel_rfl) ?_
    intro w10 hw10
    refine seq_plain hw10 [0, 1, 2, 3, 4, 5] (by rfl) ?_
    refine L_val (.bool false) (by rfl) (by exact hl_1) (gives_value _ fun _ => by rfl) ?_
    refine L_val (.bool false) (by rfl) (by exact hl_1) (gives_value _ fun _ => by rfl) ?_
    refine L_skip (dj := 29) (by rfl) (by exact hl_1) (by rfl) (by rfl) (by rfl) ?_
    refine L_skip (dj := 29) (by rfl) (by exact hl_1) (by rfl) (by rfl) (by rfl) ?_
    refine L_skip (dj := 29) (by rfl) (by exact hl_1) (by rfl) (by rfl) (by rfl) ?_
    refine L_val (.bool false) (by rfl) (by exact hl_1) (gives_value _ fun _ => by rfl) ?_
    refine L_end ?_
    intro w11 hw11
    refine wp_cond_false (fr_at _ _ (by exact hl_1) _) ?_
    refine wp_skip ?_
    change Code.wp _ _ _ _ _
    refine one_plain hw11 [0, 1, 2] (by rfl) ?_
    refine L_val (.int .u64 (n + (k : Int))) (by rfl) (by exact hl_1) (gives_value _ fun _ => by rfl) ?_
    refine L_val (.int .u64 ((n + (k : Int)) + 1)) (by rfl) (by exact hl_1) (gives_add (k := .u64) (n + (k : Int)) (1) ((n + (k : Int)) + 1) (by rfl) (by rfl) (IntWalk.u64_in _ (by omega))) ?_
    refine L_val (.int .u64 ((n + (k : Int)) + 1)) (by rfl) (by exact hl_1) (gives_value _ fun _ => by rfl) ?_
    refine L_end ?_
    intro w12 hw12
    change ∃ r' : Nat, r' < r_1 ∧ _
    refine ⟨_, ?_, k + 1, ((3, .int .u64 ((n + (k : Int)) + 1)) :: (15, .int .u64 ((n + (k : Int)) + 1)) :: (14, .int .u64 (n + (k : Int))) :: (33, .bool false) :: (32, undef) :: (31, undef) :: (30, undef) :: (29, .bool false) :: (28, .bool false) :: (6, .bool false) :: (5, .pointer (some ⟨g5, 0, none⟩)) :: (27, .bool false) :: (26, .agg (c2 (0 : F2))) :: (18, .tuple #[.agg (c2 (0 : F2)), .bool false]) :: (25, .tuple #[.agg (c2 (0 : F2)), .bool false]) :: (24, .agg (c2 ((((F2.sm (n + (k : Int)) 1) * (F2.sm (n + (k : Int)) 1)) * (F2.sm (n + (k : Int)) 1)) + (k0)))) :: (23, .agg (c2 (k0))) :: (22, .agg (c2 (((F2.sm (n + (k : Int)) 1) * (F2.sm (n + (k : Int)) 1)) * (F2.sm (n + (k : Int)) 1)))) :: (21, .agg (c2 (F2.sm (n + (k : Int)) 1))) :: (20, .agg (c2 ((F2.sm (n + (k : Int)) 1) * (F2.sm (n + (k : Int)) 1)))) :: (19, .agg (c2 (F2.sm (n + (k : Int)) 1))) :: (4, .pointer (some ⟨g4, 0, none⟩)) :: (17, .agg (c2 (F2.sm (n + (k : Int)) 1))) :: (16, .int .u64 (n + (k : Int))) :: (13, .bool true) :: (12, .int .u64 (n + 200)) :: (11, .int .u64 n) :: (10, .int .u16 n) :: (9, .int .u64 (n + (k : Int))) :: (0, .int .u16 n) :: (2, .pointer (some ⟨g1, 0, none⟩)) :: (3, .int .u64 (n + (k : Int))) :: l_1), rfl, (by exact hl_1), (Eq.trans (Eq.trans (fr_dup _ _ 3 _ (by exact hl_1) (by rfl) (by exact (congrArg (Value.int .u64) (by omega)))).symm (fr_dup _ _ 2 _ (by exact hl_1) (by rfl) (by rfl)).symm) (fr_dup _ _ 0 _ (by exact hl_1) (by rfl) (by rfl)).symm), by omega, (hw12.sub (List.Sublist.cons _ (List.Sublist.cons _ (List.Sublist.refl _))))⟩
    omega
  ·
    refine wp_seq ?_
    refine seq_plain hw0_1 [0, 1, 2, 3, 4] (by rfl) ?_
    refine L_val (.int .u64 (n + (k : Int))) (by rfl) (by exact hl_1) (gives_value _ fun _ => by rfl) ?_
    refine L_val (.int .u16 n) (by rfl) (by exact hl_1) (gives_value _ fun _ => by rfl) ?_
    refine L_val (.int .u64 n) (by rfl) (by exact hl_1) (gives_conv (k2 := .u64) (n) (n) (by rfl) und_u16 und_w64 (IntWalk.u64_in _ (by omega))) ?_
    refine L_val (.int .u64 (n + 200)) (by rfl) (by exact hl_1) (gives_add (k := .u64) (n) (200) (n + 200) (by rfl) (by rfl) (IntWalk.u64_in _ (by omega))) ?_
    refine L_val (.bool false) (by rfl) (by exact hl_1) (gives_lss (k := .u64) (n + (k : Int)) (n + 200) false (by rfl) (by rfl) (decide_eq_false (by omega))) ?_
    refine L_end ?_
    intro w13 hw13
    refine wp_cond_false (fr_at _ _ (by exact hl_1) _) ?_
    refine wp_exit ?_
    change Code.wp _ _ _ _ _
    change Code.wp _ _ _ _ _
    refine seq_plain hw13 [0, 1] (by rfl) ?_
    refine L_val (.agg (cg2 (0 : Pt F2))) (by rfl) (by exact hl_1) (gb_g2 [] trivial (by rfl) (cg2 (0 : Pt F2)) (by rfl)) ?_
    refine L_store (t := 59) 0 g1 _ _ (by rfl) (by exact hl_1) (by rfl) (by rfl) (by rfl) (hi_g2 _) ((cg2_size _).trans (cg2_size _).symm) (cg2_one _) ?_
    simp only [List.set_cons_zero, List.set_cons_succ]
    refine L_end ?_
    intro w14 hw14
    refine wp_ret ?_
    change bodyPost _ _ _ Exit.ret _ _
    refine (ret_cell (by rfl) (by exact hl_1) (by rfl) (hw14.blk 0 (by rfl)) Tryd.underlying59 (by rfl) (hi_g2 _) ⟨(), _, rfl, (.inl rfl), hw14.below⟩)
end Go.Proofs.YtifnnckbcjafgaaDoor
