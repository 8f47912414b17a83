/-
  TowerCubics: the walk.
-/
import Derived.Test.YtnebmgiajfbnaaaDoorTwN
namespace Go.Proofs.YtnebmgiajfbnaaaDoor
set_option linter.unusedSimpArgs false
set_option linter.unusedVariables false
open Go.RowKit
theorem shift_small (x : C3) {k : F2} (hk : k = F2.sm 1 0) : x.shift = x * C3.mk 0 k 0 := by
  rw [hk, F2.sm10, ← C3.mul_V, C3.cr.mul_comm]
  rfl
theorem C3.add_sub (x y : C3) : x + y - y = x := by rw [C3.rg.sn, C3.rg.aa, C3.rg.an, C3.rg.az]
attribute [local irreducible] wpL wpF fr Code.wp bodyPost
set_option maxRecDepth 100000 in
set_option maxHeartbeats 4000000 in
theorem t_cubics_long (A0 : Option Addr) (L0 C0 : Nat) (bs0 : List Int) (A1 : Option Addr) (L1 C1 : Nat) (bs1 : List Int) (v : World) (hG : Glo v) (hr0 : Reads v v.heap.size A0 L0 (bs0.map (Value.int .u8))) (ho0 : Oct bs0) (hr1 : Reads v v.heap.size A1 L1 (bs1.map (Value.int .u8))) (ho1 : Oct bs1) (hlong : 2000 < L0 ∨ 2000 < L1) : Rets 6 #[.slice A0 L0 C0, .slice A1 L1 C1] v (.bool true) := by
  refine calls_fr2 Tryd.func6 rfl (by rfl : _ = 101) (by rfl) ?_
  have hw := Hbl.nil v
  refine seq_plain hw [0] (by rfl) ?_
  refine L_val (.bool false) (by rfl) (by rfl) (gives_value _ fun _ => by rfl) ?_
  refine L_end ?_
  intro w1 hw1
  refine wp_seq ?_
  refine seq_plain hw1 [0, 1] (by rfl) ?_
  refine L_val (.bool true) (by rfl) (by rfl) (gives_call (vl := []) (by kernel_rfl) (by rfl) (fun w h => t_head w (hG.keep h.below))) ?_
  refine L_val (.bool false) (by rfl) (by rfl) (gives_value _ fun _ => by rfl) ?_
  refine L_end ?_
  intro w2 hw2
  refine wp_cond_false (fr_at _ _ (by rfl) _) ?_
  refine wp_skip ?_
  change Code.wp _ _ _ _ _
  refine wp_seq ?_
  refine seq_plain hw2 [0, 1, 2] (by rfl) ?_
  refine L_val (.slice A0 L0 C0) (by rfl) (by rfl) (gives_value _ fun _ => by rfl) ?_
  refine L_val (.slice A1 L1 C1) (by rfl) (by rfl) (gives_value _ fun _ => by rfl) ?_
  refine L_val (.bool true) (by rfl) (by rfl) (gives_call (vl := [.slice A0 L0 C0, .slice A1 L1 C1]) (by kernel_rfl) (by rfl) (fun w h => tlong_yes _ _ _ _ _ _ w (by omega))) ?_
  refine L_end ?_
  intro w3 hw3
  refine wp_cond_true (fr_at _ _ (by rfl) _) ?_
  refine seq_plain hw3 [0] (by rfl) ?_
  refine L_val (.bool true) (by rfl) (by rfl) (gives_value _ fun _ => by rfl) ?_
  refine L_end ?_
  intro w4 hw4
  refine wp_ret ?_
  change bodyPost _ _ _ Exit.ret _ _
  refine (ret_tmp (by rfl) (by rfl) (by rfl) ⟨rfl, hw4.below⟩)
set_option maxRecDepth 100000 in
set_option maxHeartbeats 4000000 in
theorem t_cubics_short (A0 : Option Addr) (L0 C0 : Nat) (bs0 : List Int) (A1 : Option Addr) (L1 C1 : Nat) (bs1 : List Int) (v : World) (hG : Glo v) (hr0 : Reads v v.heap.size A0 L0 (bs0.map (Value.int .u8))) (ho0 : Oct bs0) (hr1 : Reads v v.heap.size A1 L1 (bs1.map (Value.int .u8))) (ho1 : Oct bs1) (hs0 : L0 ≤ 2000) (hs1 : L1 ≤ 2000) : Rets 6 #[.slice A0 L0 C0, .slice A1 L1 C1] v (.bool true) := by
  obtain ⟨k0, hk0⟩ : ∃ k : F2, k = F2.sm 1 0 := ⟨_, rfl⟩
  refine calls_fr2 Tryd.func6 rfl (by rfl : _ = 101) (by rfl) ?_
  have hw := Hbl.nil v
  refine seq_plain hw [0] (by rfl) ?_
  refine L_val (.bool false) (by rfl) (by rfl) (gives_value _ fun _ => by rfl) ?_
  refine L_end ?_
  intro w1 hw1
  refine wp_seq ?_
  refine seq_plain hw1 [0, 1] (by rfl) ?_
  refine L_val (.bool true) (by rfl) (by rfl) (gives_call (vl := []) (by kernel_rfl) (by rfl) (fun w h => t_head w (hG.keep h.below))) ?_
  refine L_val (.bool false) (by rfl) (by rfl) (gives_value _ fun _ => by rfl) ?_
  refine L_end ?_
  intro w2 hw2
  refine wp_cond_false (fr_at _ _ (by rfl) _) ?_
  refine wp_skip ?_
  change Code.wp _ _ _ _ _
  refine wp_seq ?_
  refine seq_plain hw2 [0, 1, 2] (by rfl) ?_
  refine L_val (.slice A0 L0 C0) (by rfl) (by rfl) (gives_value _ fun _ => by rfl) ?_
  refine L_val (.slice A1 L1 C1) (by rfl) (by rfl) (gives_value _ fun _ => by rfl) ?_
  refine L_val (.bool false) (by rfl) (by rfl) (gives_call (vl := [.slice A0 L0 C0, .slice A1 L1 C1]) (by kernel_rfl) (by rfl) (fun w h => tlong_no _ _ _ _ _ _ w (by omega) (by omega))) ?_
  refine L_end ?_
  intro w3 hw3
  refine wp_cond_false (fr_at _ _ (by rfl) _) ?_
  refine wp_skip ?_
  change Code.wp _ _ _ _ _
  refine seq_plain hw3 [0, 1, 2, 3, 4, 5, 6, 7, 8] (by rfl) ?_
  refine L_val (.slice A0 L0 C0) (by rfl) (by rfl) (gives_value _ fun _ => by rfl) ?_
  refine L_callE (A := (Array Value)) (B := T12) (vl := [.slice A0 L0 C0]) (fun a b => .tuple #[.agg a, .agg (c12 b)]) (fun u _ => u.size = 12 ∧ u.all (·.oneCell') = true) (by rfl) (by rfl) Want.none (by kernel_rfl) (by rfl) (fun w h => number_any A0 L0 C0 bs0 w (hG.keep h.below) ((hr0.below h.below).more h.below.size) ho0 (by omega)) ?_; intro u_1 x_1 hu_1
  rcases Classical.em (x_1.a = 0) with hz | hz
  ·
    refine L_val (.tuple #[.agg u_1, .agg (c12 (x_1))]) (by rfl) (by rfl) (gives_value _ fun _ => by rfl) ?_
    refine L_val (.agg u_1) (by rfl) (by rfl) (gives_value _ fun _ => by kernel_rfl) ?_
    refine L_val (.agg (c12 (x_1))) (by rfl) (by rfl) (gives_value _ fun _ => by kernel_rfl) ?_
    refine L_alloc _ (by rfl) (by rfl) z_aN (joinA [#[.slice none 0 0, .slice none 0 0], #[.slice none 0 0, .slice none 0 0], #[.slice none 0 0, .slice none 0 0], #[.slice none 0 0, .slice none 0 0], #[.slice none 0 0, .slice none 0 0], #[.slice none 0 0, .slice none 0 0]]) rfl ?_; intro g1
    refine L_alloc _ (by rfl) (by rfl) z_12 (c12 (0 : T12)) rfl ?_; intro g2
    refine L_store (t := 47) 1 g1 (joinA [#[.slice none 0 0, .slice none 0 0], #[.slice none 0 0, .slice none 0 0], #[.slice none 0 0, .slice none 0 0], #[.slice none 0 0, .slice none 0 0], #[.slice none 0 0, .slice none 0 0], #[.slice none 0 0, .slice none 0 0]]) u_1 (by rfl) (by rfl) (by rfl) (by rfl) (by rfl) (hi_opN hu_1.1) ((joinC_size 2 _ (by simp)).trans hu_1.1.symm) hu_1.2 ?_
    simp only [List.set_cons_zero, List.set_cons_succ]
    refine L_store (t := 51) 0 g2 (c12 (0 : T12)) (c12 (x_1)) (by rfl) (by rfl) (by rfl) (by rfl) (by rfl) (hi_12 _) ((c12_size _).trans (c12_size _).symm) (c12_one _) ?_
    simp only [List.set_cons_zero, List.set_cons_succ]
    refine L_end ?_
    intro w4 hw4
    refine seq_plain hw4 [0, 1, 2, 3, 4, 5, 6, 7, 8] (by rfl) ?_
    refine L_val (.slice A1 L1 C1) (by rfl) (by rfl) (gives_value _ fun _ => by rfl) ?_
    refine L_callE (A := (Array Value)) (B := T12) (vl := [.slice A1 L1 C1]) (fun a b => .tuple #[.agg a, .agg (c12 b)]) (fun u _ => u.size = 12 ∧ u.all (·.oneCell') = true) (by rfl) (by rfl) Want.none (by kernel_rfl) (by rfl) (fun w h => number_any A1 L1 C1 bs1 w (hG.keep h.below) ((hr1.below h.below).more h.below.size) ho1 (by omega)) ?_; intro u_2 x_2 hu_2
    refine L_val (.tuple #[.agg u_2, .agg (c12 (x_2))]) (by rfl) (by rfl) (gives_value _ fun _ => by rfl) ?_
    refine L_val (.agg u_2) (by rfl) (by rfl) (gives_value _ fun _ => by kernel_rfl) ?_
    refine L_val (.agg (c12 (x_2))) (by rfl) (by rfl) (gives_value _ fun _ => by kernel_rfl) ?_
    refine L_alloc _ (by rfl) (by rfl) z_aN (joinA [#[.slice none 0 0, .slice none 0 0], #[.slice none 0 0, .slice none 0 0], #[.slice none 0 0, .slice none 0 0], #[.slice none 0 0, .slice none 0 0], #[.slice none 0 0, .slice none 0 0], #[.slice none 0 0, .slice none 0 0]]) rfl ?_; intro g3
    refine L_alloc _ (by rfl) (by rfl) z_12 (c12 (0 : T12)) rfl ?_; intro g4
    refine L_store (t := 47) 1 g3 (joinA [#[.slice none 0 0, .slice none 0 0], #[.slice none 0 0, .slice none 0 0], #[.slice none 0 0, .slice none 0 0], #[.slice none 0 0, .slice none 0 0], #[.slice none 0 0, .slice none 0 0], #[.slice none 0 0, .slice none 0 0]]) u_2 (by rfl) (by rfl) (by rfl) (by rfl) (by rfl) (hi_opN hu_2.1) ((joinC_size 2 _ (by simp)).trans hu_2.1.symm) hu_2.2 ?_
    simp only [List.set_cons_zero, List.set_cons_succ]
    refine L_store (t := 51) 0 g4 (c12 (0 : T12)) (c12 (x_2)) (by rfl) (by rfl) (by rfl) (by rfl) (by rfl) (hi_12 _) ((c12_size _).trans (c12_size _).symm) (c12_one _) ?_
    simp only [List.set_cons_zero, List.set_cons_succ]
    refine L_end ?_
    intro w5 hw5
    refine seq_plain hw5 [0, 1, 2, 3] (by rfl) ?_
    refine L_val (.pointer (some ⟨g2, 0, none⟩)) (by rfl) (by rfl) (gives_value _ fun _ => by kernel_rfl) ?_
    refine L_val (.agg (c3 ((x_1).a))) (by rfl) (by rfl) (gives_load g2 0 51 (c12 (x_1)) (c3 ((x_1).a)) _ (by rfl) (fun _ h => h.blk 2 (by rfl)) (sl_12a (x_1) _ _ (Sl.refl _)) Tryd.underlying49 (by rfl) (hi_3 _)) ?_
    refine L_alloc _ (by rfl) (by rfl) z_3 (c3 (0 : C3)) rfl ?_; intro g5
    refine L_store (t := 49) 0 g5 (c3 (0 : C3)) (c3 ((x_1).a)) (by rfl) (by rfl) (by rfl) (by rfl) (by rfl) (hi_3 _) ((c3_size _).trans (c3_size _).symm) (c3_one _) ?_
    simp only [List.set_cons_zero, List.set_cons_succ]
    refine L_end ?_
    intro w6 hw6
    refine seq_plain hw6 [0, 1, 2, 3] (by rfl) ?_
    refine L_val (.pointer (some ⟨g4, 0, none⟩)) (by rfl) (by rfl) (gives_value _ fun _ => by kernel_rfl) ?_
    refine L_val (.agg (c3 ((x_2).a))) (by rfl) (by rfl) (gives_load g4 0 51 (c12 (x_2)) (c3 ((x_2).a)) _ (by rfl) (fun _ h => h.blk 1 (by rfl)) (sl_12a (x_2) _ _ (Sl.refl _)) Tryd.underlying49 (by rfl) (hi_3 _)) ?_
    refine L_alloc _ (by rfl) (by rfl) z_3 (c3 (0 : C3)) rfl ?_; intro g6
    refine L_store (t := 49) 0 g6 (c3 (0 : C3)) (c3 ((x_2).a)) (by rfl) (by rfl) (by rfl) (by rfl) (by rfl) (hi_3 _) ((c3_size _).trans (c3_size _).symm) (c3_one _) ?_
    simp only [List.set_cons_zero, List.set_cons_succ]
    refine L_end ?_
    intro w7 hw7
    refine seq_plain hw7 [0, 1, 2, 3, 4, 5, 6] (by rfl) ?_
    refine L_val (.agg (c3 ((x_1).a))) (by rfl) (by rfl) (gives_load g5 0 49 (c3 ((x_1).a)) (c3 ((x_1).a)) _ (by rfl) (fun _ h => h.blk 1 (by rfl)) (Sl.refl _) Tryd.underlying49 (by rfl) (hi_3 _)) ?_
    refine L_val (.agg (c12 (⟨(x_1).a, (0 : C3)⟩ : T12))) (by rfl) (by rfl) (gb_tower [(0, (c3 ((x_1).a)))] ⟨congrArg some (c3_size _).symm, trivial⟩ (by rfl) (c12 (⟨(x_1).a, (0 : C3)⟩ : T12)) (by rfl)) ?_
    refine L_val (.agg (c3 ((x_2).a))) (by rfl) (by rfl) (gives_load g6 0 49 (c3 ((x_2).a)) (c3 ((x_2).a)) _ (by rfl) (fun _ h => h.blk 0 (by rfl)) (Sl.refl _) Tryd.underlying49 (by rfl) (hi_3 _)) ?_
    refine L_val (.agg (c12 (⟨(x_2).a, (0 : C3)⟩ : T12))) (by rfl) (by rfl) (gb_tower [(0, (c3 ((x_2).a)))] ⟨congrArg some (c3_size _).symm, trivial⟩ (by rfl) (c12 (⟨(x_2).a, (0 : C3)⟩ : T12)) (by rfl)) ?_
    refine L_val (.agg (c12 ((⟨(x_1).a, (0 : C3)⟩ : T12) * (⟨(x_2).a, (0 : C3)⟩ : T12)))) (by rfl) (by rfl) (gives_call (vl := [.agg (c12 (⟨(x_1).a, (0 : C3)⟩ : T12)), .agg (c12 (⟨(x_2).a, (0 : C3)⟩ : T12))]) (by kernel_rfl) (by rfl) (fun w h => t_mul _ _ w (hG.keep h.below))) ?_
    refine L_alloc _ (by rfl) (by rfl) z_12 (c12 (0 : T12)) rfl ?_; intro g7
    refine L_store (t := 51) 0 g7 (c12 (0 : T12)) (c12 ((⟨(x_1).a, (0 : C3)⟩ : T12) * (⟨(x_2).a, (0 : C3)⟩ : T12))) (by rfl) (by rfl) (by rfl) (by rfl) (by rfl) (hi_12 _) ((c12_size _).trans (c12_size _).symm) (c12_one _) ?_
    simp only [List.set_cons_zero, List.set_cons_succ]
    refine L_end ?_
    intro w8 hw8
    refine wp_seq ?_
    refine seq_flow (by kernel_rfl) hw8 [] [(g7, 51, (c12 ((⟨(x_1).a, (0 : C3)⟩ : T12) * (⟨(x_2).a, (0 : C3)⟩ : T12)))), (g6, 49, (c3 ((x_2).a))), (g5, 49, (c3 ((x_1).a))), (g4, 51, (c12 (x_2))), (g3, 47, u_2), (g2, 51, (c12 (x_1))), (g1, 47, u_1)] 24 (by rfl) ?_
    refine flow_take (i := 0) (.agg (c12 ((⟨(x_1).a, (0 : C3)⟩ : T12) * (⟨(x_2).a, (0 : C3)⟩ : T12)))) (by rfl) (by kernel_rfl) (by kernel_rfl) (by kernel_rfl) (by rfl) (by kernel_rfl) (List.Sublist.refl _) (gives_load g7 0 51 (c12 ((⟨(x_1).a, (0 : C3)⟩ : T12) * (⟨(x_2).a, (0 : C3)⟩ : T12))) (c12 ((⟨(x_1).a, (0 : C3)⟩ : T12) * (⟨(x_2).a, (0 : C3)⟩ : T12))) _ (by rfl) (fun _ h => h.blk 0 (by rfl)) (Sl.refl _) Tryd.underlying51 (by rfl) (hi_12 _)) ?_
    refine flow_take (i := 1) (.agg (c3 ((x_1).a))) (by rfl) (by kernel_rfl) (by kernel_rfl) (by kernel_rfl) (by rfl) (by kernel_rfl) (List.Sublist.refl _) (gives_load g5 0 49 (c3 ((x_1).a)) (c3 ((x_1).a)) _ (by rfl) (fun _ h => h.blk 2 (by rfl)) (Sl.refl _) Tryd.underlying49 (by rfl) (hi_3 _)) ?_
    refine flow_take (i := 2) (.agg (c3 ((x_2).a))) (by rfl) (by kernel_rfl) (by kernel_rfl) (by kernel_rfl) (by rfl) (by kernel_rfl) (List.Sublist.refl _) (gives_load g6 0 49 (c3 ((x_2).a)) (c3 ((x_2).a)) _ (by rfl) (fun _ h => h.blk 1 (by rfl)) (Sl.refl _) Tryd.underlying49 (by rfl) (hi_3 _)) ?_
    refine flow_take (i := 3) (.agg (c3 (((x_1).a) * ((x_2).a)))) (by rfl) (by kernel_rfl) (by kernel_rfl) (by kernel_rfl) (by rfl) (by kernel_rfl) (List.Sublist.refl _) (gives_call (vl := [.agg (c3 ((x_1).a)), .agg (c3 ((x_2).a))]) (by kernel_rfl) (by rfl) (fun w h => t_cmul _ _ w (hG.keep h.below))) ?_
    refine flow_take (i := 4) (.agg (c12 (⟨((x_1).a) * ((x_2).a), (0 : C3)⟩ : T12))) (by rfl) (by kernel_rfl) (by kernel_rfl) (by kernel_rfl) (by rfl) (by kernel_rfl) (List.Sublist.refl _) (gb_tower [(0, (c3 (((x_1).a) * ((x_2).a))))] ⟨congrArg some (c3_size _).symm, trivial⟩ (by rfl) (c12 (⟨((x_1).a) * ((x_2).a), (0 : C3)⟩ : T12)) (by rfl)) ?_
    refine flow_take (i := 5) (.bool false) (by rfl) (by kernel_rfl) (by kernel_rfl) (by kernel_rfl) (by rfl) (by kernel_rfl) (List.Sublist.refl _) (gives_neq (c12 ((⟨(x_1).a, (0 : C3)⟩ : T12) * (⟨(x_2).a, (0 : C3)⟩ : T12))) (c12 (⟨((x_1).a) * ((x_2).a), (0 : C3)⟩ : T12)) true (by rfl) (by rfl) (by kernel_rfl) (fun w => eq_12_t (d := 9994) w (T12.of_mul _ _).symm)) ?_
    refine flow_take (i := 6) (.bool false) (by rfl) (by kernel_rfl) (by kernel_rfl) (by kernel_rfl) (by rfl) (by kernel_rfl) (List.Sublist.refl _) (gives_value _ fun _ => by rfl) ?_
    refine flow_take_g (i := 7) (dj := 43) (.agg (c3 ((x_1).a))) (by rfl) (by kernel_rfl) (by kernel_rfl) (by kernel_rfl) (by rfl) (by kernel_rfl) (List.Sublist.refl _) (by rfl) (by rfl) (by rfl) (gives_load g5 0 49 (c3 ((x_1).a)) (c3 ((x_1).a)) _ (by rfl) (fun _ h => h.blk 2 (by rfl)) (Sl.refl _) Tryd.underlying49 (by rfl) (hi_3 _)) ?_
    refine flow_take_g (i := 8) (dj := 43) (.agg (c3 ((x_2).a))) (by rfl) (by kernel_rfl) (by kernel_rfl) (by kernel_rfl) (by rfl) (by kernel_rfl) (List.Sublist.refl _) (by rfl) (by rfl) (by rfl) (gives_load g6 0 49 (c3 ((x_2).a)) (c3 ((x_2).a)) _ (by rfl) (fun _ h => h.blk 1 (by rfl)) (Sl.refl _) Tryd.underlying49 (by rfl) (hi_3 _)) ?_
    refine flow_take_g (i := 9) (dj := 43) (.agg (c3 (((x_1).a) * ((x_2).a)))) (by rfl) (by kernel_rfl) (by kernel_rfl) (by kernel_rfl) (by rfl) (by kernel_rfl) (List.Sublist.refl _) (by rfl) (by rfl) (by rfl) (gives_call (vl := [.agg (c3 ((x_1).a)), .agg (c3 ((x_2).a))]) (by kernel_rfl) (by rfl) (fun w h => t_cmul _ _ w (hG.keep h.below))) ?_
    refine flow_take_g (i := 10) (dj := 43) (.agg (c3 ((x_2).a))) (by rfl) (by kernel_rfl) (by kernel_rfl) (by kernel_rfl) (by rfl) (by kernel_rfl) (List.Sublist.refl _) (by rfl) (by rfl) (by rfl) (gives_load g6 0 49 (c3 ((x_2).a)) (c3 ((x_2).a)) _ (by rfl) (fun _ h => h.blk 1 (by rfl)) (Sl.refl _) Tryd.underlying49 (by rfl) (hi_3 _)) ?_
    refine flow_take_g (i := 11) (dj := 43) (.agg (c3 ((x_1).a))) (by rfl) (by kernel_rfl) (by kernel_rfl) (by kernel_rfl) (by rfl) (by kernel_rfl) (List.Sublist.refl _) (by rfl) (by rfl) (by rfl) (gives_load g5 0 49 (c3 ((x_1).a)) (c3 ((x_1).a)) _ (by rfl) (fun _ h => h.blk 2 (by rfl)) (Sl.refl _) Tryd.underlying49 (by rfl) (hi_3 _)) ?_
    refine flow_take_g (i := 12) (dj := 43) (.agg (c3 (((x_2).a) * ((x_1).a)))) (by rfl) (by kernel_rfl) (by kernel_rfl) (by kernel_rfl) (by rfl) (by kernel_rfl) (List.Sublist.refl _) (by rfl) (by rfl) (by rfl) (gives_call (vl := [.agg (c3 ((x_2).a)), .agg (c3 ((x_1).a))]) (by kernel_rfl) (by rfl) (fun w h => t_cmul _ _ w (hG.keep h.below))) ?_
    refine flow_take_g (i := 13) (dj := 43) (.bool false) (by rfl) (by kernel_rfl) (by kernel_rfl) (by kernel_rfl) (by rfl) (by kernel_rfl) (List.Sublist.refl _) (by rfl) (by rfl) (by rfl) (gives_neq (c3 (((x_1).a) * ((x_2).a))) (c3 (((x_2).a) * ((x_1).a))) true (by rfl) (by rfl) (by kernel_rfl) (fun w => eq_3_t (d := 9995) w (C3.cr.mul_comm _ _))) ?_
    refine flow_take (i := 14) (.bool false) (by rfl) (by kernel_rfl) (by kernel_rfl) (by kernel_rfl) (by rfl) (by kernel_rfl) (List.Sublist.refl _) (gives_value _ fun _ => by rfl) ?_
    refine flow_take (i := 15) (.bool false) (by rfl) (by kernel_rfl) (by kernel_rfl) (by kernel_rfl) (by rfl) (by kernel_rfl) (List.Sublist.refl _) (gives_value _ fun _ => by rfl) ?_
    refine flow_take_g (i := 16) (dj := 52) (.agg (c3 ((x_1).a))) (by rfl) (by kernel_rfl) (by kernel_rfl) (by kernel_rfl) (by rfl) (by kernel_rfl) (List.Sublist.refl _) (by rfl) (by rfl) (by rfl) (gives_load g5 0 49 (c3 ((x_1).a)) (c3 ((x_1).a)) _ (by rfl) (fun _ h => h.blk 2 (by rfl)) (Sl.refl _) Tryd.underlying49 (by rfl) (hi_3 _)) ?_
    refine flow_take_g (i := 17) (dj := 52) (.agg (c3 (C3.shift ((x_1).a)))) (by rfl) (by kernel_rfl) (by kernel_rfl) (by kernel_rfl) (by rfl) (by kernel_rfl) (List.Sublist.refl _) (by rfl) (by rfl) (by rfl) (gives_call (vl := [.agg (c3 ((x_1).a))]) (by kernel_rfl) (by rfl) (fun w h => t_shift _ w (hG.keep h.below))) ?_
    refine flow_take_g (i := 18) (dj := 52) (.agg (c3 ((x_1).a))) (by rfl) (by kernel_rfl) (by kernel_rfl) (by kernel_rfl) (by rfl) (by kernel_rfl) (List.Sublist.refl _) (by rfl) (by rfl) (by rfl) (gives_load g5 0 49 (c3 ((x_1).a)) (c3 ((x_1).a)) _ (by rfl) (fun _ h => h.blk 2 (by rfl)) (Sl.refl _) Tryd.underlying49 (by rfl) (hi_3 _)) ?_
    refine flow_take_g (i := 19) (dj := 52) (.agg (c2 (k0))) (by rfl) (by kernel_rfl) (by kernel_rfl) (by kernel_rfl) (by rfl) (by kernel_rfl) (List.Sublist.refl _) (by rfl) (by rfl) (by rfl) (gives_call (vl := [.int .u64 1, .int .u64 0]) (by kernel_rfl) (by rfl) (fun w h => by rw [hk0]; exact q_small _ _ w (hG.keep h.below) (by omega) (by simp only [Wd]; omega) (by omega) (by simp only [Wd]; omega))) ?_
    refine flow_take_g (i := 20) (dj := 52) (.agg (c3 (⟨(0 : F2), k0, (0 : F2)⟩ : C3))) (by rfl) (by kernel_rfl) (by kernel_rfl) (by kernel_rfl) (by rfl) (by kernel_rfl) (List.Sublist.refl _) (by rfl) (by rfl) (by rfl) (gb_cubic [(1, (c2 (k0)))] ⟨congrArg some (c2_size _).symm, trivial⟩ (by rfl) (c3 (⟨(0 : F2), k0, (0 : F2)⟩ : C3)) (by rfl)) ?_
    refine flow_take_g (i := 21) (dj := 52) (.agg (c3 (((x_1).a) * (⟨(0 : F2), k0, (0 : F2)⟩ : C3)))) (by rfl) (by kernel_rfl) (by kernel_rfl) (by kernel_rfl) (by rfl) (by kernel_rfl) (List.Sublist.refl _) (by rfl) (by rfl) (by rfl) (gives_call (vl := [.agg (c3 ((x_1).a)), .agg (c3 (⟨(0 : F2), k0, (0 : F2)⟩ : C3))]) (by kernel_rfl) (by rfl) (fun w h => t_cmul _ _ w (hG.keep h.below))) ?_
    refine flow_take_g (i := 22) (dj := 52) (.bool false) (by rfl) (by kernel_rfl) (by kernel_rfl) (by kernel_rfl) (by rfl) (by kernel_rfl) (List.Sublist.refl _) (by rfl) (by rfl) (by rfl) (gives_neq (c3 (C3.shift ((x_1).a))) (c3 (((x_1).a) * (⟨(0 : F2), k0, (0 : F2)⟩ : C3))) true (by rfl) (by rfl) (by kernel_rfl) (fun w => eq_3_t (d := 9995) w (shift_small _ hk0))) ?_
    refine flow_take (i := 23) (.bool false) (by rfl) (by kernel_rfl) (by kernel_rfl) (by kernel_rfl) (by rfl) (by kernel_rfl) (List.Sublist.refl _) (gives_value _ fun _ => by rfl) ?_
    refine flow_done (by kernel_rfl) ?_
    intro w9 hw9
    refine wp_cond_false (fr_at _ _ (by rfl) _) ?_
    refine wp_skip ?_
    change Code.wp _ _ _ _ _
    refine wp_seq ?_
    refine seq_flow (by kernel_rfl) hw9 [] [(g7, 51, (c12 ((⟨(x_1).a, (0 : C3)⟩ : T12) * (⟨(x_2).a, (0 : C3)⟩ : T12)))), (g6, 49, (c3 ((x_2).a))), (g5, 49, (c3 ((x_1).a))), (g4, 51, (c12 (x_2))), (g3, 47, u_2), (g2, 51, (c12 (x_1))), (g1, 47, u_1)] 25 (by rfl) ?_
    refine flow_take (i := 0) (.agg (c3 ((x_1).a))) (by rfl) (by kernel_rfl) (by kernel_rfl) (by kernel_rfl) (by rfl) (by kernel_rfl) (List.Sublist.refl _) (gives_load g5 0 49 (c3 ((x_1).a)) (c3 ((x_1).a)) _ (by rfl) (fun _ h => h.blk 2 (by rfl)) (Sl.refl _) Tryd.underlying49 (by rfl) (hi_3 _)) ?_
    refine flow_take (i := 1) (.agg (c3 ((x_2).a))) (by rfl) (by kernel_rfl) (by kernel_rfl) (by kernel_rfl) (by rfl) (by kernel_rfl) (List.Sublist.refl _) (gives_load g6 0 49 (c3 ((x_2).a)) (c3 ((x_2).a)) _ (by rfl) (fun _ h => h.blk 1 (by rfl)) (Sl.refl _) Tryd.underlying49 (by rfl) (hi_3 _)) ?_
    refine flow_take (i := 2) (.agg (c3 (((x_1).a) + ((x_2).a)))) (by rfl) (by kernel_rfl) (by kernel_rfl) (by kernel_rfl) (by rfl) (by kernel_rfl) (List.Sublist.refl _) (gives_call (vl := [.agg (c3 ((x_1).a)), .agg (c3 ((x_2).a))]) (by kernel_rfl) (by rfl) (fun w h => t_cadd _ _ w (hG.keep h.below))) ?_
    refine flow_take (i := 3) (.agg (c3 ((x_2).a))) (by rfl) (by kernel_rfl) (by kernel_rfl) (by kernel_rfl) (by rfl) (by kernel_rfl) (List.Sublist.refl _) (gives_load g6 0 49 (c3 ((x_2).a)) (c3 ((x_2).a)) _ (by rfl) (fun _ h => h.blk 1 (by rfl)) (Sl.refl _) Tryd.underlying49 (by rfl) (hi_3 _)) ?_
    refine flow_take (i := 4) (.agg (c3 ((((x_1).a) + ((x_2).a)) - ((x_2).a)))) (by rfl) (by kernel_rfl) (by kernel_rfl) (by kernel_rfl) (by rfl) (by kernel_rfl) (List.Sublist.refl _) (gives_call (vl := [.agg (c3 (((x_1).a) + ((x_2).a))), .agg (c3 ((x_2).a))]) (by kernel_rfl) (by rfl) (fun w h => t_csub _ _ w (hG.keep h.below))) ?_
    refine flow_take (i := 5) (.agg (c3 ((x_1).a))) (by rfl) (by kernel_rfl) (by kernel_rfl) (by kernel_rfl) (by rfl) (by kernel_rfl) (List.Sublist.refl _) (gives_load g5 0 49 (c3 ((x_1).a)) (c3 ((x_1).a)) _ (by rfl) (fun _ h => h.blk 2 (by rfl)) (Sl.refl _) Tryd.underlying49 (by rfl) (hi_3 _)) ?_
    refine flow_take (i := 6) (.bool false) (by rfl) (by kernel_rfl) (by kernel_rfl) (by kernel_rfl) (by rfl) (by kernel_rfl) (List.Sublist.refl _) (gives_neq (c3 ((((x_1).a) + ((x_2).a)) - ((x_2).a))) (c3 ((x_1).a)) true (by rfl) (by rfl) (by kernel_rfl) (fun w => eq_3_t (d := 9995) w (C3.add_sub _ _))) ?_
    refine flow_take (i := 7) (.bool false) (by rfl) (by kernel_rfl) (by kernel_rfl) (by kernel_rfl) (by rfl) (by kernel_rfl) (List.Sublist.refl _) (gives_value _ fun _ => by rfl) ?_
    refine flow_take_g (i := 8) (dj := 68) (.agg (c3 ((x_1).a))) (by rfl) (by kernel_rfl) (by kernel_rfl) (by kernel_rfl) (by rfl) (by kernel_rfl) (List.Sublist.refl _) (by rfl) (by rfl) (by rfl) (gives_load g5 0 49 (c3 ((x_1).a)) (c3 ((x_1).a)) _ (by rfl) (fun _ h => h.blk 2 (by rfl)) (Sl.refl _) Tryd.underlying49 (by rfl) (hi_3 _)) ?_
    refine flow_take_g (i := 9) (dj := 68) (.agg (c3 ((x_2).a))) (by rfl) (by kernel_rfl) (by kernel_rfl) (by kernel_rfl) (by rfl) (by kernel_rfl) (List.Sublist.refl _) (by rfl) (by rfl) (by rfl) (gives_load g6 0 49 (c3 ((x_2).a)) (c3 ((x_2).a)) _ (by rfl) (fun _ h => h.blk 1 (by rfl)) (Sl.refl _) Tryd.underlying49 (by rfl) (hi_3 _)) ?_
    refine flow_take_g (i := 10) (dj := 68) (.agg (c3 (((x_1).a) + ((x_2).a)))) (by rfl) (by kernel_rfl) (by kernel_rfl) (by kernel_rfl) (by rfl) (by kernel_rfl) (List.Sublist.refl _) (by rfl) (by rfl) (by rfl) (gives_call (vl := [.agg (c3 ((x_1).a)), .agg (c3 ((x_2).a))]) (by kernel_rfl) (by rfl) (fun w h => t_cadd _ _ w (hG.keep h.below))) ?_
    refine flow_take_g (i := 11) (dj := 68) (.pointer (some ⟨g2, 36, none⟩)) (by rfl) (by kernel_rfl) (by kernel_rfl) (by kernel_rfl) (by rfl) (by kernel_rfl) (List.Sublist.refl _) (by rfl) (by rfl) (by rfl) (gives_value _ fun _ => by kernel_rfl) ?_
    refine flow_take_g (i := 12) (dj := 68) (.agg (c3 ((x_1).b))) (by rfl) (by kernel_rfl) (by kernel_rfl) (by kernel_rfl) (by rfl) (by kernel_rfl) (List.Sublist.refl _) (by rfl) (by rfl) (by rfl) (gives_load g2 36 51 (c12 (x_1)) (c3 ((x_1).b)) _ (by rfl) (fun _ h => h.blk 5 (by rfl)) (sl_12b (x_1) _ _ 36 (Sl.refl _) (by rfl)) Tryd.underlying49 (by rfl) (hi_3 _)) ?_
    refine flow_take_g (i := 13) (dj := 68) (.agg (c3 ((((x_1).a) + ((x_2).a)) * ((x_1).b)))) (by rfl) (by kernel_rfl) (by kernel_rfl) (by kernel_rfl) (by rfl) (by kernel_rfl) (List.Sublist.refl _) (by rfl) (by rfl) (by rfl) (gives_call (vl := [.agg (c3 (((x_1).a) + ((x_2).a))), .agg (c3 ((x_1).b))]) (by kernel_rfl) (by rfl) (fun w h => t_cmul _ _ w (hG.keep h.below))) ?_
    refine flow_take_g (i := 14) (dj := 68) (.agg (c3 ((x_1).a))) (by rfl) (by kernel_rfl) (by kernel_rfl) (by kernel_rfl) (by rfl) (by kernel_rfl) (List.Sublist.refl _) (by rfl) (by rfl) (by rfl) (gives_load g5 0 49 (c3 ((x_1).a)) (c3 ((x_1).a)) _ (by rfl) (fun _ h => h.blk 2 (by rfl)) (Sl.refl _) Tryd.underlying49 (by rfl) (hi_3 _)) ?_
    refine flow_take_g (i := 15) (dj := 68) (.pointer (some ⟨g2, 36, none⟩)) (by rfl) (by kernel_rfl) (by kernel_rfl) (by kernel_rfl) (by rfl) (by kernel_rfl) (List.Sublist.refl _) (by rfl) (by rfl) (by rfl) (gives_value _ fun _ => by kernel_rfl) ?_
    refine flow_take_g (i := 16) (dj := 68) (.agg (c3 ((x_1).b))) (by rfl) (by kernel_rfl) (by kernel_rfl) (by kernel_rfl) (by rfl) (by kernel_rfl) (List.Sublist.refl _) (by rfl) (by rfl) (by rfl) (gives_load g2 36 51 (c12 (x_1)) (c3 ((x_1).b)) _ (by rfl) (fun _ h => h.blk 5 (by rfl)) (sl_12b (x_1) _ _ 36 (Sl.refl _) (by rfl)) Tryd.underlying49 (by rfl) (hi_3 _)) ?_
    refine flow_take_g (i := 17) (dj := 68) (.agg (c3 (((x_1).a) * ((x_1).b)))) (by rfl) (by kernel_rfl) (by kernel_rfl) (by kernel_rfl) (by rfl) (by kernel_rfl) (List.Sublist.refl _) (by rfl) (by rfl) (by rfl) (gives_call (vl := [.agg (c3 ((x_1).a)), .agg (c3 ((x_1).b))]) (by kernel_rfl) (by rfl) (fun w h => t_cmul _ _ w (hG.keep h.below))) ?_
    refine flow_take_g (i := 18) (dj := 68) (.agg (c3 ((x_2).a))) (by rfl) (by kernel_rfl) (by kernel_rfl) (by kernel_rfl) (by rfl) (by kernel_rfl) (List.Sublist.refl _) (by rfl) (by rfl) (by rfl) (gives_load g6 0 49 (c3 ((x_2).a)) (c3 ((x_2).a)) _ (by rfl) (fun _ h => h.blk 1 (by rfl)) (Sl.refl _) Tryd.underlying49 (by rfl) (hi_3 _)) ?_
    refine flow_take_g (i := 19) (dj := 68) (.pointer (some ⟨g2, 36, none⟩)) (by rfl) (by kernel_rfl) (by kernel_rfl) (by kernel_rfl) (by rfl) (by kernel_rfl) (List.Sublist.refl _) (by rfl) (by rfl) (by rfl) (gives_value _ fun _ => by kernel_rfl) ?_
    refine flow_take_g (i := 20) (dj := 68) (.agg (c3 ((x_1).b))) (by rfl) (by kernel_rfl) (by kernel_rfl) (by kernel_rfl) (by rfl) (by kernel_rfl) (List.Sublist.refl _) (by rfl) (by rfl) (by rfl) (gives_load g2 36 51 (c12 (x_1)) (c3 ((x_1).b)) _ (by rfl) (fun _ h => h.blk 5 (by rfl)) (sl_12b (x_1) _ _ 36 (Sl.refl _) (by rfl)) Tryd.underlying49 (by rfl) (hi_3 _)) ?_
    refine flow_take_g (i := 21) (dj := 68) (.agg (c3 (((x_2).a) * ((x_1).b)))) (by rfl) (by kernel_rfl) (by kernel_rfl) (by kernel_rfl) (by rfl) (by kernel_rfl) (List.Sublist.refl _) (by rfl) (by rfl) (by rfl) (gives_call (vl := [.agg (c3 ((x_2).a)), .agg (c3 ((x_1).b))]) (by kernel_rfl) (by rfl) (fun w h => t_cmul _ _ w (hG.keep h.below))) ?_
    refine flow_take_g (i := 22) (dj := 68) (.agg (c3 ((((x_1).a) * ((x_1).b)) + (((x_2).a) * ((x_1).b))))) (by rfl) (by kernel_rfl) (by kernel_rfl) (by kernel_rfl) (by rfl) (by kernel_rfl) (List.Sublist.refl _) (by rfl) (by rfl) (by rfl) (gives_call (vl := [.agg (c3 (((x_1).a) * ((x_1).b))), .agg (c3 (((x_2).a) * ((x_1).b)))]) (by kernel_rfl) (by rfl) (fun w h => t_cadd _ _ w (hG.keep h.below))) ?_
    refine flow_take_g (i := 23) (dj := 68) (.bool false) (by rfl) (by kernel_rfl) (by kernel_rfl) (by kernel_rfl) (by rfl) (by kernel_rfl) (List.Sublist.refl _) (by rfl) (by rfl) (by rfl) (gives_neq (c3 ((((x_1).a) + ((x_2).a)) * ((x_1).b))) (c3 ((((x_1).a) * ((x_1).b)) + (((x_2).a) * ((x_1).b)))) true (by rfl) (by rfl) (by kernel_rfl) (fun w => eq_3_t (d := 9995) w (C3.cr.add_mul _ _ _))) ?_
    refine flow_take (i := 24) (.bool false) (by rfl) (by kernel_rfl) (by kernel_rfl) (by kernel_rfl) (by rfl) (by kernel_rfl) (List.Sublist.refl _) (gives_value _ fun _ => by rfl) ?_
    refine flow_done (by kernel_rfl) ?_
    intro w10 hw10
    refine wp_cond_false (fr_at _ _ (by rfl) _) ?_
    refine wp_skip ?_
    change Code.wp _ _ _ _ _
    refine seq_plain hw10 [0, 1, 2, 3] (by rfl) ?_
    refine L_val (.agg (c2 (k0))) (by rfl) (by rfl) (gives_call (vl := [.int .u64 1, .int .u64 0]) (by kernel_rfl) (by rfl) (fun w h => by rw [hk0]; exact q_small _ _ w (hG.keep h.below) (by omega) (by simp only [Wd]; omega) (by omega) (by simp only [Wd]; omega))) ?_
    refine L_val (.agg (c3 (⟨k0, (0 : F2), (0 : F2)⟩ : C3))) (by rfl) (by rfl) (gb_cubic [(0, (c2 (k0)))] ⟨congrArg some (c2_size _).symm, trivial⟩ (by rfl) (c3 (⟨k0, (0 : F2), (0 : F2)⟩ : C3)) (by rfl)) ?_
    refine L_alloc _ (by rfl) (by rfl) z_3 (c3 (0 : C3)) rfl ?_; intro g8
    refine L_store (t := 49) 0 g8 (c3 (0 : C3)) (c3 (⟨k0, (0 : F2), (0 : F2)⟩ : C3)) (by rfl) (by rfl) (by rfl) (by rfl) (by rfl) (hi_3 _) ((c3_size _).trans (c3_size _).symm) (c3_one _) ?_
    simp only [List.set_cons_zero, List.set_cons_succ]
    refine L_end ?_
    intro w11 hw11
    refine wp_seq ?_
    refine seq_plain hw11 [0, 1, 2] (by rfl) ?_
    refine L_val (.agg (c3 ((x_1).a))) (by rfl) (by rfl) (gives_load g5 0 49 (c3 ((x_1).a)) (c3 ((x_1).a)) _ (by rfl) (fun _ h => h.blk 3 (by rfl)) (Sl.refl _) Tryd.underlying49 (by rfl) (hi_3 _)) ?_
    refine L_val (.agg (c3 (0 : C3))) (by rfl) (by rfl) (gb_cubic [] trivial (by rfl) (c3 (0 : C3)) (by rfl)) ?_
    refine L_val (.bool true) (by rfl) (by rfl) (gives_eql (c3 ((x_1).a)) (c3 (0 : C3)) true (by rfl) (by rfl) (by kernel_rfl) (fun w => eq_3_t (d := 9995) w hz)) ?_
    refine L_end ?_
    intro w12 hw12
    refine wp_cond_true (fr_at _ _ (by rfl) _) ?_
    refine seq_flow (by kernel_rfl) hw12 [] [(g8, 49, (c3 (⟨k0, (0 : F2), (0 : F2)⟩ : C3))), (g7, 51, (c12 ((⟨(x_1).a, (0 : C3)⟩ : T12) * (⟨(x_2).a, (0 : C3)⟩ : T12)))), (g6, 49, (c3 ((x_2).a))), (g5, 49, (c3 ((x_1).a))), (g4, 51, (c12 (x_2))), (g3, 47, u_2), (g2, 51, (c12 (x_1))), (g1, 47, u_1)] 5 (by rfl) ?_
    refine flow_take (i := 0) (.agg (c3 ((x_1).a))) (by rfl) (by kernel_rfl) (by kernel_rfl) (by kernel_rfl) (by rfl) (by kernel_rfl) (List.Sublist.refl _) (gives_load g5 0 49 (c3 ((x_1).a)) (c3 ((x_1).a)) _ (by rfl) (fun _ h => h.blk 3 (by rfl)) (Sl.refl _) Tryd.underlying49 (by rfl) (hi_3 _)) ?_
    refine flow_take (i := 1) (.agg (c3 (C3.inv ((x_1).a)))) (by rfl) (by kernel_rfl) (by kernel_rfl) (by kernel_rfl) (by rfl) (by kernel_rfl) (List.Sublist.refl _) (gives_call (vl := [.agg (c3 ((x_1).a))]) (by kernel_rfl) (by rfl) (fun w h => t_cinv _ w (hG.keep h.below))) ?_
    refine flow_take (i := 2) (.agg (c3 ((x_1).a))) (by rfl) (by kernel_rfl) (by kernel_rfl) (by kernel_rfl) (by rfl) (by kernel_rfl) (List.Sublist.refl _) (gives_load g5 0 49 (c3 ((x_1).a)) (c3 ((x_1).a)) _ (by rfl) (fun _ h => h.blk 3 (by rfl)) (Sl.refl _) Tryd.underlying49 (by rfl) (hi_3 _)) ?_
    refine flow_take (i := 3) (.bool true) (by rfl) (by kernel_rfl) (by kernel_rfl) (by kernel_rfl) (by rfl) (by kernel_rfl) (List.Sublist.refl _) (gives_eql (c3 (C3.inv ((x_1).a))) (c3 ((x_1).a)) true (by rfl) (by rfl) (by kernel_rfl) (fun w => eq_3_t (d := 9995) w (by rw [hz]; exact C3.inv_zero))) ?_
    refine flow_take (i := 4) (.bool true) (by rfl) (by kernel_rfl) (by kernel_rfl) (by kernel_rfl) (by rfl) (by kernel_rfl) (List.Sublist.refl _) (gives_value _ fun _ => by rfl) ?_
    refine flow_done (by kernel_rfl) ?_
    intro w13 hw13
    refine wp_ret ?_
    change bodyPost _ _ _ Exit.ret _ _
    refine (ret_tmp (by rfl) (by rfl) (by rfl) ⟨rfl, hw13.below⟩)
  ·
    refine L_val (.tuple #[.agg u_1, .agg (c12 (x_1))]) (by rfl) (by rfl) (gives_value _ fun _ => by rfl) ?_
    refine L_val (.agg u_1) (by rfl) (by rfl) (gives_value _ fun _ => by kernel_rfl) ?_
    refine L_val (.agg (c12 (x_1))) (by rfl) (by rfl) (gives_value _ fun _ => by kernel_rfl) ?_
    refine L_alloc _ (by rfl) (by rfl) z_aN (joinA [#[.slice none 0 0, .slice none 0 0], #[.slice none 0 0, .slice none 0 0], #[.slice none 0 0, .slice none 0 0], #[.slice none 0 0, .slice none 0 0], #[.slice none 0 0, .slice none 0 0], #[.slice none 0 0, .slice none 0 0]]) rfl ?_; intro g1
    refine L_alloc _ (by rfl) (by rfl) z_12 (c12 (0 : T12)) rfl ?_; intro g2
    refine L_store (t := 47) 1 g1 (joinA [#[.slice none 0 0, .slice none 0 0], #[.slice none 0 0, .slice none 0 0], #[.slice none 0 0, .slice none 0 0], #[.slice none 0 0, .slice none 0 0], #[.slice none 0 0, .slice none 0 0], #[.slice none 0 0, .slice none 0 0]]) u_1 (by rfl) (by rfl) (by rfl) (by rfl) (by rfl) (hi_opN hu_1.1) ((joinC_size 2 _ (by simp)).trans hu_1.1.symm) hu_1.2 ?_
    simp only [List.set_cons_zero, List.set_cons_succ]
    refine L_store (t := 51) 0 g2 (c12 (0 : T12)) (c12 (x_1)) (by rfl) (by rfl) (by rfl) (by rfl) (by rfl) (hi_12 _) ((c12_size _).trans (c12_size _).symm) (c12_one _) ?_
    simp only [List.set_cons_zero, List.set_cons_succ]
    refine L_end ?_
    intro w4 hw4
    refine seq_plain hw4 [0, 1, 2, 3, 4, 5, 6, 7, 8] (by rfl) ?_
    refine L_val (.slice A1 L1 C1) (by rfl) (by rfl) (gives_value _ fun _ => by rfl) ?_
    refine L_callE (A := (Array Value)) (B := T12) (vl := [.slice A1 L1 C1]) (fun a b => .tuple #[.agg a, .agg (c12 b)]) (fun u _ => u.size = 12 ∧ u.all (·.oneCell') = true) (by rfl) (by rfl) Want.none (by kernel_rfl) (by rfl) (fun w h => number_any A1 L1 C1 bs1 w (hG.keep h.below) ((hr1.below h.below).more h.below.size) ho1 (by omega)) ?_; intro u_2 x_2 hu_2
    refine L_val (.tuple #[.agg u_2, .agg (c12 (x_2))]) (by rfl) (by rfl) (gives_value _ fun _ => by rfl) ?_
    refine L_val (.agg u_2) (by rfl) (by rfl) (gives_value _ fun _ => by kernel_rfl) ?_
    refine L_val (.agg (c12 (x_2))) (by rfl) (by rfl) (gives_value _ fun _ => by kernel_rfl) ?_
    refine L_alloc _ (by rfl) (by rfl) z_aN (joinA [#[.slice none 0 0, .slice none 0 0], #[.slice none 0 0, .slice none 0 0], #[.slice none 0 0, .slice none 0 0], #[.slice none 0 0, .slice none 0 0], #[.slice none 0 0, .slice none 0 0], #[.slice none 0 0, .slice none 0 0]]) rfl ?_; intro g3
    refine L_alloc _ (by rfl) (by rfl) z_12 (c12 (0 : T12)) rfl ?_; intro g4
    refine L_store (t := 47) 1 g3 (joinA [#[.slice none 0 0, .slice none 0 0], #[.slice none 0 0, .slice none 0 0], #[.slice none 0 0, .slice none 0 0], #[.slice none 0 0, .slice none 0 0], #[.slice none 0 0, .slice none 0 0], #[.slice none 0 0, .slice none 0 0]]) u_2 (by rfl) (by rfl) (by rfl) (by rfl) (by rfl) (hi_opN hu_2.1) ((joinC_size 2 _ (by simp)).trans hu_2.1.symm) hu_2.2 ?_
    simp only [List.set_cons_zero, List.set_cons_succ]
    refine L_store (t := 51) 0 g4 (c12 (0 : T12)) (c12 (x_2)) (by rfl) (by rfl) (by rfl) (by rfl) (by rfl) (hi_12 _) ((c12_size _).trans (c12_size _).symm) (c12_one _) ?_
    simp only [List.set_cons_zero, List.set_cons_succ]
    refine L_end ?_
    intro w5 hw5
    refine seq_plain hw5 [0, 1, 2, 3] (by rfl) ?_
    refine L_val (.pointer (some ⟨g2, 0, none⟩)) (by rfl) (by rfl) (gives_value _ fun _ => by kernel_rfl) ?_
    refine L_val (.agg (c3 ((x_1).a))) (by rfl) (by rfl) (gives_load g2 0 51 (c12 (x_1)) (c3 ((x_1).a)) _ (by rfl) (fun _ h => h.blk 2 (by rfl)) (sl_12a (x_1) _ _ (Sl.refl _)) Tryd.underlying49 (by rfl) (hi_3 _)) ?_
    refine L_alloc _ (by rfl) (by rfl) z_3 (c3 (0 : C3)) rfl ?_; intro g5
    refine L_store (t := 49) 0 g5 (c3 (0 : C3)) (c3 ((x_1).a)) (by rfl) (by rfl) (by rfl) (by rfl) (by rfl) (hi_3 _) ((c3_size _).trans (c3_size _).symm) (c3_one _) ?_
    simp only [List.set_cons_zero, List.set_cons_succ]
    refine L_end ?_
    intro w6 hw6
    refine seq_plain hw6 [0, 1, 2, 3] (by rfl) ?_
    refine L_val (.pointer (some ⟨g4, 0, none⟩)) (by rfl) (by rfl) (gives_value _ fun _ => by kernel_rfl) ?_
    refine L_val (.agg (c3 ((x_2).a))) (by rfl) (by rfl) (gives_load g4 0 51 (c12 (x_2)) (c3 ((x_2).a)) _ (by rfl) (fun _ h => h.blk 1 (by rfl)) (sl_12a (x_2) _ _ (Sl.refl _)) Tryd.underlying49 (by rfl) (hi_3 _)) ?_
    refine L_alloc _ (by rfl) (by rfl) z_3 (c3 (0 : C3)) rfl ?_; intro g6
    refine L_store (t := 49) 0 g6 (c3 (0 : C3)) (c3 ((x_2).a)) (by rfl) (by rfl) (by rfl) (by rfl) (by rfl) (hi_3 _) ((c3_size _).trans (c3_size _).symm) (c3_one _) ?_
    simp only [List.set_cons_zero, List.set_cons_succ]
    refine L_end ?_
    intro w7 hw7
    refine seq_plain hw7 [0, 1, 2, 3, 4, 5, 6] (by rfl) ?_
    refine L_val (.agg (c3 ((x_1).a))) (by rfl) (by rfl) (gives_load g5 0 49 (c3 ((x_1).a)) (c3 ((x_1).a)) _ (by rfl) (fun _ h => h.blk 1 (by rfl)) (Sl.refl _) Tryd.underlying49 (by rfl) (hi_3 _)) ?_
    refine L_val (.agg (c12 (⟨(x_1).a, (0 : C3)⟩ : T12))) (by rfl) (by rfl) (gb_tower [(0, (c3 ((x_1).a)))] ⟨congrArg some (c3_size _).symm, trivial⟩ (by rfl) (c12 (⟨(x_1).a, (0 : C3)⟩ : T12)) (by rfl)) ?_
    refine L_val (.agg (c3 ((x_2).a))) (by rfl) (by rfl) (gives_load g6 0 49 (c3 ((x_2).a)) (c3 ((x_2).a)) _ (by rfl) (fun _ h => h.blk 0 (by rfl)) (Sl.refl _) Tryd.underlying49 (by rfl) (hi_3 _)) ?_
    refine L_val (.agg (c12 (⟨(x_2).a, (0 : C3)⟩ : T12))) (by rfl) (by rfl) (gb_tower [(0, (c3 ((x_2).a)))] ⟨congrArg some (c3_size _).symm, trivial⟩ (by rfl) (c12 (⟨(x_2).a, (0 : C3)⟩ : T12)) (by rfl)) ?_
    refine L_val (.agg (c12 ((⟨(x_1).a, (0 : C3)⟩ : T12) * (⟨(x_2).a, (0 : C3)⟩ : T12)))) (by rfl) (by rfl) (gives_call (vl := [.agg (c12 (⟨(x_1).a, (0 : C3)⟩ : T12)), .agg (c12 (⟨(x_2).a, (0 : C3)⟩ : T12))]) (by kernel_rfl) (by rfl) (fun w h => t_mul _ _ w (hG.keep h.below))) ?_
    refine L_alloc _ (by rfl) (by rfl) z_12 (c12 (0 : T12)) rfl ?_; intro g7
    refine L_store (t := 51) 0 g7 (c12 (0 : T12)) (c12 ((⟨(x_1).a, (0 : C3)⟩ : T12) * (⟨(x_2).a, (0 : C3)⟩ : T12))) (by rfl) (by rfl) (by rfl) (by rfl) (by rfl) (hi_12 _) ((c12_size _).trans (c12_size _).symm) (c12_one _) ?_
    simp only [List.set_cons_zero, List.set_cons_succ]
    refine L_end ?_
    intro w8 hw8
    refine wp_seq ?_
    refine seq_flow (by kernel_rfl) hw8 [] [(g7, 51, (c12 ((⟨(x_1).a, (0 : C3)⟩ : T12) * (⟨(x_2).a, (0 : C3)⟩ : T12)))), (g6, 49, (c3 ((x_2).a))), (g5, 49, (c3 ((x_1).a))), (g4, 51, (c12 (x_2))), (g3, 47, u_2), (g2, 51, (c12 (x_1))), (g1, 47, u_1)] 24 (by rfl) ?_
    refine flow_take (i := 0) (.agg (c12 ((⟨(x_1).a, (0 : C3)⟩ : T12) * (⟨(x_2).a, (0 : C3)⟩ : T12)))) (by rfl) (by kernel_rfl) (by kernel_rfl) (by kernel_rfl) (by rfl) (by kernel_rfl) (List.Sublist.refl _) (gives_load g7 0 51 (c12 ((⟨(x_1).a, (0 : C3)⟩ : T12) * (⟨(x_2).a, (0 : C3)⟩ : T12))) (c12 ((⟨(x_1).a, (0 : C3)⟩ : T12) * (⟨(x_2).a, (0 : C3)⟩ : T12))) _ (by rfl) (fun _ h => h.blk 0 (by rfl)) (Sl.refl _) Tryd.underlying51 (by rfl) (hi_12 _)) ?_
    refine flow_take (i := 1) (.agg (c3 ((x_1).a))) (by rfl) (by kernel_rfl) (by kernel_rfl) (by kernel_rfl) (by rfl) (by kernel_rfl) (List.Sublist.refl _) (gives_load g5 0 49 (c3 ((x_1).a)) (c3 ((x_1).a)) _ (by rfl) (fun _ h => h.blk 2 (by rfl)) (Sl.refl _) Tryd.underlying49 (by rfl) (hi_3 _)) ?_
    refine flow_take (i := 2) (.agg (c3 ((x_2).a))) (by rfl) (by kernel_rfl) (by kernel_rfl) (by kernel_rfl) (by rfl) (by kernel_rfl) (List.Sublist.refl _) (gives_load g6 0 49 (c3 ((x_2).a)) (c3 ((x_2).a)) _ (by rfl) (fun _ h => h.blk 1 (by rfl)) (Sl.refl _) Tryd.underlying49 (by rfl) (hi_3 _)) ?_
    refine flow_take (i := 3) (.agg (c3 (((x_1).a) * ((x_2).a)))) (by rfl) (by kernel_rfl) (by kernel_rfl) (by kernel_rfl) (by rfl) (by kernel_rfl) (List.Sublist.refl _) (gives_call (vl := [.agg (c3 ((x_1).a)), .agg (c3 ((x_2).a))]) (by kernel_rfl) (by rfl) (fun w h => t_cmul _ _ w (hG.keep h.below))) ?_
    refine flow_take (i := 4) (.agg (c12 (⟨((x_1).a) * ((x_2).a), (0 : C3)⟩ : T12))) (by rfl) (by kernel_rfl) (by kernel_rfl) (by kernel_rfl) (by rfl) (by kernel_rfl) (List.Sublist.refl _) (gb_tower [(0, (c3 (((x_1).a) * ((x_2).a))))] ⟨congrArg some (c3_size _).symm, trivial⟩ (by rfl) (c12 (⟨((x_1).a) * ((x_2).a), (0 : C3)⟩ : T12)) (by rfl)) ?_
    refine flow_take (i := 5) (.bool false) (by rfl) (by kernel_rfl) (by kernel_rfl) (by kernel_rfl) (by rfl) (by kernel_rfl) (List.Sublist.refl _) (gives_neq (c12 ((⟨(x_1).a, (0 : C3)⟩ : T12) * (⟨(x_2).a, (0 : C3)⟩ : T12))) (c12 (⟨((x_1).a) * ((x_2).a), (0 : C3)⟩ : T12)) true (by rfl) (by rfl) (by kernel_rfl) (fun w => eq_12_t (d := 9994) w (T12.of_mul _ _).symm)) ?_
    refine flow_take (i := 6) (.bool false) (by rfl) (by kernel_rfl) (by kernel_rfl) (by kernel_rfl) (by rfl) (by kernel_rfl) (List.Sublist.refl _) (gives_value _ fun _ => by rfl) ?_
    refine flow_take_g (i := 7) (dj := 43) (.agg (c3 ((x_1).a))) (by rfl) (by kernel_rfl) (by kernel_rfl) (by kernel_rfl) (by rfl) (by kernel_rfl) (List.Sublist.refl _) (by rfl) (by rfl) (by rfl) (gives_load g5 0 49 (c3 ((x_1).a)) (c3 ((x_1).a)) _ (by rfl) (fun _ h => h.blk 2 (by rfl)) (Sl.refl _) Tryd.underlying49 (by rfl) (hi_3 _)) ?_
    refine flow_take_g (i := 8) (dj := 43) (.agg (c3 ((x_2).a))) (by rfl) (by kernel_rfl) (by kernel_rfl) (by kernel_rfl) (by rfl) (by kernel_rfl) (List.Sublist.refl _) (by rfl) (by rfl) (by rfl) (gives_load g6 0 49 (c3 ((x_2).a)) (c3 ((x_2).a)) _ (by rfl) (fun _ h => h.blk 1 (by rfl)) (Sl.refl _) Tryd.underlying49 (by rfl) (hi_3 _)) ?_
    refine flow_take_g (i := 9) (dj := 43) (.agg (c3 (((x_1).a) * ((x_2).a)))) (by rfl) (by kernel_rfl) (by kernel_rfl) (by kernel_rfl) (by rfl) (by kernel_rfl) (List.Sublist.refl _) (by rfl) (by rfl) (by rfl) (gives_call (vl := [.agg (c3 ((x_1).a)), .agg (c3 ((x_2).a))]) (by kernel_rfl) (by rfl) (fun w h => t_cmul _ _ w (hG.keep h.below))) ?_
    refine flow_take_g (i := 10) (dj := 43) (.agg (c3 ((x_2).a))) (by rfl) (by kernel_rfl) (by kernel_rfl) (by kernel_rfl) (by rfl) (by kernel_rfl) (List.Sublist.refl _) (by rfl) (by rfl) (by rfl) (gives_load g6 0 49 (c3 ((x_2).a)) (c3 ((x_2).a)) _ (by rfl) (fun _ h => h.blk 1 (by rfl)) (Sl.refl _) Tryd.underlying49 (by rfl) (hi_3 _)) ?_
    refine flow_take_g (i := 11) (dj := 43) (.agg (c3 ((x_1).a))) (by rfl) (by kernel_rfl) (by kernel_rfl) (by kernel_rfl) (by rfl) (by kernel_rfl) (List.Sublist.refl _) (by rfl) (by rfl) (by rfl) (gives_load g5 0 49 (c3 ((x_1).a)) (c3 ((x_1).a)) _ (by rfl) (fun _ h => h.blk 2 (by rfl)) (Sl.refl _) Tryd.underlying49 (by rfl) (hi_3 _)) ?_
    refine flow_take_g (i := 12) (dj := 43) (.agg (c3 (((x_2).a) * ((x_1).a)))) (by rfl) (by kernel_rfl) (by kernel_rfl) (by kernel_rfl) (by rfl) (by kernel_rfl) (List.Sublist.refl _) (by rfl) (by rfl) (by rfl) (gives_call (vl := [.agg (c3 ((x_2).a)), .agg (c3 ((x_1).a))]) (by kernel_rfl) (by rfl) (fun w h => t_cmul _ _ w (hG.keep h.below))) ?_
    refine flow_take_g (i := 13) (dj := 43) (.bool false) (by rfl) (by kernel_rfl) (by kernel_rfl) (by kernel_rfl) (by rfl) (by kernel_rfl) (List.Sublist.refl _) (by rfl) (by rfl) (by rfl) (gives_neq (c3 (((x_1).a) * ((x_2).a))) (c3 (((x_2).a) * ((x_1).a))) true (by rfl) (by rfl) (by kernel_rfl) (fun w => eq_3_t (d := 9995) w (C3.cr.mul_comm _ _))) ?_
    refine flow_take (i := 14) (.bool false) (by rfl) (by kernel_rfl) (by kernel_rfl) (by kernel_rfl) (by rfl) (by kernel_rfl) (List.Sublist.refl _) (gives_value _ fun _ => by rfl) ?_
    refine flow_take (i := 15) (.bool false) (by rfl) (by kernel_rfl) (by kernel_rfl) (by kernel_rfl) (by rfl) (by kernel_rfl) (List.Sublist.refl _) (gives_value _ fun _ => by rfl) ?_
    refine flow_take_g (i := 16) (dj := 52) (.agg (c3 ((x_1).a))) (by rfl) (by kernel_rfl) (by kernel_rfl) (by kernel_rfl) (by rfl) (by kernel_rfl) (List.Sublist.refl _) (by rfl) (by rfl) (by rfl) (gives_load g5 0 49 (c3 ((x_1).a)) (c3 ((x_1).a)) _ (by rfl) (fun _ h => h.blk 2 (by rfl)) (Sl.refl _) Tryd.underlying49 (by rfl) (hi_3 _)) ?_
    refine flow_take_g (i := 17) (dj := 52) (.agg (c3 (C3.shift ((x_1).a)))) (by rfl) (by kernel_rfl) (by kernel_rfl) (by kernel_rfl) (by rfl) (by kernel_rfl) (List.Sublist.refl _) (by rfl) (by rfl) (by rfl) (gives_call (vl := [.agg (c3 ((x_1).a))]) (by kernel_rfl) (by rfl) (fun w h => t_shift _ w (hG.keep h.below))) ?_
    refine flow_take_g (i := 18) (dj := 52) (.agg (c3 ((x_1).a))) (by rfl) (by kernel_rfl) (by kernel_rfl) (by kernel_rfl) (by rfl) (by kernel_rfl) (List.Sublist.refl _) (by rfl) (by rfl) (by rfl) (gives_load g5 0 49 (c3 ((x_1).a)) (c3 ((x_1).a)) _ (by rfl) (fun _ h => h.blk 2 (by rfl)) (Sl.refl _) Tryd.underlying49 (by rfl) (hi_3 _)) ?_
    refine flow_take_g (i := 19) (dj := 52) (.agg (c2 (k0))) (by rfl) (by kernel_rfl) (by kernel_rfl) (by kernel_rfl) (by rfl) (by kernel_rfl) (List.Sublist.refl _) (by rfl) (by rfl) (by rfl) (gives_call (vl := [.int .u64 1, .int .u64 0]) (by kernel_rfl) (by rfl) (fun w h => by rw [hk0]; exact q_small _ _ w (hG.keep h.below) (by omega) (by simp only [Wd]; omega) (by omega) (by simp only [Wd]; omega))) ?_
    refine flow_take_g (i := 20) (dj := 52) (.agg (c3 (⟨(0 : F2), k0, (0 : F2)⟩ : C3))) (by rfl) (by kernel_rfl) (by kernel_rfl) (by kernel_rfl) (by rfl) (by kernel_rfl) (List.Sublist.refl _) (by rfl) (by rfl) (by rfl) (gb_cubic [(1, (c2 (k0)))] ⟨congrArg some (c2_size _).symm, trivial⟩ (by rfl) (c3 (⟨(0 : F2), k0, (0 : F2)⟩ : C3)) (by rfl)) ?_
    refine flow_take_g (i := 21) (dj := 52) (.agg (c3 (((x_1).a) * (⟨(0 : F2), k0, (0 : F2)⟩ : C3)))) (by rfl) (by kernel_rfl) (by kernel_rfl) (by kernel_rfl) (by rfl) (by kernel_rfl) (List.Sublist.refl _) (by rfl) (by rfl) (by rfl) (gives_call (vl := [.agg (c3 ((x_1).a)), .agg (c3 (⟨(0 : F2), k0, (0 : F2)⟩ : C3))]) (by kernel_rfl) (by rfl) (fun w h => t_cmul _ _ w (hG.keep h.below))) ?_
    refine flow_take_g (i := 22) (dj := 52) (.bool false) (by rfl) (by kernel_rfl) (by kernel_rfl) (by kernel_rfl) (by rfl) (by kernel_rfl) (List.Sublist.refl _) (by rfl) (by rfl) (by rfl) (gives_neq (c3 (C3.shift ((x_1).a))) (c3 (((x_1).a) * (⟨(0 : F2), k0, (0 : F2)⟩ : C3))) true (by rfl) (by rfl) (by kernel_rfl) (fun w => eq_3_t (d := 9995) w (shift_small _ hk0))) ?_
    refine flow_take (i := 23) (.bool false) (by rfl) (by kernel_rfl) (by kernel_rfl) (by kernel_rfl) (by rfl) (by kernel_rfl) (List.Sublist.refl _) (gives_value _ fun _ => by rfl) ?_
    refine flow_done (by kernel_rfl) ?_
    intro w9 hw9
    refine wp_cond_false (fr_at _ _ (by rfl) _) ?_
    refine wp_skip ?_
    change Code.wp _ _ _ _ _
    refine wp_seq ?_
    refine seq_flow (by kernel_rfl) hw9 [] [(g7, 51, (c12 ((⟨(x_1).a, (0 : C3)⟩ : T12) * (⟨(x_2).a, (0 : C3)⟩ : T12)))), (g6, 49, (c3 ((x_2).a))), (g5, 49, (c3 ((x_1).a))), (g4, 51, (c12 (x_2))), (g3, 47, u_2), (g2, 51, (c12 (x_1))), (g1, 47, u_1)] 25 (by rfl) ?_
    refine flow_take (i := 0) (.agg (c3 ((x_1).a))) (by rfl) (by kernel_rfl) (by kernel_rfl) (by kernel_rfl) (by rfl) (by kernel_rfl) (List.Sublist.refl _) (gives_load g5 0 49 (c3 ((x_1).a)) (c3 ((x_1).a)) _ (by rfl) (fun _ h => h.blk 2 (by rfl)) (Sl.refl _) Tryd.underlying49 (by rfl) (hi_3 _)) ?_
    refine flow_take (i := 1) (.agg (c3 ((x_2).a))) (by rfl) (by kernel_rfl) (by kernel_rfl) (by kernel_rfl) (by rfl) (by kernel_rfl) (List.Sublist.refl _) (gives_load g6 0 49 (c3 ((x_2).a)) (c3 ((x_2).a)) _ (by rfl) (fun _ h => h.blk 1 (by rfl)) (Sl.refl _) Tryd.underlying49 (by rfl) (hi_3 _)) ?_
    refine flow_take (i := 2) (.agg (c3 (((x_1).a) + ((x_2).a)))) (by rfl) (by kernel_rfl) (by kernel_rfl) (by kernel_rfl) (by rfl) (by kernel_rfl) (List.Sublist.refl _) (gives_call (vl := [.agg (c3 ((x_1).a)), .agg (c3 ((x_2).a))]) (by kernel_rfl) (by rfl) (fun w h => t_cadd _ _ w (hG.keep h.below))) ?_
    refine flow_take (i := 3) (.agg (c3 ((x_2).a))) (by rfl) (by kernel_rfl) (by kernel_rfl) (by kernel_rfl) (by rfl) (by kernel_rfl) (List.Sublist.refl _) (gives_load g6 0 49 (c3 ((x_2).a)) (c3 ((x_2).a)) _ (by rfl) (fun _ h => h.blk 1 (by rfl)) (Sl.refl _) Tryd.underlying49 (by rfl) (hi_3 _)) ?_
    refine flow_take (i := 4) (.agg (c3 ((((x_1).a) + ((x_2).a)) - ((x_2).a)))) (by rfl) (by kernel_rfl) (by kernel_rfl) (by kernel_rfl) (by rfl) (by kernel_rfl) (List.Sublist.refl _) (gives_call (vl := [.agg (c3 (((x_1).a) + ((x_2).a))), .agg (c3 ((x_2).a))]) (by kernel_rfl) (by rfl) (fun w h => t_csub _ _ w (hG.keep h.below))) ?_
    refine flow_take (i := 5) (.agg (c3 ((x_1).a))) (by rfl) (by kernel_rfl) (by kernel_rfl) (by kernel_rfl) (by rfl) (by kernel_rfl) (List.Sublist.refl _) (gives_load g5 0 49 (c3 ((x_1).a)) (c3 ((x_1).a)) _ (by rfl) (fun _ h => h.blk 2 (by rfl)) (Sl.refl _) Tryd.underlying49 (by rfl) (hi_3 _)) ?_
    refine flow_take (i := 6) (.bool false) (by rfl) (by kernel_rfl) (by kernel_rfl) (by kernel_rfl) (by rfl) (by kernel_rfl) (List.Sublist.refl _) (gives_neq (c3 ((((x_1).a) + ((x_2).a)) - ((x_2).a))) (c3 ((x_1).a)) true (by rfl) (by rfl) (by kernel_rfl) (fun w => eq_3_t (d := 9995) w (C3.add_sub _ _))) ?_
    refine flow_take (i := 7) (.bool false) (by rfl) (by kernel_rfl) (by kernel_rfl) (by kernel_rfl) (by rfl) (by kernel_rfl) (List.Sublist.refl _) (gives_value _ fun _ => by rfl) ?_
    refine flow_take_g (i := 8) (dj := 68) (.agg (c3 ((x_1).a))) (by rfl) (by kernel_rfl) (by kernel_rfl) (by kernel_rfl) (by rfl) (by kernel_rfl) (List.Sublist.refl _) (by rfl) (by rfl) (by rfl) (gives_load g5 0 49 (c3 ((x_1).a)) (c3 ((x_1).a)) _ (by rfl) (fun _ h => h.blk 2 (by rfl)) (Sl.refl _) Tryd.underlying49 (by rfl) (hi_3 _)) ?_
    refine flow_take_g (i := 9) (dj := 68) (.agg (c3 ((x_2).a))) (by rfl) (by kernel_rfl) (by kernel_rfl) (by kernel_rfl) (by rfl) (by kernel_rfl) (List.Sublist.refl _) (by rfl) (by rfl) (by rfl) (gives_load g6 0 49 (c3 ((x_2).a)) (c3 ((x_2).a)) _ (by rfl) (fun _ h => h.blk 1 (by rfl)) (Sl.refl _) Tryd.underlying49 (by rfl) (hi_3 _)) ?_
    refine flow_take_g (i := 10) (dj := 68) (.agg (c3 (((x_1).a) + ((x_2).a)))) (by rfl) (by kernel_rfl) (by kernel_rfl) (by kernel_rfl) (by rfl) (by kernel_rfl) (List.Sublist.refl _) (by rfl) (by rfl) (by rfl) (gives_call (vl := [.agg (c3 ((x_1).a)), .agg (c3 ((x_2).a))]) (by kernel_rfl) (by rfl) (fun w h => t_cadd _ _ w (hG.keep h.below))) ?_
    refine flow_take_g (i := 11) (dj := 68) (.pointer (some ⟨g2, 36, none⟩)) (by rfl) (by kernel_rfl) (by kernel_rfl) (by kernel_rfl) (by rfl) (by kernel_rfl) (List.Sublist.refl _) (by rfl) (by rfl) (by rfl) (gives_value _ fun _ => by kernel_rfl) ?_
    refine flow_take_g (i := 12) (dj := 68) (.agg (c3 ((x_1).b))) (by rfl) (by kernel_rfl) (by kernel_rfl) (by kernel_rfl) (by rfl) (by kernel_rfl) (List.Sublist.refl _) (by rfl) (by rfl) (by rfl) (gives_load g2 36 51 (c12 (x_1)) (c3 ((x_1).b)) _ (by rfl) (fun _ h => h.blk 5 (by rfl)) (sl_12b (x_1) _ _ 36 (Sl.refl _) (by rfl)) Tryd.underlying49 (by rfl) (hi_3 _)) ?_
    refine flow_take_g (i := 13) (dj := 68) (.agg (c3 ((((x_1).a) + ((x_2).a)) * ((x_1).b)))) (by rfl) (by kernel_rfl) (by kernel_rfl) (by kernel_rfl) (by rfl) (by kernel_rfl) (List.Sublist.refl _) (by rfl) (by rfl) (by rfl) (gives_call (vl := [.agg (c3 (((x_1).a) + ((x_2).a))), .agg (c3 ((x_1).b))]) (by kernel_rfl) (by rfl) (fun w h => t_cmul _ _ w (hG.keep h.below))) ?_
    refine flow_take_g (i := 14) (dj := 68) (.agg (c3 ((x_1).a))) (by rfl) (by kernel_rfl) (by kernel_rfl) (by kernel_rfl) (by rfl) (by kernel_rfl) (List.Sublist.refl _) (by rfl) (by rfl) (by rfl) (gives_load g5 0 49 (c3 ((x_1).a)) (c3 ((x_1).a)) _ (by rfl) (fun _ h => h.blk 2 (by rfl)) (Sl.refl _) Tryd.underlying49 (by rfl) (hi_3 _)) ?_
    refine flow_take_g (i := 15) (dj := 68) (.pointer (some ⟨g2, 36, none⟩)) (by rfl) (by kernel_rfl) (by kernel_rfl) (by kernel_rfl) (by rfl) (by kernel_rfl) (List.Sublist.refl _) (by rfl) (by rfl) (by rfl) (gives_value _ fun _ => by kernel_rfl) ?_
    refine flow_take_g (i := 16) (dj := 68) (.agg (c3 ((x_1).b))) (by rfl) (by kernel_rfl) (by kernel_rfl) (by kernel_rfl) (by rfl) (by kernel_rfl) (List.Sublist.refl _) (by rfl) (by rfl) (by rfl) (gives_load g2 36 51 (c12 (x_1)) (c3 ((x_1).b)) _ (by rfl) (fun _ h => h.blk 5 (by rfl)) (sl_12b (x_1) _ _ 36 (Sl.refl _) (by rfl)) Tryd.underlying49 (by rfl) (hi_3 _)) ?_
    refine flow_take_g (i := 17) (dj := 68) (.agg (c3 (((x_1).a) * ((x_1).b)))) (by rfl) (by kernel_rfl) (by kernel_rfl) (by kernel_rfl) (by rfl) (by kernel_rfl) (List.Sublist.refl _) (by rfl) (by rfl) (by rfl) (gives_call (vl := [.agg (c3 ((x_1).a)), .agg (c3 ((x_1).b))]) (by kernel_rfl) (by rfl) (fun w h => t_cmul _ _ w (hG.keep h.below))) ?_
    refine flow_take_g (i := 18) (dj := 68) (.agg (c3 ((x_2).a))) (by rfl) (by kernel_rfl) (by kernel_rfl) (by kernel_rfl) (by rfl) (by kernel_rfl) (List.Sublist.refl _) (by rfl) (by rfl) (by rfl) (gives_load g6 0 49 (c3 ((x_2).a)) (c3 ((x_2).a)) _ (by rfl) (fun _ h => h.blk 1 (by rfl)) (Sl.refl _) Tryd.underlying49 (by rfl) (hi_3 _)) ?_
    refine flow_take_g (i := 19) (dj := 68) (.pointer (some ⟨g2, 36, none⟩)) (by rfl) (by kernel_rfl) (by kernel_rfl) (by kernel_rfl) (by rfl) (by kernel_rfl) (List.Sublist.refl _) (by rfl) (by rfl) (by rfl) (gives_value _ fun _ => by kernel_rfl) ?_
    refine flow_take_g (i := 20) (dj := 68) (.agg (c3 ((x_1).b))) (by rfl) (by kernel_rfl) (by kernel_rfl) (by kernel_rfl) (by rfl) (by kernel_rfl) (List.Sublist.refl _) (by rfl) (by rfl) (by rfl) (gives_load g2 36 51 (c12 (x_1)) (c3 ((x_1).b)) _ (by rfl) (fun _ h => h.blk 5 (by rfl)) (sl_12b (x_1) _ _ 36 (Sl.refl _) (by rfl)) Tryd.underlying49 (by rfl) (hi_3 _)) ?_
    refine flow_take_g (i := 21) (dj := 68) (.agg (c3 (((x_2).a) * ((x_1).b)))) (by rfl) (by kernel_rfl) (by kernel_rfl) (by kernel_rfl) (by rfl) (by kernel_rfl) (List.Sublist.refl _) (by rfl) (by rfl) (by rfl) (gives_call (vl := [.agg (c3 ((x_2).a)), .agg (c3 ((x_1).b))]) (by kernel_rfl) (by rfl) (fun w h => t_cmul _ _ w (hG.keep h.below))) ?_
    refine flow_take_g (i := 22) (dj := 68) (.agg (c3 ((((x_1).a) * ((x_1).b)) + (((x_2).a) * ((x_1).b))))) (by rfl) (by kernel_rfl) (by kernel_rfl) (by kernel_rfl) (by rfl) (by kernel_rfl) (List.Sublist.refl _) (by rfl) (by rfl) (by rfl) (gives_call (vl := [.agg (c3 (((x_1).a) * ((x_1).b))), .agg (c3 (((x_2).a) * ((x_1).b)))]) (by kernel_rfl) (by rfl) (fun w h => t_cadd _ _ w (hG.keep h.below))) ?_
    refine flow_take_g (i := 23) (dj := 68) (.bool false) (by rfl) (by kernel_rfl) (by kernel_rfl) (by kernel_rfl) (by rfl) (by kernel_rfl) (List.Sublist.refl _) (by rfl) (by rfl) (by rfl) (gives_neq (c3 ((((x_1).a) + ((x_2).a)) * ((x_1).b))) (c3 ((((x_1).a) * ((x_1).b)) + (((x_2).a) * ((x_1).b)))) true (by rfl) (by rfl) (by kernel_rfl) (fun w => eq_3_t (d := 9995) w (C3.cr.add_mul _ _ _))) ?_
    refine flow_take (i := 24) (.bool false) (by rfl) (by kernel_rfl) (by kernel_rfl) (by kernel_rfl) (by rfl) (by kernel_rfl) (List.Sublist.refl _) (gives_value _ fun _ => by rfl) ?_
    refine flow_done (by kernel_rfl) ?_
    intro w10 hw10
    refine wp_cond_false (fr_at _ _ (by rfl) _) ?_
    refine wp_skip ?_
    change Code.wp _ _ _ _ _
    refine seq_plain hw10 [0, 1, 2, 3] (by rfl) ?_
    refine L_val (.agg (c2 (k0))) (by rfl) (by rfl) (gives_call (vl := [.int .u64 1, .int .u64 0]) (by kernel_rfl) (by rfl) (fun w h => by rw [hk0]; exact q_small _ _ w (hG.keep h.below) (by omega) (by simp only [Wd]; omega) (by omega) (by simp only [Wd]; omega))) ?_
    refine L_val (.agg (c3 (⟨k0, (0 : F2), (0 : F2)⟩ : C3))) (by rfl) (by rfl) (gb_cubic [(0, (c2 (k0)))] ⟨congrArg some (c2_size _).symm, trivial⟩ (by rfl) (c3 (⟨k0, (0 : F2), (0 : F2)⟩ : C3)) (by rfl)) ?_
    refine L_alloc _ (by rfl) (by rfl) z_3 (c3 (0 : C3)) rfl ?_; intro g8
    refine L_store (t := 49) 0 g8 (c3 (0 : C3)) (c3 (⟨k0, (0 : F2), (0 : F2)⟩ : C3)) (by rfl) (by rfl) (by rfl) (by rfl) (by rfl) (hi_3 _) ((c3_size _).trans (c3_size _).symm) (c3_one _) ?_
    simp only [List.set_cons_zero, List.set_cons_succ]
    refine L_end ?_
    intro w11 hw11
    refine wp_seq ?_
    refine seq_plain hw11 [0, 1, 2] (by rfl) ?_
    refine L_val (.agg (c3 ((x_1).a))) (by rfl) (by rfl) (gives_load g5 0 49 (c3 ((x_1).a)) (c3 ((x_1).a)) _ (by rfl) (fun _ h => h.blk 3 (by rfl)) (Sl.refl _) Tryd.underlying49 (by rfl) (hi_3 _)) ?_
    refine L_val (.agg (c3 (0 : C3))) (by rfl) (by rfl) (gb_cubic [] trivial (by rfl) (c3 (0 : C3)) (by rfl)) ?_
    refine L_val (.bool false) (by rfl) (by rfl) (gives_eql (c3 ((x_1).a)) (c3 (0 : C3)) false (by rfl) (by rfl) (by kernel_rfl) (fun w => eq_3_f (d := 9995) w hz)) ?_
    refine L_end ?_
    intro w12 hw12
    refine wp_cond_false (fr_at _ _ (by rfl) _) ?_
    refine wp_skip ?_
    change Code.wp _ _ _ _ _
    refine seq_flow (by kernel_rfl) hw12 [] [(g8, 49, (c3 (⟨k0, (0 : F2), (0 : F2)⟩ : C3))), (g7, 51, (c12 ((⟨(x_1).a, (0 : C3)⟩ : T12) * (⟨(x_2).a, (0 : C3)⟩ : T12)))), (g6, 49, (c3 ((x_2).a))), (g5, 49, (c3 ((x_1).a))), (g4, 51, (c12 (x_2))), (g3, 47, u_2), (g2, 51, (c12 (x_1))), (g1, 47, u_1)] 7 (by rfl) ?_
    refine flow_take (i := 0) (.agg (c3 ((x_1).a))) (by rfl) (by kernel_rfl) (by kernel_rfl) (by kernel_rfl) (by rfl) (by kernel_rfl) (List.Sublist.refl _) (gives_load g5 0 49 (c3 ((x_1).a)) (c3 ((x_1).a)) _ (by rfl) (fun _ h => h.blk 3 (by rfl)) (Sl.refl _) Tryd.underlying49 (by rfl) (hi_3 _)) ?_
    refine flow_take (i := 1) (.agg (c3 ((x_1).a))) (by rfl) (by kernel_rfl) (by kernel_rfl) (by kernel_rfl) (by rfl) (by kernel_rfl) (List.Sublist.refl _) (gives_load g5 0 49 (c3 ((x_1).a)) (c3 ((x_1).a)) _ (by rfl) (fun _ h => h.blk 3 (by rfl)) (Sl.refl _) Tryd.underlying49 (by rfl) (hi_3 _)) ?_
    refine flow_take (i := 2) (.agg (c3 (C3.inv ((x_1).a)))) (by rfl) (by kernel_rfl) (by kernel_rfl) (by kernel_rfl) (by rfl) (by kernel_rfl) (List.Sublist.refl _) (gives_call (vl := [.agg (c3 ((x_1).a))]) (by kernel_rfl) (by rfl) (fun w h => t_cinv _ w (hG.keep h.below))) ?_
    refine flow_take (i := 3) (.agg (c3 (((x_1).a) * (C3.inv ((x_1).a))))) (by rfl) (by kernel_rfl) (by kernel_rfl) (by kernel_rfl) (by rfl) (by kernel_rfl) (List.Sublist.refl _) (gives_call (vl := [.agg (c3 ((x_1).a)), .agg (c3 (C3.inv ((x_1).a)))]) (by kernel_rfl) (by rfl) (fun w h => t_cmul _ _ w (hG.keep h.below))) ?_
    refine flow_take (i := 4) (.agg (c3 (⟨k0, (0 : F2), (0 : F2)⟩ : C3))) (by rfl) (by kernel_rfl) (by kernel_rfl) (by kernel_rfl) (by rfl) (by kernel_rfl) (List.Sublist.refl _) (gives_load g8 0 49 (c3 (⟨k0, (0 : F2), (0 : F2)⟩ : C3)) (c3 (⟨k0, (0 : F2), (0 : F2)⟩ : C3)) _ (by rfl) (fun _ h => h.blk 0 (by rfl)) (Sl.refl _) Tryd.underlying49 (by rfl) (hi_3 _)) ?_
    refine flow_take (i := 5) (.bool true) (by rfl) (by kernel_rfl) (by kernel_rfl) (by kernel_rfl) (by rfl) (by kernel_rfl) (List.Sublist.refl _) (gives_eql (c3 (((x_1).a) * (C3.inv ((x_1).a)))) (c3 (⟨k0, (0 : F2), (0 : F2)⟩ : C3)) true (by rfl) (by rfl) (by kernel_rfl) (fun w => eq_3_t (d := 9995) w (by rw [hk0, F2.sm10]; exact C3.mul_inv hz))) ?_
    refine flow_take (i := 6) (.bool true) (by rfl) (by kernel_rfl) (by kernel_rfl) (by kernel_rfl) (by rfl) (by kernel_rfl) (List.Sublist.refl _) (gives_value _ fun _ => by rfl) ?_
    refine flow_done (by kernel_rfl) ?_
    intro w13 hw13
    refine wp_ret ?_
    change bodyPost _ _ _ Exit.ret _ _
    refine (ret_tmp (by rfl) (by rfl) (by rfl) ⟨rfl, hw13.below⟩)
theorem t_cubics_any (A0 : Option Addr) (L0 C0 : Nat) (bs0 : List Int) (A1 : Option Addr) (L1 C1 : Nat) (bs1 : List Int) (v : World) (hG : Glo v) (hr0 : Reads v v.heap.size A0 L0 (bs0.map (Value.int .u8))) (ho0 : Oct bs0) (hr1 : Reads v v.heap.size A1 L1 (bs1.map (Value.int .u8))) (ho1 : Oct bs1) : Rets 6 #[.slice A0 L0 C0, .slice A1 L1 C1] v (.bool true) := by
  by_cases hlong : 2000 < L0 ∨ 2000 < L1
  · exact t_cubics_long A0 L0 C0 bs0 A1 L1 C1 bs1 v hG hr0 ho0 hr1 ho1 hlong
  · exact t_cubics_short A0 L0 C0 bs0 A1 L1 C1 bs1 v hG hr0 ho0 hr1 ho1 (by omega) (by omega)
end Go.Proofs.YtnebmgiajfbnaaaDoor
