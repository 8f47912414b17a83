/-
  TowerLines: the walk.
-/
import Derived.Test.YtnebmgiajfbnaaaDoorTwN
namespace Go.Proofs.YtnebmgiajfbnaaaDoor
set_option linter.unusedSimpArgs false
set_option linter.unusedVariables false
open Go.RowKit
theorem line_one (x : T12) {k : F2} (hk : k = F2.sm 1 0) : x * T12.mk (C3.mk k 0 0) (C3.mk 0 0 0) = x := by
  rw [hk, F2.sm10]
  exact T12.cr.mul_one x
theorem line_zero (x : T12) : x * T12.mk (C3.mk 0 0 0) (C3.mk 0 0 0) = 0 := T12.cr.mul_zero x
attribute [local irreducible] wpL wpF fr Code.wp bodyPost
set_option maxRecDepth 100000 in
set_option maxHeartbeats 4000000 in
theorem t_lines_long (A0 : Option Addr) (L0 C0 : Nat) (bs0 : List Int) (A1 : Option Addr) (L1 C1 : Nat) (bs1 : List Int) (v : World) (hG : Glo v) (hr0 : Reads v v.heap.size A0 L0 (bs0.map (Value.int .u8))) (ho0 : Oct bs0) (hr1 : Reads v v.heap.size A1 L1 (bs1.map (Value.int .u8))) (ho1 : Oct bs1) (hlong : 2000 < L0 ∨ 2000 < L1) : Rets 10 #[.slice A0 L0 C0, .slice A1 L1 C1] v (.bool true) := by
  refine calls_fr2 Tryd.func10 rfl (by rfl : _ = 85) (by rfl) ?_
  have hw := Hbl.nil v
  refine seq_plain hw [0] (by rfl) ?_
  refine L_val (.bool false) (by rfl) (by rfl) (gives_value _ fun _ => by rfl) ?_
  refine L_end ?_
  intro w1 hw1
  refine wp_seq ?_
  refine seq_plain hw1 [0, 1] (by rfl) ?_
  refine L_val (.bool true) (by rfl) (by rfl) (gives_call (vl := []) (by kernel_rfl) (by rfl) (fun w h => t_head w (hG.keep h.below))) ?_
  refine L_val (.bool false) (by rfl) (by rfl) (gives_value _ fun _ => by rfl) ?_
  refine L_end ?_
  intro w2 hw2
  refine wp_cond_false (fr_at _ _ (by rfl) _) ?_
  refine wp_skip ?_
  change Code.wp _ _ _ _ _
  refine wp_seq ?_
  refine seq_plain hw2 [0, 1, 2] (by rfl) ?_
  refine L_val (.slice A0 L0 C0) (by rfl) (by rfl) (gives_value _ fun _ => by rfl) ?_
  refine L_val (.slice A1 L1 C1) (by rfl) (by rfl) (gives_value _ fun _ => by rfl) ?_
  refine L_val (.bool true) (by rfl) (by rfl) (gives_call (vl := [.slice A0 L0 C0, .slice A1 L1 C1]) (by kernel_rfl) (by rfl) (fun w h => tlong_yes _ _ _ _ _ _ w (by omega))) ?_
  refine L_end ?_
  intro w3 hw3
  refine wp_cond_true (fr_at _ _ (by rfl) _) ?_
  refine seq_plain hw3 [0] (by rfl) ?_
  refine L_val (.bool true) (by rfl) (by rfl) (gives_value _ fun _ => by rfl) ?_
  refine L_end ?_
  intro w4 hw4
  refine wp_ret ?_
  change bodyPost _ _ _ Exit.ret _ _
  refine (ret_tmp (by rfl) (by rfl) (by rfl) ⟨rfl, hw4.below⟩)
set_option maxRecDepth 100000 in
set_option maxHeartbeats 4000000 in
theorem t_lines_short (A0 : Option Addr) (L0 C0 : Nat) (bs0 : List Int) (A1 : Option Addr) (L1 C1 : Nat) (bs1 : List Int) (v : World) (hG : Glo v) (hr0 : Reads v v.heap.size A0 L0 (bs0.map (Value.int .u8))) (ho0 : Oct bs0) (hr1 : Reads v v.heap.size A1 L1 (bs1.map (Value.int .u8))) (ho1 : Oct bs1) (hs0 : L0 ≤ 2000) (hs1 : L1 ≤ 2000) : Rets 10 #[.slice A0 L0 C0, .slice A1 L1 C1] v (.bool true) := by
  obtain ⟨k0, hk0⟩ : ∃ k : F2, k = F2.sm 1 0 := ⟨_, rfl⟩
  refine calls_fr2 Tryd.func10 rfl (by rfl : _ = 85) (by rfl) ?_
  have hw := Hbl.nil v
  refine seq_plain hw [0] (by rfl) ?_
  refine L_val (.bool false) (by rfl) (by rfl) (gives_value _ fun _ => by rfl) ?_
  refine L_end ?_
  intro w1 hw1
  refine wp_seq ?_
  refine seq_plain hw1 [0, 1] (by rfl) ?_
  refine L_val (.bool true) (by rfl) (by rfl) (gives_call (vl := []) (by kernel_rfl) (by rfl) (fun w h => t_head w (hG.keep h.below))) ?_
  refine L_val (.bool false) (by rfl) (by rfl) (gives_value _ fun _ => by rfl) ?_
  refine L_end ?_
  intro w2 hw2
  refine wp_cond_false (fr_at _ _ (by rfl) _) ?_
  refine wp_skip ?_
  change Code.wp _ _ _ _ _
  refine wp_seq ?_
  refine seq_plain hw2 [0, 1, 2] (by rfl) ?_
  refine L_val (.slice A0 L0 C0) (by rfl) (by rfl) (gives_value _ fun _ => by rfl) ?_
  refine L_val (.slice A1 L1 C1) (by rfl) (by rfl) (gives_value _ fun _ => by rfl) ?_
  refine L_val (.bool false) (by rfl) (by rfl) (gives_call (vl := [.slice A0 L0 C0, .slice A1 L1 C1]) (by kernel_rfl) (by rfl) (fun w h => tlong_no _ _ _ _ _ _ w (by omega) (by omega))) ?_
  refine L_end ?_
  intro w3 hw3
  refine wp_cond_false (fr_at _ _ (by rfl) _) ?_
  refine wp_skip ?_
  change Code.wp _ _ _ _ _
  refine seq_plain hw3 [0, 1, 2, 3, 4, 5, 6, 7, 8] (by rfl) ?_
  refine L_val (.slice A0 L0 C0) (by rfl) (by rfl) (gives_value _ fun _ => by rfl) ?_
  refine L_callE (A := (Array Value)) (B := T12) (vl := [.slice A0 L0 C0]) (fun a b => .tuple #[.agg a, .agg (c12 b)]) (fun u _ => u.size = 12 ∧ u.all (·.oneCell') = true) (by rfl) (by rfl) Want.none (by kernel_rfl) (by rfl) (fun w h => number_any A0 L0 C0 bs0 w (hG.keep h.below) ((hr0.below h.below).more h.below.size) ho0 (by omega)) ?_; intro u_1 x_1 hu_1
  refine L_val (.tuple #[.agg u_1, .agg (c12 (x_1))]) (by rfl) (by rfl) (gives_value _ fun _ => by rfl) ?_
  refine L_val (.agg u_1) (by rfl) (by rfl) (gives_value _ fun _ => by kernel_rfl) ?_
  refine L_val (.agg (c12 (x_1))) (by rfl) (by rfl) (gives_value _ fun _ => by kernel_rfl) ?_
  refine L_alloc _ (by rfl) (by rfl) z_aN (joinA [#[.slice none 0 0, .slice none 0 0], #[.slice none 0 0, .slice none 0 0], #[.slice none 0 0, .slice none 0 0], #[.slice none 0 0, .slice none 0 0], #[.slice none 0 0, .slice none 0 0], #[.slice none 0 0, .slice none 0 0]]) rfl ?_; intro g1
  refine L_alloc _ (by rfl) (by rfl) z_12 (c12 (0 : T12)) rfl ?_; intro g2
  refine L_store (t := 47) 1 g1 (joinA [#[.slice none 0 0, .slice none 0 0], #[.slice none 0 0, .slice none 0 0], #[.slice none 0 0, .slice none 0 0], #[.slice none 0 0, .slice none 0 0], #[.slice none 0 0, .slice none 0 0], #[.slice none 0 0, .slice none 0 0]]) u_1 (by rfl) (by rfl) (by rfl) (by rfl) (by rfl) (hi_opN hu_1.1) ((joinC_size 2 _ (by simp)).trans hu_1.1.symm) hu_1.2 ?_
  simp only [List.set_cons_zero, List.set_cons_succ]
  refine L_store (t := 51) 0 g2 (c12 (0 : T12)) (c12 (x_1)) (by rfl) (by rfl) (by rfl) (by rfl) (by rfl) (hi_12 _) ((c12_size _).trans (c12_size _).symm) (c12_one _) ?_
  simp only [List.set_cons_zero, List.set_cons_succ]
  refine L_end ?_
  intro w4 hw4
  refine seq_plain hw4 [0, 1, 2, 3, 4, 5, 6, 7, 8] (by rfl) ?_
  refine L_val (.slice A1 L1 C1) (by rfl) (by rfl) (gives_value _ fun _ => by rfl) ?_
  refine L_callE (A := (Array Value)) (B := T12) (vl := [.slice A1 L1 C1]) (fun a b => .tuple #[.agg a, .agg (c12 b)]) (fun u _ => u.size = 12 ∧ u.all (·.oneCell') = true) (by rfl) (by rfl) Want.none (by kernel_rfl) (by rfl) (fun w h => number_any A1 L1 C1 bs1 w (hG.keep h.below) ((hr1.below h.below).more h.below.size) ho1 (by omega)) ?_; intro u_2 x_2 hu_2
  refine L_val (.tuple #[.agg u_2, .agg (c12 (x_2))]) (by rfl) (by rfl) (gives_value _ fun _ => by rfl) ?_
  refine L_val (.agg u_2) (by rfl) (by rfl) (gives_value _ fun _ => by kernel_rfl) ?_
  refine L_val (.agg (c12 (x_2))) (by rfl) (by rfl) (gives_value _ fun _ => by kernel_rfl) ?_
  refine L_alloc _ (by rfl) (by rfl) z_aN (joinA [#[.slice none 0 0, .slice none 0 0], #[.slice none 0 0, .slice none 0 0], #[.slice none 0 0, .slice none 0 0], #[.slice none 0 0, .slice none 0 0], #[.slice none 0 0, .slice none 0 0], #[.slice none 0 0, .slice none 0 0]]) rfl ?_; intro g3
  refine L_alloc _ (by rfl) (by rfl) z_12 (c12 (0 : T12)) rfl ?_; intro g4
  refine L_store (t := 47) 1 g3 (joinA [#[.slice none 0 0, .slice none 0 0], #[.slice none 0 0, .slice none 0 0], #[.slice none 0 0, .slice none 0 0], #[.slice none 0 0, .slice none 0 0], #[.slice none 0 0, .slice none 0 0], #[.slice none 0 0, .slice none 0 0]]) u_2 (by rfl) (by rfl) (by rfl) (by rfl) (by rfl) (hi_opN hu_2.1) ((joinC_size 2 _ (by simp)).trans hu_2.1.symm) hu_2.2 ?_
  simp only [List.set_cons_zero, List.set_cons_succ]
  refine L_store (t := 51) 0 g4 (c12 (0 : T12)) (c12 (x_2)) (by rfl) (by rfl) (by rfl) (by rfl) (by rfl) (hi_12 _) ((c12_size _).trans (c12_size _).symm) (c12_one _) ?_
  simp only [List.set_cons_zero, List.set_cons_succ]
  refine L_end ?_
  intro w5 hw5
  refine seq_plain hw5 [0, 1, 2, 3, 4, 5, 6, 7, 8, 9, 10, 11, 12, 13] (by rfl) ?_
  refine L_val (.pointer (some ⟨g4, 0, none⟩)) (by rfl) (by rfl) (gives_value _ fun _ => by kernel_rfl) ?_
  refine L_val (.pointer (some ⟨g4, 0, none⟩)) (by rfl) (by rfl) (gives_value _ fun _ => by kernel_rfl) ?_
  refine L_val (.agg (c2 (((x_2).a).a))) (by rfl) (by rfl) (gives_load g4 0 51 (c12 (x_2)) (c2 (((x_2).a).a)) _ (by rfl) (fun _ h => h.blk 0 (by rfl)) (sl_3a ((x_2).a) _ _ (sl_12a (x_2) _ _ (Sl.refl _))) Tryd.underlying36 (by rfl) (hi_2 _)) ?_
  refine L_val (.pointer (some ⟨g4, 0, none⟩)) (by rfl) (by rfl) (gives_value _ fun _ => by kernel_rfl) ?_
  refine L_val (.pointer (some ⟨g4, 12, none⟩)) (by rfl) (by rfl) (gives_value _ fun _ => by kernel_rfl) ?_
  refine L_val (.agg (c2 (((x_2).a).b))) (by rfl) (by rfl) (gives_load g4 12 51 (c12 (x_2)) (c2 (((x_2).a).b)) _ (by rfl) (fun _ h => h.blk 0 (by rfl)) (sl_3b ((x_2).a) _ _ 12 (sl_12a (x_2) _ _ (Sl.refl _)) (by rfl)) Tryd.underlying36 (by rfl) (hi_2 _)) ?_
  refine L_val (.agg (c3 (⟨((x_2).a).a, ((x_2).a).b, (0 : F2)⟩ : C3))) (by rfl) (by rfl) (gb_cubic [(0, (c2 (((x_2).a).a))), (1, (c2 (((x_2).a).b)))] ⟨congrArg some (c2_size _).symm, congrArg some (c2_size _).symm, trivial⟩ (by rfl) (c3 (⟨((x_2).a).a, ((x_2).a).b, (0 : F2)⟩ : C3)) (by rfl)) ?_
  refine L_val (.pointer (some ⟨g4, 36, none⟩)) (by rfl) (by rfl) (gives_value _ fun _ => by kernel_rfl) ?_
  refine L_val (.pointer (some ⟨g4, 48, none⟩)) (by rfl) (by rfl) (gives_value _ fun _ => by kernel_rfl) ?_
  refine L_val (.agg (c2 (((x_2).b).b))) (by rfl) (by rfl) (gives_load g4 48 51 (c12 (x_2)) (c2 (((x_2).b).b)) _ (by rfl) (fun _ h => h.blk 0 (by rfl)) (sl_3b ((x_2).b) _ _ 48 (sl_12b (x_2) _ _ 36 (Sl.refl _) (by rfl)) (by rfl)) Tryd.underlying36 (by rfl) (hi_2 _)) ?_
  refine L_val (.agg (c3 (⟨(0 : F2), ((x_2).b).b, (0 : F2)⟩ : C3))) (by rfl) (by rfl) (gb_cubic [(1, (c2 (((x_2).b).b)))] ⟨congrArg some (c2_size _).symm, trivial⟩ (by rfl) (c3 (⟨(0 : F2), ((x_2).b).b, (0 : F2)⟩ : C3)) (by rfl)) ?_
  refine L_val (.agg (c12 (⟨(⟨((x_2).a).a, ((x_2).a).b, (0 : F2)⟩ : C3), (⟨(0 : F2), ((x_2).b).b, (0 : F2)⟩ : C3)⟩ : T12))) (by rfl) (by rfl) (gb_tower [(0, (c3 (⟨((x_2).a).a, ((x_2).a).b, (0 : F2)⟩ : C3))), (1, (c3 (⟨(0 : F2), ((x_2).b).b, (0 : F2)⟩ : C3)))] ⟨congrArg some (c3_size _).symm, congrArg some (c3_size _).symm, trivial⟩ (by rfl) (c12 (⟨(⟨((x_2).a).a, ((x_2).a).b, (0 : F2)⟩ : C3), (⟨(0 : F2), ((x_2).b).b, (0 : F2)⟩ : C3)⟩ : T12)) (by rfl)) ?_
  refine L_alloc _ (by rfl) (by rfl) z_12 (c12 (0 : T12)) rfl ?_; intro g5
  refine L_store (t := 51) 0 g5 (c12 (0 : T12)) (c12 (⟨(⟨((x_2).a).a, ((x_2).a).b, (0 : F2)⟩ : C3), (⟨(0 : F2), ((x_2).b).b, (0 : F2)⟩ : C3)⟩ : T12)) (by rfl) (by rfl) (by rfl) (by rfl) (by rfl) (hi_12 _) ((c12_size _).trans (c12_size _).symm) (c12_one _) ?_
  simp only [List.set_cons_zero, List.set_cons_succ]
  refine L_end ?_
  intro w6 hw6
  refine wp_seq ?_
  refine seq_flow (by kernel_rfl) hw6 [] [(g5, 51, (c12 (⟨(⟨((x_2).a).a, ((x_2).a).b, (0 : F2)⟩ : C3), (⟨(0 : F2), ((x_2).b).b, (0 : F2)⟩ : C3)⟩ : T12))), (g4, 51, (c12 (x_2))), (g3, 47, u_2), (g2, 51, (c12 (x_1))), (g1, 47, u_1)] 15 (by rfl) ?_
  refine flow_take (i := 0) (.agg (c12 (x_1))) (by rfl) (by kernel_rfl) (by kernel_rfl) (by kernel_rfl) (by rfl) (by kernel_rfl) (List.Sublist.refl _) (gives_load g2 0 51 (c12 (x_1)) (c12 (x_1)) _ (by rfl) (fun _ h => h.blk 3 (by rfl)) (Sl.refl _) Tryd.underlying51 (by rfl) (hi_12 _)) ?_
  refine flow_take (i := 1) (.pointer (some ⟨g4, 0, none⟩)) (by rfl) (by kernel_rfl) (by kernel_rfl) (by kernel_rfl) (by rfl) (by kernel_rfl) (List.Sublist.refl _) (gives_value _ fun _ => by kernel_rfl) ?_
  refine flow_take (i := 2) (.pointer (some ⟨g4, 0, none⟩)) (by rfl) (by kernel_rfl) (by kernel_rfl) (by kernel_rfl) (by rfl) (by kernel_rfl) (List.Sublist.refl _) (gives_value _ fun _ => by kernel_rfl) ?_
  refine flow_take (i := 3) (.agg (c2 (((x_2).a).a))) (by rfl) (by kernel_rfl) (by kernel_rfl) (by kernel_rfl) (by rfl) (by kernel_rfl) (List.Sublist.refl _) (gives_load g4 0 51 (c12 (x_2)) (c2 (((x_2).a).a)) _ (by rfl) (fun _ h => h.blk 1 (by rfl)) (sl_3a ((x_2).a) _ _ (sl_12a (x_2) _ _ (Sl.refl _))) Tryd.underlying36 (by rfl) (hi_2 _)) ?_
  refine flow_take (i := 4) (.pointer (some ⟨g4, 0, none⟩)) (by rfl) (by kernel_rfl) (by kernel_rfl) (by kernel_rfl) (by rfl) (by kernel_rfl) (List.Sublist.refl _) (gives_value _ fun _ => by kernel_rfl) ?_
  refine flow_take (i := 5) (.pointer (some ⟨g4, 12, none⟩)) (by rfl) (by kernel_rfl) (by kernel_rfl) (by kernel_rfl) (by rfl) (by kernel_rfl) (List.Sublist.refl _) (gives_value _ fun _ => by kernel_rfl) ?_
  refine flow_take (i := 6) (.agg (c2 (((x_2).a).b))) (by rfl) (by kernel_rfl) (by kernel_rfl) (by kernel_rfl) (by rfl) (by kernel_rfl) (List.Sublist.refl _) (gives_load g4 12 51 (c12 (x_2)) (c2 (((x_2).a).b)) _ (by rfl) (fun _ h => h.blk 1 (by rfl)) (sl_3b ((x_2).a) _ _ 12 (sl_12a (x_2) _ _ (Sl.refl _)) (by rfl)) Tryd.underlying36 (by rfl) (hi_2 _)) ?_
  refine flow_take (i := 7) (.pointer (some ⟨g4, 36, none⟩)) (by rfl) (by kernel_rfl) (by kernel_rfl) (by kernel_rfl) (by rfl) (by kernel_rfl) (List.Sublist.refl _) (gives_value _ fun _ => by kernel_rfl) ?_
  refine flow_take (i := 8) (.pointer (some ⟨g4, 48, none⟩)) (by rfl) (by kernel_rfl) (by kernel_rfl) (by kernel_rfl) (by rfl) (by kernel_rfl) (List.Sublist.refl _) (gives_value _ fun _ => by kernel_rfl) ?_
  refine flow_take (i := 9) (.agg (c2 (((x_2).b).b))) (by rfl) (by kernel_rfl) (by kernel_rfl) (by kernel_rfl) (by rfl) (by kernel_rfl) (List.Sublist.refl _) (gives_load g4 48 51 (c12 (x_2)) (c2 (((x_2).b).b)) _ (by rfl) (fun _ h => h.blk 1 (by rfl)) (sl_3b ((x_2).b) _ _ 48 (sl_12b (x_2) _ _ 36 (Sl.refl _) (by rfl)) (by rfl)) Tryd.underlying36 (by rfl) (hi_2 _)) ?_
  refine flow_take (i := 10) (.agg (c12 ((x_1) * T12.mk (C3.mk (((x_2).a).a) (((x_2).a).b) 0) (C3.mk 0 (((x_2).b).b) 0)))) (by rfl) (by kernel_rfl) (by kernel_rfl) (by kernel_rfl) (by rfl) (by kernel_rfl) (List.Sublist.refl _) (gives_call (vl := [.agg (c12 (x_1)), .agg (c2 (((x_2).a).a)), .agg (c2 (((x_2).a).b)), .agg (c2 (((x_2).b).b))]) (by kernel_rfl) (by rfl) (fun w h => t_line _ _ _ _ w (hG.keep h.below))) ?_
  refine flow_take (i := 11) (.agg (c12 (x_1))) (by rfl) (by kernel_rfl) (by kernel_rfl) (by kernel_rfl) (by rfl) (by kernel_rfl) (List.Sublist.refl _) (gives_load g2 0 51 (c12 (x_1)) (c12 (x_1)) _ (by rfl) (fun _ h => h.blk 3 (by rfl)) (Sl.refl _) Tryd.underlying51 (by rfl) (hi_12 _)) ?_
  refine flow_take (i := 12) (.agg (c12 (⟨(⟨((x_2).a).a, ((x_2).a).b, (0 : F2)⟩ : C3), (⟨(0 : F2), ((x_2).b).b, (0 : F2)⟩ : C3)⟩ : T12))) (by rfl) (by kernel_rfl) (by kernel_rfl) (by kernel_rfl) (by rfl) (by kernel_rfl) (List.Sublist.refl _) (gives_load g5 0 51 (c12 (⟨(⟨((x_2).a).a, ((x_2).a).b, (0 : F2)⟩ : C3), (⟨(0 : F2), ((x_2).b).b, (0 : F2)⟩ : C3)⟩ : T12)) (c12 (⟨(⟨((x_2).a).a, ((x_2).a).b, (0 : F2)⟩ : C3), (⟨(0 : F2), ((x_2).b).b, (0 : F2)⟩ : C3)⟩ : T12)) _ (by rfl) (fun _ h => h.blk 0 (by rfl)) (Sl.refl _) Tryd.underlying51 (by rfl) (hi_12 _)) ?_
  refine flow_take (i := 13) (.agg (c12 ((x_1) * (⟨(⟨((x_2).a).a, ((x_2).a).b, (0 : F2)⟩ : C3), (⟨(0 : F2), ((x_2).b).b, (0 : F2)⟩ : C3)⟩ : T12)))) (by rfl) (by kernel_rfl) (by kernel_rfl) (by kernel_rfl) (by rfl) (by kernel_rfl) (List.Sublist.refl _) (gives_call (vl := [.agg (c12 (x_1)), .agg (c12 (⟨(⟨((x_2).a).a, ((x_2).a).b, (0 : F2)⟩ : C3), (⟨(0 : F2), ((x_2).b).b, (0 : F2)⟩ : C3)⟩ : T12))]) (by kernel_rfl) (by rfl) (fun w h => t_mul _ _ w (hG.keep h.below))) ?_
  refine flow_take (i := 14) (.bool false) (by rfl) (by kernel_rfl) (by kernel_rfl) (by kernel_rfl) (by rfl) (by kernel_rfl) (List.Sublist.refl _) (gives_neq (c12 ((x_1) * T12.mk (C3.mk (((x_2).a).a) (((x_2).a).b) 0) (C3.mk 0 (((x_2).b).b) 0))) (c12 ((x_1) * (⟨(⟨((x_2).a).a, ((x_2).a).b, (0 : F2)⟩ : C3), (⟨(0 : F2), ((x_2).b).b, (0 : F2)⟩ : C3)⟩ : T12))) true (by rfl) (by rfl) (by kernel_rfl) (fun w => eq_12_t (d := 9994) w (rfl : ((x_1) * T12.mk (C3.mk (((x_2).a).a) (((x_2).a).b) 0) (C3.mk 0 (((x_2).b).b) 0)) = ((x_1) * (⟨(⟨((x_2).a).a, ((x_2).a).b, (0 : F2)⟩ : C3), (⟨(0 : F2), ((x_2).b).b, (0 : F2)⟩ : C3)⟩ : T12))))) ?_
  refine flow_done (by kernel_rfl) ?_
  intro w7 hw7
  refine wp_cond_false (fr_at _ _ (by rfl) _) ?_
  refine wp_skip ?_
  change Code.wp _ _ _ _ _
  refine seq_plain hw7 [0, 1, 2] (by rfl) ?_
  refine L_val (.agg (c2 (k0))) (by rfl) (by rfl) (gives_call (vl := [.int .u64 1, .int .u64 0]) (by kernel_rfl) (by rfl) (fun w h => by rw [hk0]; exact q_small _ _ w (hG.keep h.below) (by omega) (by simp only [Wd]; omega) (by omega) (by simp only [Wd]; omega))) ?_
  refine L_alloc _ (by rfl) (by rfl) z_2 (c2 (0 : F2)) rfl ?_; intro g6
  refine L_store (t := 36) 0 g6 (c2 (0 : F2)) (c2 (k0)) (by rfl) (by rfl) (by rfl) (by rfl) (by rfl) (hi_2 _) ((c2_size _).trans (c2_size _).symm) (c2_one _) ?_
  simp only [List.set_cons_zero, List.set_cons_succ]
  refine L_end ?_
  intro w8 hw8
  refine seq_flow (by kernel_rfl) hw8 [] [(g6, 36, (c2 (k0))), (g5, 51, (c12 (⟨(⟨((x_2).a).a, ((x_2).a).b, (0 : F2)⟩ : C3), (⟨(0 : F2), ((x_2).b).b, (0 : F2)⟩ : C3)⟩ : T12))), (g4, 51, (c12 (x_2))), (g3, 47, u_2), (g2, 51, (c12 (x_1))), (g1, 47, u_1)] 32 (by rfl) ?_
  refine flow_take (i := 0) (.agg (c12 (x_1))) (by rfl) (by kernel_rfl) (by kernel_rfl) (by kernel_rfl) (by rfl) (by kernel_rfl) (List.Sublist.refl _) (gives_load g2 0 51 (c12 (x_1)) (c12 (x_1)) _ (by rfl) (fun _ h => h.blk 4 (by rfl)) (Sl.refl _) Tryd.underlying51 (by rfl) (hi_12 _)) ?_
  refine flow_take (i := 1) (.agg (c2 (k0))) (by rfl) (by kernel_rfl) (by kernel_rfl) (by kernel_rfl) (by rfl) (by kernel_rfl) (List.Sublist.refl _) (gives_load g6 0 36 (c2 (k0)) (c2 (k0)) _ (by rfl) (fun _ h => h.blk 0 (by rfl)) (Sl.refl _) Tryd.underlying36 (by rfl) (hi_2 _)) ?_
  refine flow_take (i := 2) (.agg (c2 (0 : F2))) (by rfl) (by kernel_rfl) (by kernel_rfl) (by kernel_rfl) (by rfl) (by kernel_rfl) (List.Sublist.refl _) (gb_fp2 [] trivial (by rfl) (c2 (0 : F2)) (by rfl)) ?_
  refine flow_take (i := 3) (.agg (c2 (0 : F2))) (by rfl) (by kernel_rfl) (by kernel_rfl) (by kernel_rfl) (by rfl) (by kernel_rfl) (List.Sublist.refl _) (gb_fp2 [] trivial (by rfl) (c2 (0 : F2)) (by rfl)) ?_
  refine flow_take (i := 4) (.agg (c12 ((x_1) * T12.mk (C3.mk (k0) (0 : F2) 0) (C3.mk 0 (0 : F2) 0)))) (by rfl) (by kernel_rfl) (by kernel_rfl) (by kernel_rfl) (by rfl) (by kernel_rfl) (List.Sublist.refl _) (gives_call (vl := [.agg (c12 (x_1)), .agg (c2 (k0)), .agg (c2 (0 : F2)), .agg (c2 (0 : F2))]) (by kernel_rfl) (by rfl) (fun w h => t_line _ _ _ _ w (hG.keep h.below))) ?_
  refine flow_take (i := 5) (.agg (c12 (x_1))) (by rfl) (by kernel_rfl) (by kernel_rfl) (by kernel_rfl) (by rfl) (by kernel_rfl) (List.Sublist.refl _) (gives_load g2 0 51 (c12 (x_1)) (c12 (x_1)) _ (by rfl) (fun _ h => h.blk 4 (by rfl)) (Sl.refl _) Tryd.underlying51 (by rfl) (hi_12 _)) ?_
  refine flow_take (i := 6) (.bool true) (by rfl) (by kernel_rfl) (by kernel_rfl) (by kernel_rfl) (by rfl) (by kernel_rfl) (List.Sublist.refl _) (gives_eql (c12 ((x_1) * T12.mk (C3.mk (k0) (0 : F2) 0) (C3.mk 0 (0 : F2) 0))) (c12 (x_1)) true (by rfl) (by rfl) (by kernel_rfl) (fun w => eq_12_t (d := 9994) w (line_one _ hk0))) ?_
  refine flow_take (i := 7) (.bool true) (by rfl) (by kernel_rfl) (by kernel_rfl) (by kernel_rfl) (by rfl) (by kernel_rfl) (List.Sublist.refl _) (gives_value _ fun _ => by rfl) ?_
  refine flow_take_g (i := 8) (dj := 61) (.agg (c12 (1 : T12))) (by rfl) (by kernel_rfl) (by kernel_rfl) (by kernel_rfl) (by rfl) (by kernel_rfl) (List.Sublist.refl _) (by rfl) (by rfl) (by rfl) (gives_call (vl := []) (by kernel_rfl) (by rfl) (fun w h => t_one w (hG.keep h.below))) ?_
  refine flow_take_g (i := 9) (dj := 61) (.pointer (some ⟨g4, 0, none⟩)) (by rfl) (by kernel_rfl) (by kernel_rfl) (by kernel_rfl) (by rfl) (by kernel_rfl) (List.Sublist.refl _) (by rfl) (by rfl) (by rfl) (gives_value _ fun _ => by kernel_rfl) ?_
  refine flow_take_g (i := 10) (dj := 61) (.pointer (some ⟨g4, 0, none⟩)) (by rfl) (by kernel_rfl) (by kernel_rfl) (by kernel_rfl) (by rfl) (by kernel_rfl) (List.Sublist.refl _) (by rfl) (by rfl) (by rfl) (gives_value _ fun _ => by kernel_rfl) ?_
  refine flow_take_g (i := 11) (dj := 61) (.agg (c2 (((x_2).a).a))) (by rfl) (by kernel_rfl) (by kernel_rfl) (by kernel_rfl) (by rfl) (by kernel_rfl) (List.Sublist.refl _) (by rfl) (by rfl) (by rfl) (gives_load g4 0 51 (c12 (x_2)) (c2 (((x_2).a).a)) _ (by rfl) (fun _ h => h.blk 2 (by rfl)) (sl_3a ((x_2).a) _ _ (sl_12a (x_2) _ _ (Sl.refl _))) Tryd.underlying36 (by rfl) (hi_2 _)) ?_
  refine flow_take_g (i := 12) (dj := 61) (.pointer (some ⟨g4, 0, none⟩)) (by rfl) (by kernel_rfl) (by kernel_rfl) (by kernel_rfl) (by rfl) (by kernel_rfl) (List.Sublist.refl _) (by rfl) (by rfl) (by rfl) (gives_value _ fun _ => by kernel_rfl) ?_
  refine flow_take_g (i := 13) (dj := 61) (.pointer (some ⟨g4, 12, none⟩)) (by rfl) (by kernel_rfl) (by kernel_rfl) (by kernel_rfl) (by rfl) (by kernel_rfl) (List.Sublist.refl _) (by rfl) (by rfl) (by rfl) (gives_value _ fun _ => by kernel_rfl) ?_
  refine flow_take_g (i := 14) (dj := 61) (.agg (c2 (((x_2).a).b))) (by rfl) (by kernel_rfl) (by kernel_rfl) (by kernel_rfl) (by rfl) (by kernel_rfl) (List.Sublist.refl _) (by rfl) (by rfl) (by rfl) (gives_load g4 12 51 (c12 (x_2)) (c2 (((x_2).a).b)) _ (by rfl) (fun _ h => h.blk 2 (by rfl)) (sl_3b ((x_2).a) _ _ 12 (sl_12a (x_2) _ _ (Sl.refl _)) (by rfl)) Tryd.underlying36 (by rfl) (hi_2 _)) ?_
  refine flow_take_g (i := 15) (dj := 61) (.pointer (some ⟨g4, 36, none⟩)) (by rfl) (by kernel_rfl) (by kernel_rfl) (by kernel_rfl) (by rfl) (by kernel_rfl) (List.Sublist.refl _) (by rfl) (by rfl) (by rfl) (gives_value _ fun _ => by kernel_rfl) ?_
  refine flow_take_g (i := 16) (dj := 61) (.pointer (some ⟨g4, 48, none⟩)) (by rfl) (by kernel_rfl) (by kernel_rfl) (by kernel_rfl) (by rfl) (by kernel_rfl) (List.Sublist.refl _) (by rfl) (by rfl) (by rfl) (gives_value _ fun _ => by kernel_rfl) ?_
  refine flow_take_g (i := 17) (dj := 61) (.agg (c2 (((x_2).b).b))) (by rfl) (by kernel_rfl) (by kernel_rfl) (by kernel_rfl) (by rfl) (by kernel_rfl) (List.Sublist.refl _) (by rfl) (by rfl) (by rfl) (gives_load g4 48 51 (c12 (x_2)) (c2 (((x_2).b).b)) _ (by rfl) (fun _ h => h.blk 2 (by rfl)) (sl_3b ((x_2).b) _ _ 48 (sl_12b (x_2) _ _ 36 (Sl.refl _) (by rfl)) (by rfl)) Tryd.underlying36 (by rfl) (hi_2 _)) ?_
  refine flow_take_g (i := 18) (dj := 61) (.agg (c12 ((1 : T12) * T12.mk (C3.mk (((x_2).a).a) (((x_2).a).b) 0) (C3.mk 0 (((x_2).b).b) 0)))) (by rfl) (by kernel_rfl) (by kernel_rfl) (by kernel_rfl) (by rfl) (by kernel_rfl) (List.Sublist.refl _) (by rfl) (by rfl) (by rfl) (gives_call (vl := [.agg (c12 (1 : T12)), .agg (c2 (((x_2).a).a)), .agg (c2 (((x_2).a).b)), .agg (c2 (((x_2).b).b))]) (by kernel_rfl) (by rfl) (fun w h => t_line _ _ _ _ w (hG.keep h.below))) ?_
  refine flow_take_g (i := 19) (dj := 61) (.agg (c12 (⟨(⟨((x_2).a).a, ((x_2).a).b, (0 : F2)⟩ : C3), (⟨(0 : F2), ((x_2).b).b, (0 : F2)⟩ : C3)⟩ : T12))) (by rfl) (by kernel_rfl) (by kernel_rfl) (by kernel_rfl) (by rfl) (by kernel_rfl) (List.Sublist.refl _) (by rfl) (by rfl) (by rfl) (gives_load g5 0 51 (c12 (⟨(⟨((x_2).a).a, ((x_2).a).b, (0 : F2)⟩ : C3), (⟨(0 : F2), ((x_2).b).b, (0 : F2)⟩ : C3)⟩ : T12)) (c12 (⟨(⟨((x_2).a).a, ((x_2).a).b, (0 : F2)⟩ : C3), (⟨(0 : F2), ((x_2).b).b, (0 : F2)⟩ : C3)⟩ : T12)) _ (by rfl) (fun _ h => h.blk 1 (by rfl)) (Sl.refl _) Tryd.underlying51 (by rfl) (hi_12 _)) ?_
  refine flow_take_g (i := 20) (dj := 61) (.bool true) (by rfl) (by kernel_rfl) (by kernel_rfl) (by kernel_rfl) (by rfl) (by kernel_rfl) (List.Sublist.refl _) (by rfl) (by rfl) (by rfl) (gives_eql (c12 ((1 : T12) * T12.mk (C3.mk (((x_2).a).a) (((x_2).a).b) 0) (C3.mk 0 (((x_2).b).b) 0))) (c12 (⟨(⟨((x_2).a).a, ((x_2).a).b, (0 : F2)⟩ : C3), (⟨(0 : F2), ((x_2).b).b, (0 : F2)⟩ : C3)⟩ : T12)) true (by rfl) (by rfl) (by kernel_rfl) (fun w => eq_12_t (d := 9994) w (T12.cr.one_mul _))) ?_
  refine flow_take (i := 21) (.bool true) (by rfl) (by kernel_rfl) (by kernel_rfl) (by kernel_rfl) (by rfl) (by kernel_rfl) (List.Sublist.refl _) (gives_value _ fun _ => by rfl) ?_
  refine flow_take (i := 22) (.bool true) (by rfl) (by kernel_rfl) (by kernel_rfl) (by kernel_rfl) (by rfl) (by kernel_rfl) (List.Sublist.refl _) (gives_value _ fun _ => by rfl) ?_
  refine flow_take_g (i := 23) (dj := 76) (.agg (c12 (x_1))) (by rfl) (by kernel_rfl) (by kernel_rfl) (by kernel_rfl) (by rfl) (by kernel_rfl) (List.Sublist.refl _) (by rfl) (by rfl) (by rfl) (gives_load g2 0 51 (c12 (x_1)) (c12 (x_1)) _ (by rfl) (fun _ h => h.blk 4 (by rfl)) (Sl.refl _) Tryd.underlying51 (by rfl) (hi_12 _)) ?_
  refine flow_take_g (i := 24) (dj := 76) (.agg (c2 (0 : F2))) (by rfl) (by kernel_rfl) (by kernel_rfl) (by kernel_rfl) (by rfl) (by kernel_rfl) (List.Sublist.refl _) (by rfl) (by rfl) (by rfl) (gb_fp2 [] trivial (by rfl) (c2 (0 : F2)) (by rfl)) ?_
  refine flow_take_g (i := 25) (dj := 76) (.agg (c2 (0 : F2))) (by rfl) (by kernel_rfl) (by kernel_rfl) (by kernel_rfl) (by rfl) (by kernel_rfl) (List.Sublist.refl _) (by rfl) (by rfl) (by rfl) (gb_fp2 [] trivial (by rfl) (c2 (0 : F2)) (by rfl)) ?_
  refine flow_take_g (i := 26) (dj := 76) (.agg (c2 (0 : F2))) (by rfl) (by kernel_rfl) (by kernel_rfl) (by kernel_rfl) (by rfl) (by kernel_rfl) (List.Sublist.refl _) (by rfl) (by rfl) (by rfl) (gb_fp2 [] trivial (by rfl) (c2 (0 : F2)) (by rfl)) ?_
  refine flow_take_g (i := 27) (dj := 76) (.agg (c12 ((x_1) * T12.mk (C3.mk (0 : F2) (0 : F2) 0) (C3.mk 0 (0 : F2) 0)))) (by rfl) (by kernel_rfl) (by kernel_rfl) (by kernel_rfl) (by rfl) (by kernel_rfl) (List.Sublist.refl _) (by rfl) (by rfl) (by rfl) (gives_call (vl := [.agg (c12 (x_1)), .agg (c2 (0 : F2)), .agg (c2 (0 : F2)), .agg (c2 (0 : F2))]) (by kernel_rfl) (by rfl) (fun w h => t_line _ _ _ _ w (hG.keep h.below))) ?_
  refine flow_take_g (i := 28) (dj := 76) (.agg (c12 (0 : T12))) (by rfl) (by kernel_rfl) (by kernel_rfl) (by kernel_rfl) (by rfl) (by kernel_rfl) (List.Sublist.refl _) (by rfl) (by rfl) (by rfl) (gb_tower [] trivial (by rfl) (c12 (0 : T12)) (by rfl)) ?_
  refine flow_take_g (i := 29) (dj := 76) (.bool true) (by rfl) (by kernel_rfl) (by kernel_rfl) (by kernel_rfl) (by rfl) (by kernel_rfl) (List.Sublist.refl _) (by rfl) (by rfl) (by rfl) (gives_eql (c12 ((x_1) * T12.mk (C3.mk (0 : F2) (0 : F2) 0) (C3.mk 0 (0 : F2) 0))) (c12 (0 : T12)) true (by rfl) (by rfl) (by kernel_rfl) (fun w => eq_12_t (d := 9994) w (line_zero _))) ?_
  refine flow_take (i := 30) (.bool true) (by rfl) (by kernel_rfl) (by kernel_rfl) (by kernel_rfl) (by rfl) (by kernel_rfl) (List.Sublist.refl _) (gives_value _ fun _ => by rfl) ?_
  refine flow_take (i := 31) (.bool true) (by rfl) (by kernel_rfl) (by kernel_rfl) (by kernel_rfl) (by rfl) (by kernel_rfl) (List.Sublist.refl _) (gives_value _ fun _ => by rfl) ?_
  refine flow_done (by kernel_rfl) ?_
  intro w9 hw9
  refine wp_ret ?_
  change bodyPost _ _ _ Exit.ret _ _
  refine (ret_tmp (by rfl) (by rfl) (by rfl) ⟨rfl, hw9.below⟩)
theorem t_lines_any (A0 : Option Addr) (L0 C0 : Nat) (bs0 : List Int) (A1 : Option Addr) (L1 C1 : Nat) (bs1 : List Int) (v : World) (hG : Glo v) (hr0 : Reads v v.heap.size A0 L0 (bs0.map (Value.int .u8))) (ho0 : Oct bs0) (hr1 : Reads v v.heap.size A1 L1 (bs1.map (Value.int .u8))) (ho1 : Oct bs1) : Rets 10 #[.slice A0 L0 C0, .slice A1 L1 C1] v (.bool true) := by
  by_cases hlong : 2000 < L0 ∨ 2000 < L1
  · exact t_lines_long A0 L0 C0 bs0 A1 L1 C1 bs1 v hG hr0 ho0 hr1 ho1 hlong
  · exact t_lines_short A0 L0 C0 bs0 A1 L1 C1 bs1 v hG hr0 ho0 hr1 ho1 (by omega) (by omega)
end Go.Proofs.YtnebmgiajfbnaaaDoor
