/-
  TowerRules: the walk.
-/
import Derived.Test.YtnebmgiajfbnaaaDoorTwN
namespace Go.Proofs.YtnebmgiajfbnaaaDoor
set_option linter.unusedSimpArgs false
set_option linter.unusedVariables false
open Go.RowKit
theorem T12.conj_mul (x y : T12) : (x * y).conj = x.conj * y.conj := by
  apply T12.same
  · show x.a * y.a + (x.b * y.b).shift = x.a * y.a + (-x.b * -y.b).shift
    rw [C3.rg.muln, ← C3.rg.nmul, C3.rg.nn]
  · show -(x.a * y.b + x.b * y.a) = x.a * -y.b + -x.b * y.a
    rw [C3.rg.nadd, C3.rg.muln, ← C3.rg.nmul x.b y.a]

attribute [local irreducible] wpL wpF fr Code.wp bodyPost
set_option maxRecDepth 100000 in
set_option maxHeartbeats 4000000 in
theorem t_rules_long (A0 : Option Addr) (L0 C0 : Nat) (bs0 : List Int) (A1 : Option Addr) (L1 C1 : Nat) (bs1 : List Int) (A2 : Option Addr) (L2 C2 : Nat) (bs2 : List Int) (v : World) (hG : Glo v) (hr0 : Reads v v.heap.size A0 L0 (bs0.map (Value.int .u8))) (ho0 : Oct bs0) (hr1 : Reads v v.heap.size A1 L1 (bs1.map (Value.int .u8))) (ho1 : Oct bs1) (hr2 : Reads v v.heap.size A2 L2 (bs2.map (Value.int .u8))) (ho2 : Oct bs2) (hlong : 2000 < L0 ∨ 2000 < L1) : Rets 7 #[.slice A0 L0 C0, .slice A1 L1 C1, .slice A2 L2 C2] v (.bool true) := by
  refine calls_fr3 Tryd.func7 rfl (by rfl : _ = 98) (by rfl) ?_
  have hw := Hbl.nil v
  refine seq_plain hw [0] (by rfl) ?_
  refine L_val (.bool false) (by rfl) (by rfl) (gives_value _ fun _ => by rfl) ?_
  refine L_end ?_
  intro w1 hw1
  refine wp_seq ?_
  refine seq_plain hw1 [0, 1] (by rfl) ?_
  refine L_val (.bool true) (by rfl) (by rfl) (gives_call (vl := []) (by kernel_rfl) (by rfl) (fun w h => t_head w (hG.keep h.below))) ?_
  refine L_val (.bool false) (by rfl) (by rfl) (gives_value _ fun _ => by rfl) ?_
  refine L_end ?_
  intro w2 hw2
  refine wp_cond_false (fr_at _ _ (by rfl) _) ?_
  refine wp_skip ?_
  change Code.wp _ _ _ _ _
  refine wp_seq ?_
  refine seq_plain hw2 [0, 1, 2, 3, 4, 5, 6, 7] (by rfl) ?_
  refine L_val (.slice A0 L0 C0) (by rfl) (by rfl) (gives_value _ fun _ => by rfl) ?_
  refine L_val (.slice A1 L1 C1) (by rfl) (by rfl) (gives_value _ fun _ => by rfl) ?_
  refine L_val (.bool true) (by rfl) (by rfl) (gives_call (vl := [.slice A0 L0 C0, .slice A1 L1 C1]) (by kernel_rfl) (by rfl) (fun w h => tlong_yes _ _ _ _ _ _ w (by omega))) ?_
  refine L_val (.bool true) (by rfl) (by rfl) (gives_value _ fun _ => by rfl) ?_
  refine L_skip (dj := 18) (by rfl) (by rfl) (by rfl) (by rfl) (by rfl) ?_
  refine L_skip (dj := 18) (by rfl) (by rfl) (by rfl) (by rfl) (by rfl) ?_
  refine L_skip (dj := 18) (by rfl) (by rfl) (by rfl) (by rfl) (by rfl) ?_
  refine L_val (.bool true) (by rfl) (by rfl) (gives_value _ fun _ => by rfl) ?_
  refine L_end ?_
  intro w3 hw3
  refine wp_cond_true (fr_at _ _ (by rfl) _) ?_
  refine seq_plain hw3 [0] (by rfl) ?_
  refine L_val (.bool true) (by rfl) (by rfl) (gives_value _ fun _ => by rfl) ?_
  refine L_end ?_
  intro w4 hw4
  refine wp_ret ?_
  change bodyPost _ _ _ Exit.ret _ _
  refine (ret_tmp (by rfl) (by rfl) (by rfl) ⟨rfl, hw4.below⟩)
set_option maxRecDepth 100000 in
set_option maxHeartbeats 4000000 in
theorem t_rules_long3 (A0 : Option Addr) (L0 C0 : Nat) (bs0 : List Int) (A1 : Option Addr) (L1 C1 : Nat) (bs1 : List Int) (A2 : Option Addr) (L2 C2 : Nat) (bs2 : List Int) (v : World) (hG : Glo v) (hr0 : Reads v v.heap.size A0 L0 (bs0.map (Value.int .u8))) (ho0 : Oct bs0) (hr1 : Reads v v.heap.size A1 L1 (bs1.map (Value.int .u8))) (ho1 : Oct bs1) (hr2 : Reads v v.heap.size A2 L2 (bs2.map (Value.int .u8))) (ho2 : Oct bs2) (hs0 : L0 ≤ 2000) (hs1 : L1 ≤ 2000) (hlong : 2000 < L2) : Rets 7 #[.slice A0 L0 C0, .slice A1 L1 C1, .slice A2 L2 C2] v (.bool true) := by
  refine calls_fr3 Tryd.func7 rfl (by rfl : _ = 98) (by rfl) ?_
  have hw := Hbl.nil v
  refine seq_plain hw [0] (by rfl) ?_
  refine L_val (.bool false) (by rfl) (by rfl) (gives_value _ fun _ => by rfl) ?_
  refine L_end ?_
  intro w1 hw1
  refine wp_seq ?_
  refine seq_plain hw1 [0, 1] (by rfl) ?_
  refine L_val (.bool true) (by rfl) (by rfl) (gives_call (vl := []) (by kernel_rfl) (by rfl) (fun w h => t_head w (hG.keep h.below))) ?_
  refine L_val (.bool false) (by rfl) (by rfl) (gives_value _ fun _ => by rfl) ?_
  refine L_end ?_
  intro w2 hw2
  refine wp_cond_false (fr_at _ _ (by rfl) _) ?_
  refine wp_skip ?_
  change Code.wp _ _ _ _ _
  refine wp_seq ?_
  refine seq_plain hw2 [0, 1, 2, 3, 4, 5, 6, 7] (by rfl) ?_
  refine L_val (.slice A0 L0 C0) (by rfl) (by rfl) (gives_value _ fun _ => by rfl) ?_
  refine L_val (.slice A1 L1 C1) (by rfl) (by rfl) (gives_value _ fun _ => by rfl) ?_
  refine L_val (.bool false) (by rfl) (by rfl) (gives_call (vl := [.slice A0 L0 C0, .slice A1 L1 C1]) (by kernel_rfl) (by rfl) (fun w h => tlong_no _ _ _ _ _ _ w (by omega) (by omega))) ?_
  refine L_val (.bool false) (by rfl) (by rfl) (gives_value _ fun _ => by rfl) ?_
  refine L_val_g (dj := 18) (.slice A2 L2 C2) (by rfl) (by rfl) (by rfl) (by rfl) (by rfl) (gives_value _ fun _ => by rfl) ?_
  refine L_val_g (dj := 18) (.int .i64 (L2 : Int)) (by rfl) (by rfl) (by rfl) (by rfl) (by rfl) (gives_len _ L2 C2 und_u8s (by rfl)) ?_
  refine L_val_g (dj := 18) (.bool true) (by rfl) (by rfl) (by rfl) (by rfl) (by rfl) (gives_gtr (k := .i64) ((L2 : Int)) (2000) true (by rfl) (by rfl) (decide_eq_true (by omega))) ?_
  refine L_val (.bool true) (by rfl) (by rfl) (gives_value _ fun _ => by rfl) ?_
  refine L_end ?_
  intro w3 hw3
  refine wp_cond_true (fr_at _ _ (by rfl) _) ?_
  refine seq_plain hw3 [0] (by rfl) ?_
  refine L_val (.bool true) (by rfl) (by rfl) (gives_value _ fun _ => by rfl) ?_
  refine L_end ?_
  intro w4 hw4
  refine wp_ret ?_
  change bodyPost _ _ _ Exit.ret _ _
  refine (ret_tmp (by rfl) (by rfl) (by rfl) ⟨rfl, hw4.below⟩)
set_option maxRecDepth 100000 in
set_option maxHeartbeats 4000000 in
theorem t_rules_short (A0 : Option Addr) (L0 C0 : Nat) (bs0 : List Int) (A1 : Option Addr) (L1 C1 : Nat) (bs1 : List Int) (A2 : Option Addr) (L2 C2 : Nat) (bs2 : List Int) (v : World) (hG : Glo v) (hr0 : Reads v v.heap.size A0 L0 (bs0.map (Value.int .u8))) (ho0 : Oct bs0) (hr1 : Reads v v.heap.size A1 L1 (bs1.map (Value.int .u8))) (ho1 : Oct bs1) (hr2 : Reads v v.heap.size A2 L2 (bs2.map (Value.int .u8))) (ho2 : Oct bs2) (hs0 : L0 ≤ 2000) (hs1 : L1 ≤ 2000) (hs2 : L2 ≤ 2000) : Rets 7 #[.slice A0 L0 C0, .slice A1 L1 C1, .slice A2 L2 C2] v (.bool true) := by
  refine calls_fr3 Tryd.func7 rfl (by rfl : _ = 98) (by rfl) ?_
  have hw := Hbl.nil v
  refine seq_plain hw [0] (by rfl) ?_
  refine L_val (.bool false) (by rfl) (by rfl) (gives_value _ fun _ => by rfl) ?_
  refine L_end ?_
  intro w1 hw1
  refine wp_seq ?_
  refine seq_plain hw1 [0, 1] (by rfl) ?_
  refine L_val (.bool true) (by rfl) (by rfl) (gives_call (vl := []) (by kernel_rfl) (by rfl) (fun w h => t_head w (hG.keep h.below))) ?_
  refine L_val (.bool false) (by rfl) (by rfl) (gives_value _ fun _ => by rfl) ?_
  refine L_end ?_
  intro w2 hw2
  refine wp_cond_false (fr_at _ _ (by rfl) _) ?_
  refine wp_skip ?_
  change Code.wp _ _ _ _ _
  refine wp_seq ?_
  refine seq_plain hw2 [0, 1, 2, 3, 4, 5, 6, 7] (by rfl) ?_
  refine L_val (.slice A0 L0 C0) (by rfl) (by rfl) (gives_value _ fun _ => by rfl) ?_
  refine L_val (.slice A1 L1 C1) (by rfl) (by rfl) (gives_value _ fun _ => by rfl) ?_
  refine L_val (.bool false) (by rfl) (by rfl) (gives_call (vl := [.slice A0 L0 C0, .slice A1 L1 C1]) (by kernel_rfl) (by rfl) (fun w h => tlong_no _ _ _ _ _ _ w (by omega) (by omega))) ?_
  refine L_val (.bool false) (by rfl) (by rfl) (gives_value _ fun _ => by rfl) ?_
  refine L_val_g (dj := 18) (.slice A2 L2 C2) (by rfl) (by rfl) (by rfl) (by rfl) (by rfl) (gives_value _ fun _ => by rfl) ?_
  refine L_val_g (dj := 18) (.int .i64 (L2 : Int)) (by rfl) (by rfl) (by rfl) (by rfl) (by rfl) (gives_len _ L2 C2 und_u8s (by rfl)) ?_
  refine L_val_g (dj := 18) (.bool false) (by rfl) (by rfl) (by rfl) (by rfl) (by rfl) (gives_gtr (k := .i64) ((L2 : Int)) (2000) false (by rfl) (by rfl) (decide_eq_false (by omega))) ?_
  refine L_val (.bool false) (by rfl) (by rfl) (gives_value _ fun _ => by rfl) ?_
  refine L_end ?_
  intro w3 hw3
  refine wp_cond_false (fr_at _ _ (by rfl) _) ?_
  refine wp_skip ?_
  change Code.wp _ _ _ _ _
  refine seq_plain hw3 [0, 1, 2, 3, 4, 5, 6, 7, 8] (by rfl) ?_
  refine L_val (.slice A0 L0 C0) (by rfl) (by rfl) (gives_value _ fun _ => by rfl) ?_
  refine L_callE (A := (Array Value)) (B := T12) (vl := [.slice A0 L0 C0]) (fun a b => .tuple #[.agg a, .agg (c12 b)]) (fun u _ => u.size = 12 ∧ u.all (·.oneCell') = true) (by rfl) (by rfl) Want.none (by kernel_rfl) (by rfl) (fun w h => number_any A0 L0 C0 bs0 w (hG.keep h.below) ((hr0.below h.below).more h.below.size) ho0 (by omega)) ?_; intro u_1 x_1 hu_1
  rcases Classical.em (x_1 = 0) with hz | hz
  ·
    refine L_val (.tuple #[.agg u_1, .agg (c12 (x_1))]) (by rfl) (by rfl) (gives_value _ fun _ => by rfl) ?_
    refine L_val (.agg u_1) (by rfl) (by rfl) (gives_value _ fun _ => by kernel_rfl) ?_
    refine L_val (.agg (c12 (x_1))) (by rfl) (by rfl) (gives_value _ fun _ => by kernel_rfl) ?_
    refine L_alloc _ (by rfl) (by rfl) z_aN (joinA [#[.slice none 0 0, .slice none 0 0], #[.slice none 0 0, .slice none 0 0], #[.slice none 0 0, .slice none 0 0], #[.slice none 0 0, .slice none 0 0], #[.slice none 0 0, .slice none 0 0], #[.slice none 0 0, .slice none 0 0]]) rfl ?_; intro g1
    refine L_alloc _ (by rfl) (by rfl) z_12 (c12 (0 : T12)) rfl ?_; intro g2
    refine L_store (t := 47) 1 g1 (joinA [#[.slice none 0 0, .slice none 0 0], #[.slice none 0 0, .slice none 0 0], #[.slice none 0 0, .slice none 0 0], #[.slice none 0 0, .slice none 0 0], #[.slice none 0 0, .slice none 0 0], #[.slice none 0 0, .slice none 0 0]]) u_1 (by rfl) (by rfl) (by rfl) (by rfl) (by rfl) (hi_opN hu_1.1) ((joinC_size 2 _ (by simp)).trans hu_1.1.symm) hu_1.2 ?_
    simp only [List.set_cons_zero, List.set_cons_succ]
    refine L_store (t := 51) 0 g2 (c12 (0 : T12)) (c12 (x_1)) (by rfl) (by rfl) (by rfl) (by rfl) (by rfl) (hi_12 _) ((c12_size _).trans (c12_size _).symm) (c12_one _) ?_
    simp only [List.set_cons_zero, List.set_cons_succ]
    refine L_end ?_
    intro w4 hw4
    refine seq_plain hw4 [0, 1, 2, 3, 4, 5, 6, 7, 8] (by rfl) ?_
    refine L_val (.slice A1 L1 C1) (by rfl) (by rfl) (gives_value _ fun _ => by rfl) ?_
    refine L_callE (A := (Array Value)) (B := T12) (vl := [.slice A1 L1 C1]) (fun a b => .tuple #[.agg a, .agg (c12 b)]) (fun u _ => u.size = 12 ∧ u.all (·.oneCell') = true) (by rfl) (by rfl) Want.none (by kernel_rfl) (by rfl) (fun w h => number_any A1 L1 C1 bs1 w (hG.keep h.below) ((hr1.below h.below).more h.below.size) ho1 (by omega)) ?_; intro u_2 x_2 hu_2
    refine L_val (.tuple #[.agg u_2, .agg (c12 (x_2))]) (by rfl) (by rfl) (gives_value _ fun _ => by rfl) ?_
    refine L_val (.agg u_2) (by rfl) (by rfl) (gives_value _ fun _ => by kernel_rfl) ?_
    refine L_val (.agg (c12 (x_2))) (by rfl) (by rfl) (gives_value _ fun _ => by kernel_rfl) ?_
    refine L_alloc _ (by rfl) (by rfl) z_aN (joinA [#[.slice none 0 0, .slice none 0 0], #[.slice none 0 0, .slice none 0 0], #[.slice none 0 0, .slice none 0 0], #[.slice none 0 0, .slice none 0 0], #[.slice none 0 0, .slice none 0 0], #[.slice none 0 0, .slice none 0 0]]) rfl ?_; intro g3
    refine L_alloc _ (by rfl) (by rfl) z_12 (c12 (0 : T12)) rfl ?_; intro g4
    refine L_store (t := 47) 1 g3 (joinA [#[.slice none 0 0, .slice none 0 0], #[.slice none 0 0, .slice none 0 0], #[.slice none 0 0, .slice none 0 0], #[.slice none 0 0, .slice none 0 0], #[.slice none 0 0, .slice none 0 0], #[.slice none 0 0, .slice none 0 0]]) u_2 (by rfl) (by rfl) (by rfl) (by rfl) (by rfl) (hi_opN hu_2.1) ((joinC_size 2 _ (by simp)).trans hu_2.1.symm) hu_2.2 ?_
    simp only [List.set_cons_zero, List.set_cons_succ]
    refine L_store (t := 51) 0 g4 (c12 (0 : T12)) (c12 (x_2)) (by rfl) (by rfl) (by rfl) (by rfl) (by rfl) (hi_12 _) ((c12_size _).trans (c12_size _).symm) (c12_one _) ?_
    simp only [List.set_cons_zero, List.set_cons_succ]
    refine L_end ?_
    intro w5 hw5
    refine seq_plain hw5 [0, 1, 2, 3, 4, 5, 6, 7, 8] (by rfl) ?_
    refine L_val (.slice A2 L2 C2) (by rfl) (by rfl) (gives_value _ fun _ => by rfl) ?_
    refine L_callE (A := (Array Value)) (B := T12) (vl := [.slice A2 L2 C2]) (fun a b => .tuple #[.agg a, .agg (c12 b)]) (fun u _ => u.size = 12 ∧ u.all (·.oneCell') = true) (by rfl) (by rfl) Want.none (by kernel_rfl) (by rfl) (fun w h => number_any A2 L2 C2 bs2 w (hG.keep h.below) ((hr2.below h.below).more h.below.size) ho2 (by omega)) ?_; intro u_3 x_3 hu_3
    refine L_val (.tuple #[.agg u_3, .agg (c12 (x_3))]) (by rfl) (by rfl) (gives_value _ fun _ => by rfl) ?_
    refine L_val (.agg u_3) (by rfl) (by rfl) (gives_value _ fun _ => by kernel_rfl) ?_
    refine L_val (.agg (c12 (x_3))) (by rfl) (by rfl) (gives_value _ fun _ => by kernel_rfl) ?_
    refine L_alloc _ (by rfl) (by rfl) z_aN (joinA [#[.slice none 0 0, .slice none 0 0], #[.slice none 0 0, .slice none 0 0], #[.slice none 0 0, .slice none 0 0], #[.slice none 0 0, .slice none 0 0], #[.slice none 0 0, .slice none 0 0], #[.slice none 0 0, .slice none 0 0]]) rfl ?_; intro g5
    refine L_alloc _ (by rfl) (by rfl) z_12 (c12 (0 : T12)) rfl ?_; intro g6
    refine L_store (t := 47) 1 g5 (joinA [#[.slice none 0 0, .slice none 0 0], #[.slice none 0 0, .slice none 0 0], #[.slice none 0 0, .slice none 0 0], #[.slice none 0 0, .slice none 0 0], #[.slice none 0 0, .slice none 0 0], #[.slice none 0 0, .slice none 0 0]]) u_3 (by rfl) (by rfl) (by rfl) (by rfl) (by rfl) (hi_opN hu_3.1) ((joinC_size 2 _ (by simp)).trans hu_3.1.symm) hu_3.2 ?_
    simp only [List.set_cons_zero, List.set_cons_succ]
    refine L_store (t := 51) 0 g6 (c12 (0 : T12)) (c12 (x_3)) (by rfl) (by rfl) (by rfl) (by rfl) (by rfl) (hi_12 _) ((c12_size _).trans (c12_size _).symm) (c12_one _) ?_
    simp only [List.set_cons_zero, List.set_cons_succ]
    refine L_end ?_
    intro w6 hw6
    refine wp_seq ?_
    refine seq_flow (by kernel_rfl) hw6 [] [(g6, 51, (c12 (x_3))), (g5, 47, u_3), (g4, 51, (c12 (x_2))), (g3, 47, u_2), (g2, 51, (c12 (x_1))), (g1, 47, u_1)] 47 (by rfl) ?_
    refine flow_take (i := 0) (.agg (c12 (x_1))) (by rfl) (by kernel_rfl) (by kernel_rfl) (by kernel_rfl) (by rfl) (by kernel_rfl) (List.Sublist.refl _) (gives_load g2 0 51 (c12 (x_1)) (c12 (x_1)) _ (by rfl) (fun _ h => h.blk 4 (by rfl)) (Sl.refl _) Tryd.underlying51 (by rfl) (hi_12 _)) ?_
    refine flow_take (i := 1) (.agg (c12 (x_2))) (by rfl) (by kernel_rfl) (by kernel_rfl) (by kernel_rfl) (by rfl) (by kernel_rfl) (List.Sublist.refl _) (gives_load g4 0 51 (c12 (x_2)) (c12 (x_2)) _ (by rfl) (fun _ h => h.blk 2 (by rfl)) (Sl.refl _) Tryd.underlying51 (by rfl) (hi_12 _)) ?_
    refine flow_take (i := 2) (.agg (c12 ((x_1) * (x_2)))) (by rfl) (by kernel_rfl) (by kernel_rfl) (by kernel_rfl) (by rfl) (by kernel_rfl) (List.Sublist.refl _) (gives_call (vl := [.agg (c12 (x_1)), .agg (c12 (x_2))]) (by kernel_rfl) (by rfl) (fun w h => t_mul _ _ w (hG.keep h.below))) ?_
    refine flow_take (i := 3) (.agg (c12 (x_2))) (by rfl) (by kernel_rfl) (by kernel_rfl) (by kernel_rfl) (by rfl) (by kernel_rfl) (List.Sublist.refl _) (gives_load g4 0 51 (c12 (x_2)) (c12 (x_2)) _ (by rfl) (fun _ h => h.blk 2 (by rfl)) (Sl.refl _) Tryd.underlying51 (by rfl) (hi_12 _)) ?_
    refine flow_take (i := 4) (.agg (c12 (x_1))) (by rfl) (by kernel_rfl) (by kernel_rfl) (by kernel_rfl) (by rfl) (by kernel_rfl) (List.Sublist.refl _) (gives_load g2 0 51 (c12 (x_1)) (c12 (x_1)) _ (by rfl) (fun _ h => h.blk 4 (by rfl)) (Sl.refl _) Tryd.underlying51 (by rfl) (hi_12 _)) ?_
    refine flow_take (i := 5) (.agg (c12 ((x_2) * (x_1)))) (by rfl) (by kernel_rfl) (by kernel_rfl) (by kernel_rfl) (by rfl) (by kernel_rfl) (List.Sublist.refl _) (gives_call (vl := [.agg (c12 (x_2)), .agg (c12 (x_1))]) (by kernel_rfl) (by rfl) (fun w h => t_mul _ _ w (hG.keep h.below))) ?_
    refine flow_take (i := 6) (.bool false) (by rfl) (by kernel_rfl) (by kernel_rfl) (by kernel_rfl) (by rfl) (by kernel_rfl) (List.Sublist.refl _) (gives_neq (c12 ((x_1) * (x_2))) (c12 ((x_2) * (x_1))) true (by rfl) (by rfl) (by kernel_rfl) (fun w => eq_12_t (d := 9994) w (T12.cr.mul_comm _ _))) ?_
    refine flow_take (i := 7) (.bool false) (by rfl) (by kernel_rfl) (by kernel_rfl) (by kernel_rfl) (by rfl) (by kernel_rfl) (List.Sublist.refl _) (gives_value _ fun _ => by rfl) ?_
    refine flow_take_g (i := 8) (dj := 45) (.agg (c12 (x_1))) (by rfl) (by kernel_rfl) (by kernel_rfl) (by kernel_rfl) (by rfl) (by kernel_rfl) (List.Sublist.refl _) (by rfl) (by rfl) (by rfl) (gives_load g2 0 51 (c12 (x_1)) (c12 (x_1)) _ (by rfl) (fun _ h => h.blk 4 (by rfl)) (Sl.refl _) Tryd.underlying51 (by rfl) (hi_12 _)) ?_
    refine flow_take_g (i := 9) (dj := 45) (.agg (c12 (x_2))) (by rfl) (by kernel_rfl) (by kernel_rfl) (by kernel_rfl) (by rfl) (by kernel_rfl) (List.Sublist.refl _) (by rfl) (by rfl) (by rfl) (gives_load g4 0 51 (c12 (x_2)) (c12 (x_2)) _ (by rfl) (fun _ h => h.blk 2 (by rfl)) (Sl.refl _) Tryd.underlying51 (by rfl) (hi_12 _)) ?_
    refine flow_take_g (i := 10) (dj := 45) (.agg (c12 ((x_1) * (x_2)))) (by rfl) (by kernel_rfl) (by kernel_rfl) (by kernel_rfl) (by rfl) (by kernel_rfl) (List.Sublist.refl _) (by rfl) (by rfl) (by rfl) (gives_call (vl := [.agg (c12 (x_1)), .agg (c12 (x_2))]) (by kernel_rfl) (by rfl) (fun w h => t_mul _ _ w (hG.keep h.below))) ?_
    refine flow_take_g (i := 11) (dj := 45) (.agg (c12 (x_3))) (by rfl) (by kernel_rfl) (by kernel_rfl) (by kernel_rfl) (by rfl) (by kernel_rfl) (List.Sublist.refl _) (by rfl) (by rfl) (by rfl) (gives_load g6 0 51 (c12 (x_3)) (c12 (x_3)) _ (by rfl) (fun _ h => h.blk 0 (by rfl)) (Sl.refl _) Tryd.underlying51 (by rfl) (hi_12 _)) ?_
    refine flow_take_g (i := 12) (dj := 45) (.agg (c12 (((x_1) * (x_2)) * (x_3)))) (by rfl) (by kernel_rfl) (by kernel_rfl) (by kernel_rfl) (by rfl) (by kernel_rfl) (List.Sublist.refl _) (by rfl) (by rfl) (by rfl) (gives_call (vl := [.agg (c12 ((x_1) * (x_2))), .agg (c12 (x_3))]) (by kernel_rfl) (by rfl) (fun w h => t_mul _ _ w (hG.keep h.below))) ?_
    refine flow_take_g (i := 13) (dj := 45) (.agg (c12 (x_1))) (by rfl) (by kernel_rfl) (by kernel_rfl) (by kernel_rfl) (by rfl) (by kernel_rfl) (List.Sublist.refl _) (by rfl) (by rfl) (by rfl) (gives_load g2 0 51 (c12 (x_1)) (c12 (x_1)) _ (by rfl) (fun _ h => h.blk 4 (by rfl)) (Sl.refl _) Tryd.underlying51 (by rfl) (hi_12 _)) ?_
    refine flow_take_g (i := 14) (dj := 45) (.agg (c12 (x_2))) (by rfl) (by kernel_rfl) (by kernel_rfl) (by kernel_rfl) (by rfl) (by kernel_rfl) (List.Sublist.refl _) (by rfl) (by rfl) (by rfl) (gives_load g4 0 51 (c12 (x_2)) (c12 (x_2)) _ (by rfl) (fun _ h => h.blk 2 (by rfl)) (Sl.refl _) Tryd.underlying51 (by rfl) (hi_12 _)) ?_
    refine flow_take_g (i := 15) (dj := 45) (.agg (c12 (x_3))) (by rfl) (by kernel_rfl) (by kernel_rfl) (by kernel_rfl) (by rfl) (by kernel_rfl) (List.Sublist.refl _) (by rfl) (by rfl) (by rfl) (gives_load g6 0 51 (c12 (x_3)) (c12 (x_3)) _ (by rfl) (fun _ h => h.blk 0 (by rfl)) (Sl.refl _) Tryd.underlying51 (by rfl) (hi_12 _)) ?_
    refine flow_take_g (i := 16) (dj := 45) (.agg (c12 ((x_2) * (x_3)))) (by rfl) (by kernel_rfl) (by kernel_rfl) (by kernel_rfl) (by rfl) (by kernel_rfl) (List.Sublist.refl _) (by rfl) (by rfl) (by rfl) (gives_call (vl := [.agg (c12 (x_2)), .agg (c12 (x_3))]) (by kernel_rfl) (by rfl) (fun w h => t_mul _ _ w (hG.keep h.below))) ?_
    refine flow_take_g (i := 17) (dj := 45) (.agg (c12 ((x_1) * ((x_2) * (x_3))))) (by rfl) (by kernel_rfl) (by kernel_rfl) (by kernel_rfl) (by rfl) (by kernel_rfl) (List.Sublist.refl _) (by rfl) (by rfl) (by rfl) (gives_call (vl := [.agg (c12 (x_1)), .agg (c12 ((x_2) * (x_3)))]) (by kernel_rfl) (by rfl) (fun w h => t_mul _ _ w (hG.keep h.below))) ?_
    refine flow_take_g (i := 18) (dj := 45) (.bool false) (by rfl) (by kernel_rfl) (by kernel_rfl) (by kernel_rfl) (by rfl) (by kernel_rfl) (List.Sublist.refl _) (by rfl) (by rfl) (by rfl) (gives_neq (c12 (((x_1) * (x_2)) * (x_3))) (c12 ((x_1) * ((x_2) * (x_3)))) true (by rfl) (by rfl) (by kernel_rfl) (fun w => eq_12_t (d := 9994) w (T12.cr.mul_assoc _ _ _))) ?_
    refine flow_take (i := 19) (.bool false) (by rfl) (by kernel_rfl) (by kernel_rfl) (by kernel_rfl) (by rfl) (by kernel_rfl) (List.Sublist.refl _) (gives_value _ fun _ => by rfl) ?_
    refine flow_take (i := 20) (.bool false) (by rfl) (by kernel_rfl) (by kernel_rfl) (by kernel_rfl) (by rfl) (by kernel_rfl) (List.Sublist.refl _) (gives_value _ fun _ => by rfl) ?_
    refine flow_take_g (i := 21) (dj := 58) (.agg (c12 (x_1))) (by rfl) (by kernel_rfl) (by kernel_rfl) (by kernel_rfl) (by rfl) (by kernel_rfl) (List.Sublist.refl _) (by rfl) (by rfl) (by rfl) (gives_load g2 0 51 (c12 (x_1)) (c12 (x_1)) _ (by rfl) (fun _ h => h.blk 4 (by rfl)) (Sl.refl _) Tryd.underlying51 (by rfl) (hi_12 _)) ?_
    refine flow_take_g (i := 22) (dj := 58) (.agg (c12 ((x_1) * (x_1)))) (by rfl) (by kernel_rfl) (by kernel_rfl) (by kernel_rfl) (by rfl) (by kernel_rfl) (List.Sublist.refl _) (by rfl) (by rfl) (by rfl) (gives_call (vl := [.agg (c12 (x_1))]) (by kernel_rfl) (by rfl) (fun w h => t_square _ w (hG.keep h.below))) ?_
    refine flow_take_g (i := 23) (dj := 58) (.agg (c12 (x_1))) (by rfl) (by kernel_rfl) (by kernel_rfl) (by kernel_rfl) (by rfl) (by kernel_rfl) (List.Sublist.refl _) (by rfl) (by rfl) (by rfl) (gives_load g2 0 51 (c12 (x_1)) (c12 (x_1)) _ (by rfl) (fun _ h => h.blk 4 (by rfl)) (Sl.refl _) Tryd.underlying51 (by rfl) (hi_12 _)) ?_
    refine flow_take_g (i := 24) (dj := 58) (.agg (c12 (x_1))) (by rfl) (by kernel_rfl) (by kernel_rfl) (by kernel_rfl) (by rfl) (by kernel_rfl) (List.Sublist.refl _) (by rfl) (by rfl) (by rfl) (gives_load g2 0 51 (c12 (x_1)) (c12 (x_1)) _ (by rfl) (fun _ h => h.blk 4 (by rfl)) (Sl.refl _) Tryd.underlying51 (by rfl) (hi_12 _)) ?_
    refine flow_take_g (i := 25) (dj := 58) (.agg (c12 ((x_1) * (x_1)))) (by rfl) (by kernel_rfl) (by kernel_rfl) (by kernel_rfl) (by rfl) (by kernel_rfl) (List.Sublist.refl _) (by rfl) (by rfl) (by rfl) (gives_call (vl := [.agg (c12 (x_1)), .agg (c12 (x_1))]) (by kernel_rfl) (by rfl) (fun w h => t_mul _ _ w (hG.keep h.below))) ?_
    refine flow_take_g (i := 26) (dj := 58) (.bool false) (by rfl) (by kernel_rfl) (by kernel_rfl) (by kernel_rfl) (by rfl) (by kernel_rfl) (List.Sublist.refl _) (by rfl) (by rfl) (by rfl) (gives_neq (c12 ((x_1) * (x_1))) (c12 ((x_1) * (x_1))) true (by rfl) (by rfl) (by kernel_rfl) (fun w => eq_12_t (d := 9994) w (rfl : ((x_1) * (x_1)) = ((x_1) * (x_1))))) ?_
    refine flow_take (i := 27) (.bool false) (by rfl) (by kernel_rfl) (by kernel_rfl) (by kernel_rfl) (by rfl) (by kernel_rfl) (List.Sublist.refl _) (gives_value _ fun _ => by rfl) ?_
    refine flow_take (i := 28) (.bool false) (by rfl) (by kernel_rfl) (by kernel_rfl) (by kernel_rfl) (by rfl) (by kernel_rfl) (List.Sublist.refl _) (gives_value _ fun _ => by rfl) ?_
    refine flow_take_g (i := 29) (dj := 66) (.agg (c12 (x_1))) (by rfl) (by kernel_rfl) (by kernel_rfl) (by kernel_rfl) (by rfl) (by kernel_rfl) (List.Sublist.refl _) (by rfl) (by rfl) (by rfl) (gives_load g2 0 51 (c12 (x_1)) (c12 (x_1)) _ (by rfl) (fun _ h => h.blk 4 (by rfl)) (Sl.refl _) Tryd.underlying51 (by rfl) (hi_12 _)) ?_
    refine flow_take_g (i := 30) (dj := 66) (.agg (c12 (1 : T12))) (by rfl) (by kernel_rfl) (by kernel_rfl) (by kernel_rfl) (by rfl) (by kernel_rfl) (List.Sublist.refl _) (by rfl) (by rfl) (by rfl) (gives_call (vl := []) (by kernel_rfl) (by rfl) (fun w h => t_one w (hG.keep h.below))) ?_
    refine flow_take_g (i := 31) (dj := 66) (.agg (c12 ((x_1) * (1 : T12)))) (by rfl) (by kernel_rfl) (by kernel_rfl) (by kernel_rfl) (by rfl) (by kernel_rfl) (List.Sublist.refl _) (by rfl) (by rfl) (by rfl) (gives_call (vl := [.agg (c12 (x_1)), .agg (c12 (1 : T12))]) (by kernel_rfl) (by rfl) (fun w h => t_mul _ _ w (hG.keep h.below))) ?_
    refine flow_take_g (i := 32) (dj := 66) (.agg (c12 (x_1))) (by rfl) (by kernel_rfl) (by kernel_rfl) (by kernel_rfl) (by rfl) (by kernel_rfl) (List.Sublist.refl _) (by rfl) (by rfl) (by rfl) (gives_load g2 0 51 (c12 (x_1)) (c12 (x_1)) _ (by rfl) (fun _ h => h.blk 4 (by rfl)) (Sl.refl _) Tryd.underlying51 (by rfl) (hi_12 _)) ?_
    refine flow_take_g (i := 33) (dj := 66) (.bool false) (by rfl) (by kernel_rfl) (by kernel_rfl) (by kernel_rfl) (by rfl) (by kernel_rfl) (List.Sublist.refl _) (by rfl) (by rfl) (by rfl) (gives_neq (c12 ((x_1) * (1 : T12))) (c12 (x_1)) true (by rfl) (by rfl) (by kernel_rfl) (fun w => eq_12_t (d := 9994) w (T12.cr.mul_one _))) ?_
    refine flow_take (i := 34) (.bool false) (by rfl) (by kernel_rfl) (by kernel_rfl) (by kernel_rfl) (by rfl) (by kernel_rfl) (List.Sublist.refl _) (gives_value _ fun _ => by rfl) ?_
    refine flow_take (i := 35) (.bool false) (by rfl) (by kernel_rfl) (by kernel_rfl) (by kernel_rfl) (by rfl) (by kernel_rfl) (List.Sublist.refl _) (gives_value _ fun _ => by rfl) ?_
    refine flow_take_g (i := 36) (dj := 73) (.agg (c12 (x_1))) (by rfl) (by kernel_rfl) (by kernel_rfl) (by kernel_rfl) (by rfl) (by kernel_rfl) (List.Sublist.refl _) (by rfl) (by rfl) (by rfl) (gives_load g2 0 51 (c12 (x_1)) (c12 (x_1)) _ (by rfl) (fun _ h => h.blk 4 (by rfl)) (Sl.refl _) Tryd.underlying51 (by rfl) (hi_12 _)) ?_
    refine flow_take_g (i := 37) (dj := 73) (.agg (c12 (x_2))) (by rfl) (by kernel_rfl) (by kernel_rfl) (by kernel_rfl) (by rfl) (by kernel_rfl) (List.Sublist.refl _) (by rfl) (by rfl) (by rfl) (gives_load g4 0 51 (c12 (x_2)) (c12 (x_2)) _ (by rfl) (fun _ h => h.blk 2 (by rfl)) (Sl.refl _) Tryd.underlying51 (by rfl) (hi_12 _)) ?_
    refine flow_take_g (i := 38) (dj := 73) (.agg (c12 ((x_1) * (x_2)))) (by rfl) (by kernel_rfl) (by kernel_rfl) (by kernel_rfl) (by rfl) (by kernel_rfl) (List.Sublist.refl _) (by rfl) (by rfl) (by rfl) (gives_call (vl := [.agg (c12 (x_1)), .agg (c12 (x_2))]) (by kernel_rfl) (by rfl) (fun w h => t_mul _ _ w (hG.keep h.below))) ?_
    refine flow_take_g (i := 39) (dj := 73) (.agg (c12 (T12.conj ((x_1) * (x_2))))) (by rfl) (by kernel_rfl) (by kernel_rfl) (by kernel_rfl) (by rfl) (by kernel_rfl) (List.Sublist.refl _) (by rfl) (by rfl) (by rfl) (gives_call (vl := [.agg (c12 ((x_1) * (x_2)))]) (by kernel_rfl) (by rfl) (fun w h => t_conj _ w (hG.keep h.below))) ?_
    refine flow_take_g (i := 40) (dj := 73) (.agg (c12 (x_1))) (by rfl) (by kernel_rfl) (by kernel_rfl) (by kernel_rfl) (by rfl) (by kernel_rfl) (List.Sublist.refl _) (by rfl) (by rfl) (by rfl) (gives_load g2 0 51 (c12 (x_1)) (c12 (x_1)) _ (by rfl) (fun _ h => h.blk 4 (by rfl)) (Sl.refl _) Tryd.underlying51 (by rfl) (hi_12 _)) ?_
    refine flow_take_g (i := 41) (dj := 73) (.agg (c12 (T12.conj (x_1)))) (by rfl) (by kernel_rfl) (by kernel_rfl) (by kernel_rfl) (by rfl) (by kernel_rfl) (List.Sublist.refl _) (by rfl) (by rfl) (by rfl) (gives_call (vl := [.agg (c12 (x_1))]) (by kernel_rfl) (by rfl) (fun w h => t_conj _ w (hG.keep h.below))) ?_
    refine flow_take_g (i := 42) (dj := 73) (.agg (c12 (x_2))) (by rfl) (by kernel_rfl) (by kernel_rfl) (by kernel_rfl) (by rfl) (by kernel_rfl) (List.Sublist.refl _) (by rfl) (by rfl) (by rfl) (gives_load g4 0 51 (c12 (x_2)) (c12 (x_2)) _ (by rfl) (fun _ h => h.blk 2 (by rfl)) (Sl.refl _) Tryd.underlying51 (by rfl) (hi_12 _)) ?_
    refine flow_take_g (i := 43) (dj := 73) (.agg (c12 (T12.conj (x_2)))) (by rfl) (by kernel_rfl) (by kernel_rfl) (by kernel_rfl) (by rfl) (by kernel_rfl) (List.Sublist.refl _) (by rfl) (by rfl) (by rfl) (gives_call (vl := [.agg (c12 (x_2))]) (by kernel_rfl) (by rfl) (fun w h => t_conj _ w (hG.keep h.below))) ?_
    refine flow_take_g (i := 44) (dj := 73) (.agg (c12 ((T12.conj (x_1)) * (T12.conj (x_2))))) (by rfl) (by kernel_rfl) (by kernel_rfl) (by kernel_rfl) (by rfl) (by kernel_rfl) (List.Sublist.refl _) (by rfl) (by rfl) (by rfl) (gives_call (vl := [.agg (c12 (T12.conj (x_1))), .agg (c12 (T12.conj (x_2)))]) (by kernel_rfl) (by rfl) (fun w h => t_mul _ _ w (hG.keep h.below))) ?_
    refine flow_take_g (i := 45) (dj := 73) (.bool false) (by rfl) (by kernel_rfl) (by kernel_rfl) (by kernel_rfl) (by rfl) (by kernel_rfl) (List.Sublist.refl _) (by rfl) (by rfl) (by rfl) (gives_neq (c12 (T12.conj ((x_1) * (x_2)))) (c12 ((T12.conj (x_1)) * (T12.conj (x_2)))) true (by rfl) (by rfl) (by kernel_rfl) (fun w => eq_12_t (d := 9994) w (T12.conj_mul _ _))) ?_
    refine flow_take (i := 46) (.bool false) (by rfl) (by kernel_rfl) (by kernel_rfl) (by kernel_rfl) (by rfl) (by kernel_rfl) (List.Sublist.refl _) (gives_value _ fun _ => by rfl) ?_
    refine flow_done (by kernel_rfl) ?_
    intro w7 hw7
    refine wp_cond_false (fr_at _ _ (by rfl) _) ?_
    refine wp_skip ?_
    change Code.wp _ _ _ _ _
    refine wp_seq ?_
    refine seq_plain hw7 [0, 1, 2] (by rfl) ?_
    refine L_val (.agg (c12 (x_1))) (by rfl) (by rfl) (gives_load g2 0 51 (c12 (x_1)) (c12 (x_1)) _ (by rfl) (fun _ h => h.blk 4 (by rfl)) (Sl.refl _) Tryd.underlying51 (by rfl) (hi_12 _)) ?_
    refine L_val (.agg (c12 (0 : T12))) (by rfl) (by rfl) (gb_tower [] trivial (by rfl) (c12 (0 : T12)) (by rfl)) ?_
    refine L_val (.bool true) (by rfl) (by rfl) (gives_eql (c12 (x_1)) (c12 (0 : T12)) true (by rfl) (by rfl) (by kernel_rfl) (fun w => eq_12_t (d := 9994) w hz)) ?_
    refine L_end ?_
    intro w8 hw8
    refine wp_cond_true (fr_at _ _ (by rfl) _) ?_
    refine seq_flow (by kernel_rfl) hw8 [] [(g6, 51, (c12 (x_3))), (g5, 47, u_3), (g4, 51, (c12 (x_2))), (g3, 47, u_2), (g2, 51, (c12 (x_1))), (g1, 47, u_1)] 5 (by rfl) ?_
    refine flow_take (i := 0) (.agg (c12 (x_1))) (by rfl) (by kernel_rfl) (by kernel_rfl) (by kernel_rfl) (by rfl) (by kernel_rfl) (List.Sublist.refl _) (gives_load g2 0 51 (c12 (x_1)) (c12 (x_1)) _ (by rfl) (fun _ h => h.blk 4 (by rfl)) (Sl.refl _) Tryd.underlying51 (by rfl) (hi_12 _)) ?_
    refine flow_take (i := 1) (.agg (c12 (T12.inv (x_1)))) (by rfl) (by kernel_rfl) (by kernel_rfl) (by kernel_rfl) (by rfl) (by kernel_rfl) (List.Sublist.refl _) (gives_call (vl := [.agg (c12 (x_1))]) (by kernel_rfl) (by rfl) (fun w h => t_inv _ w (hG.keep h.below))) ?_
    refine flow_take (i := 2) (.agg (c12 (x_1))) (by rfl) (by kernel_rfl) (by kernel_rfl) (by kernel_rfl) (by rfl) (by kernel_rfl) (List.Sublist.refl _) (gives_load g2 0 51 (c12 (x_1)) (c12 (x_1)) _ (by rfl) (fun _ h => h.blk 4 (by rfl)) (Sl.refl _) Tryd.underlying51 (by rfl) (hi_12 _)) ?_
    refine flow_take (i := 3) (.bool true) (by rfl) (by kernel_rfl) (by kernel_rfl) (by kernel_rfl) (by rfl) (by kernel_rfl) (List.Sublist.refl _) (gives_eql (c12 (T12.inv (x_1))) (c12 (x_1)) true (by rfl) (by rfl) (by kernel_rfl) (fun w => eq_12_t (d := 9994) w (by rw [hz]; exact T12.inv_zero))) ?_
    refine flow_take (i := 4) (.bool true) (by rfl) (by kernel_rfl) (by kernel_rfl) (by kernel_rfl) (by rfl) (by kernel_rfl) (List.Sublist.refl _) (gives_value _ fun _ => by rfl) ?_
    refine flow_done (by kernel_rfl) ?_
    intro w9 hw9
    refine wp_ret ?_
    change bodyPost _ _ _ Exit.ret _ _
    refine (ret_tmp (by rfl) (by rfl) (by rfl) ⟨rfl, hw9.below⟩)
  ·
    refine L_val (.tuple #[.agg u_1, .agg (c12 (x_1))]) (by rfl) (by rfl) (gives_value _ fun _ => by rfl) ?_
    refine L_val (.agg u_1) (by rfl) (by rfl) (gives_value _ fun _ => by kernel_rfl) ?_
    refine L_val (.agg (c12 (x_1))) (by rfl) (by rfl) (gives_value _ fun _ => by kernel_rfl) ?_
    refine L_alloc _ (by rfl) (by rfl) z_aN (joinA [#[.slice none 0 0, .slice none 0 0], #[.slice none 0 0, .slice none 0 0], #[.slice none 0 0, .slice none 0 0], #[.slice none 0 0, .slice none 0 0], #[.slice none 0 0, .slice none 0 0], #[.slice none 0 0, .slice none 0 0]]) rfl ?_; intro g1
    refine L_alloc _ (by rfl) (by rfl) z_12 (c12 (0 : T12)) rfl ?_; intro g2
    refine L_store (t := 47) 1 g1 (joinA [#[.slice none 0 0, .slice none 0 0], #[.slice none 0 0, .slice none 0 0], #[.slice none 0 0, .slice none 0 0], #[.slice none 0 0, .slice none 0 0], #[.slice none 0 0, .slice none 0 0], #[.slice none 0 0, .slice none 0 0]]) u_1 (by rfl) (by rfl) (by rfl) (by rfl) (by rfl) (hi_opN hu_1.1) ((joinC_size 2 _ (by simp)).trans hu_1.1.symm) hu_1.2 ?_
    simp only [List.set_cons_zero, List.set_cons_succ]
    refine L_store (t := 51) 0 g2 (c12 (0 : T12)) (c12 (x_1)) (by rfl) (by rfl) (by rfl) (by rfl) (by rfl) (hi_12 _) ((c12_size _).trans (c12_size _).symm) (c12_one _) ?_
    simp only [List.set_cons_zero, List.set_cons_succ]
    refine L_end ?_
    intro w4 hw4
    refine seq_plain hw4 [0, 1, 2, 3, 4, 5, 6, 7, 8] (by rfl) ?_
    refine L_val (.slice A1 L1 C1) (by rfl) (by rfl) (gives_value _ fun _ => by rfl) ?_
    refine L_callE (A := (Array Value)) (B := T12) (vl := [.slice A1 L1 C1]) (fun a b => .tuple #[.agg a, .agg (c12 b)]) (fun u _ => u.size = 12 ∧ u.all (·.oneCell') = true) (by rfl) (by rfl) Want.none (by kernel_rfl) (by rfl) (fun w h => number_any A1 L1 C1 bs1 w (hG.keep h.below) ((hr1.below h.below).more h.below.size) ho1 (by omega)) ?_; intro u_2 x_2 hu_2
    refine L_val (.tuple #[.agg u_2, .agg (c12 (x_2))]) (by rfl) (by rfl) (gives_value _ fun _ => by rfl) ?_
    refine L_val (.agg u_2) (by rfl) (by rfl) (gives_value _ fun _ => by kernel_rfl) ?_
    refine L_val (.agg (c12 (x_2))) (by rfl) (by rfl) (gives_value _ fun _ => by kernel_rfl) ?_
    refine L_alloc _ (by rfl) (by rfl) z_aN (joinA [#[.slice none 0 0, .slice none 0 0], #[.slice none 0 0, .slice none 0 0], #[.slice none 0 0, .slice none 0 0], #[.slice none 0 0, .slice none 0 0], #[.slice none 0 0, .slice none 0 0], #[.slice none 0 0, .slice none 0 0]]) rfl ?_; intro g3
    refine L_alloc _ (by rfl) (by rfl) z_12 (c12 (0 : T12)) rfl ?_; intro g4
    refine L_store (t := 47) 1 g3 (joinA [#[.slice none 0 0, .slice none 0 0], #[.slice none 0 0, .slice none 0 0], #[.slice none 0 0, .slice none 0 0], #[.slice none 0 0, .slice none 0 0], #[.slice none 0 0, .slice none 0 0], #[.slice none 0 0, .slice none 0 0]]) u_2 (by rfl) (by rfl) (by rfl) (by rfl) (by rfl) (hi_opN hu_2.1) ((joinC_size 2 _ (by simp)).trans hu_2.1.symm) hu_2.2 ?_
    simp only [List.set_cons_zero, List.set_cons_succ]
    refine L_store (t := 51) 0 g4 (c12 (0 : T12)) (c12 (x_2)) (by rfl) (by rfl) (by rfl) (by rfl) (by rfl) (hi_12 _) ((c12_size _).trans (c12_size _).symm) (c12_one _) ?_
    simp only [List.set_cons_zero, List.set_cons_succ]
    refine L_end ?_
    intro w5 hw5
    refine seq_plain hw5 [0, 1, 2, 3, 4, 5, 6, 7, 8] (by rfl) ?_
    refine L_val (.slice A2 L2 C2) (by rfl) (by rfl) (gives_value _ fun _ => by rfl) ?_
    refine L_callE (A := (Array Value)) (B := T12) (vl := [.slice A2 L2 C2]) (fun a b => .tuple #[.agg a, .agg (c12 b)]) (fun u _ => u.size = 12 ∧ u.all (·.oneCell') = true) (by rfl) (by rfl) Want.none (by kernel_rfl) (by rfl) (fun w h => number_any A2 L2 C2 bs2 w (hG.keep h.below) ((hr2.below h.below).more h.below.size) ho2 (by omega)) ?_; intro u_3 x_3 hu_3
    refine L_val (.tuple #[.agg u_3, .agg (c12 (x_3))]) (by rfl) (by rfl) (gives_value _ fun _ => by rfl) ?_
    refine L_val (.agg u_3) (by rfl) (by rfl) (gives_value _ fun _ => by kernel_rfl) ?_
    refine L_val (.agg (c12 (x_3))) (by rfl) (by rfl) (gives_value _ fun _ => by kernel_rfl) ?_
    refine L_alloc _ (by rfl) (by rfl) z_aN (joinA [#[.slice none 0 0, .slice none 0 0], #[.slice none 0 0, .slice none 0 0], #[.slice none 0 0, .slice none 0 0], #[.slice none 0 0, .slice none 0 0], #[.slice none 0 0, .slice none 0 0], #[.slice none 0 0, .slice none 0 0]]) rfl ?_; intro g5
    refine L_alloc _ (by rfl) (by rfl) z_12 (c12 (0 : T12)) rfl ?_; intro g6
    refine L_store (t := 47) 1 g5 (joinA [#[.slice none 0 0, .slice none 0 0], #[.slice none 0 0, .slice none 0 0], #[.slice none 0 0, .slice none 0 0], #[.slice none 0 0, .slice none 0 0], #[.slice none 0 0, .slice none 0 0], #[.slice none 0 0, .slice none 0 0]]) u_3 (by rfl) (by rfl) (by rfl) (by rfl) (by rfl) (hi_opN hu_3.1) ((joinC_size 2 _ (by simp)).trans hu_3.1.symm) hu_3.2 ?_
    simp only [List.set_cons_zero, List.set_cons_succ]
    refine L_store (t := 51) 0 g6 (c12 (0 : T12)) (c12 (x_3)) (by rfl) (by rfl) (by rfl) (by rfl) (by rfl) (hi_12 _) ((c12_size _).trans (c12_size _).symm) (c12_one _) ?_
    simp only [List.set_cons_zero, List.set_cons_succ]
    refine L_end ?_
    intro w6 hw6
    refine wp_seq ?_
    refine seq_flow (by kernel_rfl) hw6 [] [(g6, 51, (c12 (x_3))), (g5, 47, u_3), (g4, 51, (c12 (x_2))), (g3, 47, u_2), (g2, 51, (c12 (x_1))), (g1, 47, u_1)] 47 (by rfl) ?_
    refine flow_take (i := 0) (.agg (c12 (x_1))) (by rfl) (by kernel_rfl) (by kernel_rfl) (by kernel_rfl) (by rfl) (by kernel_rfl) (List.Sublist.refl _) (gives_load g2 0 51 (c12 (x_1)) (c12 (x_1)) _ (by rfl) (fun _ h => h.blk 4 (by rfl)) (Sl.refl _) Tryd.underlying51 (by rfl) (hi_12 _)) ?_
    refine flow_take (i := 1) (.agg (c12 (x_2))) (by rfl) (by kernel_rfl) (by kernel_rfl) (by kernel_rfl) (by rfl) (by kernel_rfl) (List.Sublist.refl _) (gives_load g4 0 51 (c12 (x_2)) (c12 (x_2)) _ (by rfl) (fun _ h => h.blk 2 (by rfl)) (Sl.refl _) Tryd.underlying51 (by rfl) (hi_12 _)) ?_
    refine flow_take (i := 2) (.agg (c12 ((x_1) * (x_2)))) (by rfl) (by kernel_rfl) (by kernel_rfl) (by kernel_rfl) (by rfl) (by kernel_rfl) (List.Sublist.refl _) (gives_call (vl := [.agg (c12 (x_1)), .agg (c12 (x_2))]) (by kernel_rfl) (by rfl) (fun w h => t_mul _ _ w (hG.keep h.below))) ?_
    refine flow_take (i := 3) (.agg (c12 (x_2))) (by rfl) (by kernel_rfl) (by kernel_rfl) (by kernel_rfl) (by rfl) (by kernel_rfl) (List.Sublist.refl _) (gives_load g4 0 51 (c12 (x_2)) (c12 (x_2)) _ (by rfl) (fun _ h => h.blk 2 (by rfl)) (Sl.refl _) Tryd.underlying51 (by rfl) (hi_12 _)) ?_
    refine flow_take (i := 4) (.agg (c12 (x_1))) (by rfl) (by kernel_rfl) (by kernel_rfl) (by kernel_rfl) (by rfl) (by kernel_rfl) (List.Sublist.refl _) (gives_load g2 0 51 (c12 (x_1)) (c12 (x_1)) _ (by rfl) (fun _ h => h.blk 4 (by rfl)) (Sl.refl _) Tryd.underlying51 (by rfl) (hi_12 _)) ?_
    refine flow_take (i := 5) (.agg (c12 ((x_2) * (x_1)))) (by rfl) (by kernel_rfl) (by kernel_rfl) (by kernel_rfl) (by rfl) (by kernel_rfl) (List.Sublist.refl _) (gives_call (vl := [.agg (c12 (x_2)), .agg (c12 (x_1))]) (by kernel_rfl) (by rfl) (fun w h => t_mul _ _ w (hG.keep h.below))) ?_
    refine flow_take (i := 6) (.bool false) (by rfl) (by kernel_rfl) (by kernel_rfl) (by kernel_rfl) (by rfl) (by kernel_rfl) (List.Sublist.refl _) (gives_neq (c12 ((x_1) * (x_2))) (c12 ((x_2) * (x_1))) true (by rfl) (by rfl) (by kernel_rfl) (fun w => eq_12_t (d := 9994) w (T12.cr.mul_comm _ _))) ?_
    refine flow_take (i := 7) (.bool false) (by rfl) (by kernel_rfl) (by kernel_rfl) (by kernel_rfl) (by rfl) (by kernel_rfl) (List.Sublist.refl _) (gives_value _ fun _ => by rfl) ?_
    refine flow_take_g (i := 8) (dj := 45) (.agg (c12 (x_1))) (by rfl) (by kernel_rfl) (by kernel_rfl) (by kernel_rfl) (by rfl) (by kernel_rfl) (List.Sublist.refl _) (by rfl) (by rfl) (by rfl) (gives_load g2 0 51 (c12 (x_1)) (c12 (x_1)) _ (by rfl) (fun _ h => h.blk 4 (by rfl)) (Sl.refl _) Tryd.underlying51 (by rfl) (hi_12 _)) ?_
    refine flow_take_g (i := 9) (dj := 45) (.agg (c12 (x_2))) (by rfl) (by kernel_rfl) (by kernel_rfl) (by kernel_rfl) (by rfl) (by kernel_rfl) (List.Sublist.refl _) (by rfl) (by rfl) (by rfl) (gives_load g4 0 51 (c12 (x_2)) (c12 (x_2)) _ (by rfl) (fun _ h => h.blk 2 (by rfl)) (Sl.refl _) Tryd.underlying51 (by rfl) (hi_12 _)) ?_
    refine flow_take_g (i := 10) (dj := 45) (.agg (c12 ((x_1) * (x_2)))) (by rfl) (by kernel_rfl) (by kernel_rfl) (by kernel_rfl) (by rfl) (by kernel_rfl) (List.Sublist.refl _) (by rfl) (by rfl) (by rfl) (gives_call (vl := [.agg (c12 (x_1)), .agg (c12 (x_2))]) (by kernel_rfl) (by rfl) (fun w h => t_mul _ _ w (hG.keep h.below))) ?_
    refine flow_take_g (i := 11) (dj := 45) (.agg (c12 (x_3))) (by rfl) (by kernel_rfl) (by kernel_rfl) (by kernel_rfl) (by rfl) (by kernel_rfl) (List.Sublist.refl _) (by rfl) (by rfl) (by rfl) (gives_load g6 0 51 (c12 (x_3)) (c12 (x_3)) _ (by rfl) (fun _ h => h.blk 0 (by rfl)) (Sl.refl _) Tryd.underlying51 (by rfl) (hi_12 _)) ?_
    refine flow_take_g (i := 12) (dj := 45) (.agg (c12 (((x_1) * (x_2)) * (x_3)))) (by rfl) (by kernel_rfl) (by kernel_rfl) (by kernel_rfl) (by rfl) (by kernel_rfl) (List.Sublist.refl _) (by rfl) (by rfl) (by rfl) (gives_call (vl := [.agg (c12 ((x_1) * (x_2))), .agg (c12 (x_3))]) (by kernel_rfl) (by rfl) (fun w h => t_mul _ _ w (hG.keep h.below))) ?_
    refine flow_take_g (i := 13) (dj := 45) (.agg (c12 (x_1))) (by rfl) (by kernel_rfl) (by kernel_rfl) (by kernel_rfl) (by rfl) (by kernel_rfl) (List.Sublist.refl _) (by rfl) (by rfl) (by rfl) (gives_load g2 0 51 (c12 (x_1)) (c12 (x_1)) _ (by rfl) (fun _ h => h.blk 4 (by rfl)) (Sl.refl _) Tryd.underlying51 (by rfl) (hi_12 _)) ?_
    refine flow_take_g (i := 14) (dj := 45) (.agg (c12 (x_2))) (by rfl) (by kernel_rfl) (by kernel_rfl) (by kernel_rfl) (by rfl) (by kernel_rfl) (List.Sublist.refl _) (by rfl) (by rfl) (by rfl) (gives_load g4 0 51 (c12 (x_2)) (c12 (x_2)) _ (by rfl) (fun _ h => h.blk 2 (by rfl)) (Sl.refl _) Tryd.underlying51 (by rfl) (hi_12 _)) ?_
    refine flow_take_g (i := 15) (dj := 45) (.agg (c12 (x_3))) (by rfl) (by kernel_rfl) (by kernel_rfl) (by kernel_rfl) (by rfl) (by kernel_rfl) (List.Sublist.refl _) (by rfl) (by rfl) (by rfl) (gives_load g6 0 51 (c12 (x_3)) (c12 (x_3)) _ (by rfl) (fun _ h => h.blk 0 (by rfl)) (Sl.refl _) Tryd.underlying51 (by rfl) (hi_12 _)) ?_
    refine flow_take_g (i := 16) (dj := 45) (.agg (c12 ((x_2) * (x_3)))) (by rfl) (by kernel_rfl) (by kernel_rfl) (by kernel_rfl) (by rfl) (by kernel_rfl) (List.Sublist.refl _) (by rfl) (by rfl) (by rfl) (gives_call (vl := [.agg (c12 (x_2)), .agg (c12 (x_3))]) (by kernel_rfl) (by rfl) (fun w h => t_mul _ _ w (hG.keep h.below))) ?_
    refine flow_take_g (i := 17) (dj := 45) (.agg (c12 ((x_1) * ((x_2) * (x_3))))) (by rfl) (by kernel_rfl) (by kernel_rfl) (by kernel_rfl) (by rfl) (by kernel_rfl) (List.Sublist.refl _) (by rfl) (by rfl) (by rfl) (gives_call (vl := [.agg (c12 (x_1)), .agg (c12 ((x_2) * (x_3)))]) (by kernel_rfl) (by rfl) (fun w h => t_mul _ _ w (hG.keep h.below))) ?_
    refine flow_take_g (i := 18) (dj := 45) (.bool false) (by rfl) (by kernel_rfl) (by kernel_rfl) (by kernel_rfl) (by rfl) (by kernel_rfl) (List.Sublist.refl _) (by rfl) (by rfl) (by rfl) (gives_neq (c12 (((x_1) * (x_2)) * (x_3))) (c12 ((x_1) * ((x_2) * (x_3)))) true (by rfl) (by rfl) (by kernel_rfl) (fun w => eq_12_t (d := 9994) w (T12.cr.mul_assoc _ _ _))) ?_
    refine flow_take (i := 19) (.bool false) (by rfl) (by kernel_rfl) (by kernel_rfl) (by kernel_rfl) (by rfl) (by kernel_rfl) (List.Sublist.refl _) (gives_value _ fun _ => by rfl) ?_
    refine flow_take (i := 20) (.bool false) (by rfl) (by kernel_rfl) (by kernel_rfl) (by kernel_rfl) (by rfl) (by kernel_rfl) (List.Sublist.refl _) (gives_value _ fun _ => by rfl) ?_
    refine flow_take_g (i := 21) (dj := 58) (.agg (c12 (x_1))) (by rfl) (by kernel_rfl) (by kernel_rfl) (by kernel_rfl) (by rfl) (by kernel_rfl) (List.Sublist.refl _) (by rfl) (by rfl) (by rfl) (gives_load g2 0 51 (c12 (x_1)) (c12 (x_1)) _ (by rfl) (fun _ h => h.blk 4 (by rfl)) (Sl.refl _) Tryd.underlying51 (by rfl) (hi_12 _)) ?_
    refine flow_take_g (i := 22) (dj := 58) (.agg (c12 ((x_1) * (x_1)))) (by rfl) (by kernel_rfl) (by kernel_rfl) (by kernel_rfl) (by rfl) (by kernel_rfl) (List.Sublist.refl _) (by rfl) (by rfl) (by rfl) (gives_call (vl := [.agg (c12 (x_1))]) (by kernel_rfl) (by rfl) (fun w h => t_square _ w (hG.keep h.below))) ?_
    refine flow_take_g (i := 23) (dj := 58) (.agg (c12 (x_1))) (by rfl) (by kernel_rfl) (by kernel_rfl) (by kernel_rfl) (by rfl) (by kernel_rfl) (List.Sublist.refl _) (by rfl) (by rfl) (by rfl) (gives_load g2 0 51 (c12 (x_1)) (c12 (x_1)) _ (by rfl) (fun _ h => h.blk 4 (by rfl)) (Sl.refl _) Tryd.underlying51 (by rfl) (hi_12 _)) ?_
    refine flow_take_g (i := 24) (dj := 58) (.agg (c12 (x_1))) (by rfl) (by kernel_rfl) (by kernel_rfl) (by kernel_rfl) (by rfl) (by kernel_rfl) (List.Sublist.refl _) (by rfl) (by rfl) (by rfl) (gives_load g2 0 51 (c12 (x_1)) (c12 (x_1)) _ (by rfl) (fun _ h => h.blk 4 (by rfl)) (Sl.refl _) Tryd.underlying51 (by rfl) (hi_12 _)) ?_
    refine flow_take_g (i := 25) (dj := 58) (.agg (c12 ((x_1) * (x_1)))) (by rfl) (by kernel_rfl) (by kernel_rfl) (by kernel_rfl) (by rfl) (by kernel_rfl) (List.Sublist.refl _) (by rfl) (by rfl) (by rfl) (gives_call (vl := [.agg (c12 (x_1)), .agg (c12 (x_1))]) (by kernel_rfl) (by rfl) (fun w h => t_mul _ _ w (hG.keep h.below))) ?_
    refine flow_take_g (i := 26) (dj := 58) (.bool false) (by rfl) (by kernel_rfl) (by kernel_rfl) (by kernel_rfl) (by rfl) (by kernel_rfl) (List.Sublist.refl _) (by rfl) (by rfl) (by rfl) (gives_neq (c12 ((x_1) * (x_1))) (c12 ((x_1) * (x_1))) true (by rfl) (by rfl) (by kernel_rfl) (fun w => eq_12_t (d := 9994) w (rfl : ((x_1) * (x_1)) = ((x_1) * (x_1))))) ?_
    refine flow_take (i := 27) (.bool false) (by rfl) (by kernel_rfl) (by kernel_rfl) (by kernel_rfl) (by rfl) (by kernel_rfl) (List.Sublist.refl _) (gives_value _ fun _ => by rfl) ?_
    refine flow_take (i := 28) (.bool false) (by rfl) (by kernel_rfl) (by kernel_rfl) (by kernel_rfl) (by rfl) (by kernel_rfl) (List.Sublist.refl _) (gives_value _ fun _ => by rfl) ?_
    refine flow_take_g (i := 29) (dj := 66) (.agg (c12 (x_1))) (by rfl) (by kernel_rfl) (by kernel_rfl) (by kernel_rfl) (by rfl) (by kernel_rfl) (List.Sublist.refl _) (by rfl) (by rfl) (by rfl) (gives_load g2 0 51 (c12 (x_1)) (c12 (x_1)) _ (by rfl) (fun _ h => h.blk 4 (by rfl)) (Sl.refl _) Tryd.underlying51 (by rfl) (hi_12 _)) ?_
    refine flow_take_g (i := 30) (dj := 66) (.agg (c12 (1 : T12))) (by rfl) (by kernel_rfl) (by kernel_rfl) (by kernel_rfl) (by rfl) (by kernel_rfl) (List.Sublist.refl _) (by rfl) (by rfl) (by rfl) (gives_call (vl := []) (by kernel_rfl) (by rfl) (fun w h => t_one w (hG.keep h.below))) ?_
    refine flow_take_g (i := 31) (dj := 66) (.agg (c12 ((x_1) * (1 : T12)))) (by rfl) (by kernel_rfl) (by kernel_rfl) (by kernel_rfl) (by rfl) (by kernel_rfl) (List.Sublist.refl _) (by rfl) (by rfl) (by rfl) (gives_call (vl := [.agg (c12 (x_1)), .agg (c12 (1 : T12))]) (by kernel_rfl) (by rfl) (fun w h => t_mul _ _ w (hG.keep h.below))) ?_
    refine flow_take_g (i := 32) (dj := 66) (.agg (c12 (x_1))) (by rfl) (by kernel_rfl) (by kernel_rfl) (by kernel_rfl) (by rfl) (by kernel_rfl) (List.Sublist.refl _) (by rfl) (by rfl) (by rfl) (gives_load g2 0 51 (c12 (x_1)) (c12 (x_1)) _ (by rfl) (fun _ h => h.blk 4 (by rfl)) (Sl.refl _) Tryd.underlying51 (by rfl) (hi_12 _)) ?_
    refine flow_take_g (i := 33) (dj := 66) (.bool false) (by rfl) (by kernel_rfl) (by kernel_rfl) (by kernel_rfl) (by rfl) (by kernel_rfl) (List.Sublist.refl _) (by rfl) (by rfl) (by rfl) (gives_neq (c12 ((x_1) * (1 : T12))) (c12 (x_1)) true (by rfl) (by rfl) (by kernel_rfl) (fun w => eq_12_t (d := 9994) w (T12.cr.mul_one _))) ?_
    refine flow_take (i := 34) (.bool false) (by rfl) (by kernel_rfl) (by kernel_rfl) (by kernel_rfl) (by rfl) (by kernel_rfl) (List.Sublist.refl _) (gives_value _ fun _ => by rfl) ?_
    refine flow_take (i := 35) (.bool false) (by rfl) (by kernel_rfl) (by kernel_rfl) (by kernel_rfl) (by rfl) (by kernel_rfl) (List.Sublist.refl _) (gives_value _ fun _ => by rfl) ?_
    refine flow_take_g (i := 36) (dj := 73) (.agg (c12 (x_1))) (by rfl) (by kernel_rfl) (by kernel_rfl) (by kernel_rfl) (by rfl) (by kernel_rfl) (List.Sublist.refl _) (by rfl) (by rfl) (by rfl) (gives_load g2 0 51 (c12 (x_1)) (c12 (x_1)) _ (by rfl) (fun _ h => h.blk 4 (by rfl)) (Sl.refl _) Tryd.underlying51 (by rfl) (hi_12 _)) ?_
    refine flow_take_g (i := 37) (dj := 73) (.agg (c12 (x_2))) (by rfl) (by kernel_rfl) (by kernel_rfl) (by kernel_rfl) (by rfl) (by kernel_rfl) (List.Sublist.refl _) (by rfl) (by rfl) (by rfl) (gives_load g4 0 51 (c12 (x_2)) (c12 (x_2)) _ (by rfl) (fun _ h => h.blk 2 (by rfl)) (Sl.refl _) Tryd.underlying51 (by rfl) (hi_12 _)) ?_
    refine flow_take_g (i := 38) (dj := 73) (.agg (c12 ((x_1) * (x_2)))) (by rfl) (by kernel_rfl) (by kernel_rfl) (by kernel_rfl) (by rfl) (by kernel_rfl) (List.Sublist.refl _) (by rfl) (by rfl) (by rfl) (gives_call (vl := [.agg (c12 (x_1)), .agg (c12 (x_2))]) (by kernel_rfl) (by rfl) (fun w h => t_mul _ _ w (hG.keep h.below))) ?_
    refine flow_take_g (i := 39) (dj := 73) (.agg (c12 (T12.conj ((x_1) * (x_2))))) (by rfl) (by kernel_rfl) (by kernel_rfl) (by kernel_rfl) (by rfl) (by kernel_rfl) (List.Sublist.refl _) (by rfl) (by rfl) (by rfl) (gives_call (vl := [.agg (c12 ((x_1) * (x_2)))]) (by kernel_rfl) (by rfl) (fun w h => t_conj _ w (hG.keep h.below))) ?_
    refine flow_take_g (i := 40) (dj := 73) (.agg (c12 (x_1))) (by rfl) (by kernel_rfl) (by kernel_rfl) (by kernel_rfl) (by rfl) (by kernel_rfl) (List.Sublist.refl _) (by rfl) (by rfl) (by rfl) (gives_load g2 0 51 (c12 (x_1)) (c12 (x_1)) _ (by rfl) (fun _ h => h.blk 4 (by rfl)) (Sl.refl _) Tryd.underlying51 (by rfl) (hi_12 _)) ?_
    refine flow_take_g (i := 41) (dj := 73) (.agg (c12 (T12.conj (x_1)))) (by rfl) (by kernel_rfl) (by kernel_rfl) (by kernel_rfl) (by rfl) (by kernel_rfl) (List.Sublist.refl _) (by rfl) (by rfl) (by rfl) (gives_call (vl := [.agg (c12 (x_1))]) (by kernel_rfl) (by rfl) (fun w h => t_conj _ w (hG.keep h.below))) ?_
    refine flow_take_g (i := 42) (dj := 73) (.agg (c12 (x_2))) (by rfl) (by kernel_rfl) (by kernel_rfl) (by kernel_rfl) (by rfl) (by kernel_rfl) (List.Sublist.refl _) (by rfl) (by rfl) (by rfl) (gives_load g4 0 51 (c12 (x_2)) (c12 (x_2)) _ (by rfl) (fun _ h => h.blk 2 (by rfl)) (Sl.refl _) Tryd.underlying51 (by rfl) (hi_12 _)) ?_
    refine flow_take_g (i := 43) (dj := 73) (.agg (c12 (T12.conj (x_2)))) (by rfl) (by kernel_rfl) (by kernel_rfl) (by kernel_rfl) (by rfl) (by kernel_rfl) (List.Sublist.refl _) (by rfl) (by rfl) (by rfl) (gives_call (vl := [.agg (c12 (x_2))]) (by kernel_rfl) (by rfl) (fun w h => t_conj _ w (hG.keep h.below))) ?_
    refine flow_take_g (i := 44) (dj := 73) (.agg (c12 ((T12.conj (x_1)) * (T12.conj (x_2))))) (by rfl) (by kernel_rfl) (by kernel_rfl) (by kernel_rfl) (by rfl) (by kernel_rfl) (List.Sublist.refl _) (by rfl) (by rfl) (by rfl) (gives_call (vl := [.agg (c12 (T12.conj (x_1))), .agg (c12 (T12.conj (x_2)))]) (by kernel_rfl) (by rfl) (fun w h => t_mul _ _ w (hG.keep h.below))) ?_
    refine flow_take_g (i := 45) (dj := 73) (.bool false) (by rfl) (by kernel_rfl) (by kernel_rfl) (by kernel_rfl) (by rfl) (by kernel_rfl) (List.Sublist.refl _) (by rfl) (by rfl) (by rfl) (gives_neq (c12 (T12.conj ((x_1) * (x_2)))) (c12 ((T12.conj (x_1)) * (T12.conj (x_2)))) true (by rfl) (by rfl) (by kernel_rfl) (fun w => eq_12_t (d := 9994) w (T12.conj_mul _ _))) ?_
    refine flow_take (i := 46) (.bool false) (by rfl) (by kernel_rfl) (by kernel_rfl) (by kernel_rfl) (by rfl) (by kernel_rfl) (List.Sublist.refl _) (gives_value _ fun _ => by rfl) ?_
    refine flow_done (by kernel_rfl) ?_
    intro w7 hw7
    refine wp_cond_false (fr_at _ _ (by rfl) _) ?_
    refine wp_skip ?_
    change Code.wp _ _ _ _ _
    refine wp_seq ?_
    refine seq_plain hw7 [0, 1, 2] (by rfl) ?_
    refine L_val (.agg (c12 (x_1))) (by rfl) (by rfl) (gives_load g2 0 51 (c12 (x_1)) (c12 (x_1)) _ (by rfl) (fun _ h => h.blk 4 (by rfl)) (Sl.refl _) Tryd.underlying51 (by rfl) (hi_12 _)) ?_
    refine L_val (.agg (c12 (0 : T12))) (by rfl) (by rfl) (gb_tower [] trivial (by rfl) (c12 (0 : T12)) (by rfl)) ?_
    refine L_val (.bool false) (by rfl) (by rfl) (gives_eql (c12 (x_1)) (c12 (0 : T12)) false (by rfl) (by rfl) (by kernel_rfl) (fun w => eq_12_f (d := 9994) w hz)) ?_
    refine L_end ?_
    intro w8 hw8
    refine wp_cond_false (fr_at _ _ (by rfl) _) ?_
    refine wp_skip ?_
    change Code.wp _ _ _ _ _
    refine seq_flow (by kernel_rfl) hw8 [] [(g6, 51, (c12 (x_3))), (g5, 47, u_3), (g4, 51, (c12 (x_2))), (g3, 47, u_2), (g2, 51, (c12 (x_1))), (g1, 47, u_1)] 7 (by rfl) ?_
    refine flow_take (i := 0) (.agg (c12 (x_1))) (by rfl) (by kernel_rfl) (by kernel_rfl) (by kernel_rfl) (by rfl) (by kernel_rfl) (List.Sublist.refl _) (gives_load g2 0 51 (c12 (x_1)) (c12 (x_1)) _ (by rfl) (fun _ h => h.blk 4 (by rfl)) (Sl.refl _) Tryd.underlying51 (by rfl) (hi_12 _)) ?_
    refine flow_take (i := 1) (.agg (c12 (x_1))) (by rfl) (by kernel_rfl) (by kernel_rfl) (by kernel_rfl) (by rfl) (by kernel_rfl) (List.Sublist.refl _) (gives_load g2 0 51 (c12 (x_1)) (c12 (x_1)) _ (by rfl) (fun _ h => h.blk 4 (by rfl)) (Sl.refl _) Tryd.underlying51 (by rfl) (hi_12 _)) ?_
    refine flow_take (i := 2) (.agg (c12 (T12.inv (x_1)))) (by rfl) (by kernel_rfl) (by kernel_rfl) (by kernel_rfl) (by rfl) (by kernel_rfl) (List.Sublist.refl _) (gives_call (vl := [.agg (c12 (x_1))]) (by kernel_rfl) (by rfl) (fun w h => t_inv _ w (hG.keep h.below))) ?_
    refine flow_take (i := 3) (.agg (c12 ((x_1) * (T12.inv (x_1))))) (by rfl) (by kernel_rfl) (by kernel_rfl) (by kernel_rfl) (by rfl) (by kernel_rfl) (List.Sublist.refl _) (gives_call (vl := [.agg (c12 (x_1)), .agg (c12 (T12.inv (x_1)))]) (by kernel_rfl) (by rfl) (fun w h => t_mul _ _ w (hG.keep h.below))) ?_
    refine flow_take (i := 4) (.agg (c12 (1 : T12))) (by rfl) (by kernel_rfl) (by kernel_rfl) (by kernel_rfl) (by rfl) (by kernel_rfl) (List.Sublist.refl _) (gives_call (vl := []) (by kernel_rfl) (by rfl) (fun w h => t_one w (hG.keep h.below))) ?_
    refine flow_take (i := 5) (.bool true) (by rfl) (by kernel_rfl) (by kernel_rfl) (by kernel_rfl) (by rfl) (by kernel_rfl) (List.Sublist.refl _) (gives_eql (c12 ((x_1) * (T12.inv (x_1)))) (c12 (1 : T12)) true (by rfl) (by rfl) (by kernel_rfl) (fun w => eq_12_t (d := 9994) w (T12.mul_inv hz))) ?_
    refine flow_take (i := 6) (.bool true) (by rfl) (by kernel_rfl) (by kernel_rfl) (by kernel_rfl) (by rfl) (by kernel_rfl) (List.Sublist.refl _) (gives_value _ fun _ => by rfl) ?_
    refine flow_done (by kernel_rfl) ?_
    intro w9 hw9
    refine wp_ret ?_
    change bodyPost _ _ _ Exit.ret _ _
    refine (ret_tmp (by rfl) (by rfl) (by rfl) ⟨rfl, hw9.below⟩)
theorem t_rules_any (A0 : Option Addr) (L0 C0 : Nat) (bs0 : List Int) (A1 : Option Addr) (L1 C1 : Nat) (bs1 : List Int) (A2 : Option Addr) (L2 C2 : Nat) (bs2 : List Int) (v : World) (hG : Glo v) (hr0 : Reads v v.heap.size A0 L0 (bs0.map (Value.int .u8))) (ho0 : Oct bs0) (hr1 : Reads v v.heap.size A1 L1 (bs1.map (Value.int .u8))) (ho1 : Oct bs1) (hr2 : Reads v v.heap.size A2 L2 (bs2.map (Value.int .u8))) (ho2 : Oct bs2) : Rets 7 #[.slice A0 L0 C0, .slice A1 L1 C1, .slice A2 L2 C2] v (.bool true) := by
  by_cases hlong : 2000 < L0 ∨ 2000 < L1
  · exact t_rules_long A0 L0 C0 bs0 A1 L1 C1 bs1 A2 L2 C2 bs2 v hG hr0 ho0 hr1 ho1 hr2 ho2 hlong
  · by_cases h3 : 2000 < L2
    · exact t_rules_long3 A0 L0 C0 bs0 A1 L1 C1 bs1 A2 L2 C2 bs2 v hG hr0 ho0 hr1 ho1 hr2 ho2 (by omega) (by omega) h3
    · exact t_rules_short A0 L0 C0 bs0 A1 L1 C1 bs1 A2 L2 C2 bs2 v hG hr0 ho0 hr1 ho1 hr2 ho2 (by omega) (by omega) (by omega)
end Go.Proofs.YtnebmgiajfbnaaaDoor
