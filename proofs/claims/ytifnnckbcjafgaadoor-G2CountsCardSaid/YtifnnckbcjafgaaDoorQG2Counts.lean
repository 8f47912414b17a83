/-
  The law G2Counts.
-/
import Derived.Test.YtifnnckbcjafgaaDoorQGv
namespace Go.Proofs.YtifnnckbcjafgaaDoor
set_option linter.unusedSimpArgs false
set_option linter.unusedVariables false
open Go.RowKit
attribute [local irreducible] wpL wpF fr Code.wp bodyPost
set_option maxRecDepth 100000 in
set_option maxHeartbeats 4000000 in
theorem g2_counts_long (A0 : Option Addr) (L0 C0 : Nat) (bs0 : List Int) (n m : Int) (v : World) (hG : Glo v) (hR : GloR v) (hH : GSh v) (hr0 : Reads v v.heap.size A0 L0 (bs0.map (Value.int .u8))) (ho0 : Oct bs0) (hQ : GQp v) (hn : 0 ≤ n ∧ n < 256) (hm : 0 ≤ m ∧ m < 65536) (hlong : 100 < L0) : Rets 12 #[.slice A0 L0 C0, .int .u8 n, .int .u16 m] v (.bool true) := by
  refine calls_fr3 Tryd.func12 rfl (by rfl : _ = 80) (by rfl) ?_
  have hw := Hbl.nil v
  refine seq_plain hw [0] (by rfl) ?_
  refine L_val (.bool false) (by rfl) (by rfl) (gives_value _ fun _ => by rfl) ?_
  refine L_end ?_
  intro w1 hw1
  refine wp_seq ?_
  refine seq_plain hw1 [0, 1] (by rfl) ?_
  refine L_val (.bool true) (by rfl) (by rfl) (gives_call (vl := []) (by kernel_rfl) (by rfl) (fun w h => k2_head w (hG.keep h.below))) ?_
  refine L_val (.bool false) (by rfl) (by rfl) (gives_value _ fun _ => by rfl) ?_
  refine L_end ?_
  intro w2 hw2
  refine wp_cond_false (fr_at _ _ (by rfl) _) ?_
  refine wp_skip ?_
  change Code.wp _ _ _ _ _
  refine wp_seq ?_
  refine seq_plain hw2 [0, 1] (by rfl) ?_
  refine L_val (.slice A0 L0 C0) (by rfl) (by rfl) (gives_value _ fun _ => by rfl) ?_
  refine L_val (.bool true) (by rfl) (by rfl) (gives_call (vl := [.slice A0 L0 C0, .slice none 0 0, .slice none 0 0]) (by kernel_rfl) (by rfl) (fun w h => k2_long_yes _ _ _ none 0 0 none 0 0 w (by omega))) ?_
  refine L_end ?_
  intro w3 hw3
  refine wp_cond_true (fr_at _ _ (by rfl) _) ?_
  refine seq_plain hw3 [0] (by rfl) ?_
  refine L_val (.bool true) (by rfl) (by rfl) (gives_value _ fun _ => by rfl) ?_
  refine L_end ?_
  intro w4 hw4
  refine wp_ret ?_
  change bodyPost _ _ _ Exit.ret _ _
  refine (ret_tmp (by rfl) (by rfl) (by rfl) ⟨rfl, hw4.below⟩)
set_option maxRecDepth 100000 in
set_option maxHeartbeats 4000000 in
theorem g2_counts_short (A0 : Option Addr) (L0 C0 : Nat) (bs0 : List Int) (n m : Int) (v : World) (hG : Glo v) (hR : GloR v) (hH : GSh v) (hr0 : Reads v v.heap.size A0 L0 (bs0.map (Value.int .u8))) (ho0 : Oct bs0) (hQ : GQp v) (hn : 0 ≤ n ∧ n < 256) (hm : 0 ≤ m ∧ m < 65536) (hs0 : L0 ≤ 100) : Rets 12 #[.slice A0 L0 C0, .int .u8 n, .int .u16 m] v (.bool true) := by
  obtain ⟨k0, hk0⟩ : ∃ k : Pt F2, k = gen2 := ⟨_, rfl⟩
  refine calls_fr3 Tryd.func12 rfl (by rfl : _ = 80) (by rfl) ?_
  have hw := Hbl.nil v
  refine seq_plain hw [0] (by rfl) ?_
  refine L_val (.bool false) (by rfl) (by rfl) (gives_value _ fun _ => by rfl) ?_
  refine L_end ?_
  intro w1 hw1
  refine wp_seq ?_
  refine seq_plain hw1 [0, 1] (by rfl) ?_
  refine L_val (.bool true) (by rfl) (by rfl) (gives_call (vl := []) (by kernel_rfl) (by rfl) (fun w h => k2_head w (hG.keep h.below))) ?_
  refine L_val (.bool false) (by rfl) (by rfl) (gives_value _ fun _ => by rfl) ?_
  refine L_end ?_
  intro w2 hw2
  refine wp_cond_false (fr_at _ _ (by rfl) _) ?_
  refine wp_skip ?_
  change Code.wp _ _ _ _ _
  refine wp_seq ?_
  refine seq_plain hw2 [0, 1] (by rfl) ?_
  refine L_val (.slice A0 L0 C0) (by rfl) (by rfl) (gives_value _ fun _ => by rfl) ?_
  refine L_val (.bool false) (by rfl) (by rfl) (gives_call (vl := [.slice A0 L0 C0, .slice none 0 0, .slice none 0 0]) (by kernel_rfl) (by rfl) (fun w h => k2_long_no _ _ _ none 0 0 none 0 0 w (by omega) (by omega) (by omega))) ?_
  refine L_end ?_
  intro w3 hw3
  refine wp_cond_false (fr_at _ _ (by rfl) _) ?_
  refine wp_skip ?_
  change Code.wp _ _ _ _ _
  refine seq_plain hw3 [0, 1, 2, 3, 4, 5] (by rfl) ?_
  refine L_val (.agg (cg2 (k0))) (by rfl) (by rfl) (gives_call (vl := []) (by kernel_rfl) (by rfl) (fun w h => by rw [hk0]; exact k2_gen w (hG.keep h.below))) ?_
  refine L_val (.slice A0 L0 C0) (by rfl) (by rfl) (gives_value _ fun _ => by rfl) ?_
  refine L_val (.agg (frc (num bs0))) (by rfl) (by rfl) (gives_call (vl := [.slice A0 L0 C0]) (by kernel_rfl) (by rfl) (fun w h => k2_scalar A0 L0 C0 bs0 w (hR.keep h.below) (hH.keep h.below) ((hr0.below h.below).more h.below.size) ho0 (by omega))) ?_
  refine L_val (.agg (cg2 (gMul F2.inv (k0) (num bs0)))) (by rfl) (by rfl) (gives_call (vl := [.agg (cg2 (k0)), .agg (frc (num bs0))]) (by kernel_rfl) (by rfl) (fun w h => k2_gmul _ _ w (hG.keep h.below) (hR.keep h.below))) ?_
  refine L_alloc _ (by rfl) (by rfl) z_g2 (cg2 (0 : Pt F2)) rfl ?_; intro g1
  refine L_store (t := 59) 0 g1 _ _ (by rfl) (by rfl) (by rfl) (by rfl) (by rfl) (hi_g2 _) ((cg2_size _).trans (cg2_size _).symm) (cg2_one _) ?_
  simp only [List.set_cons_zero, List.set_cons_succ]
  refine L_end ?_
  intro w4 hw4
  refine seq_plain hw4 [0, 1, 2, 3] (by rfl) ?_
  refine L_val (.int .u16 m) (by rfl) (by rfl) (gives_value _ fun _ => by rfl) ?_
  refine L_callE (A := Unit) (B := (Pt F2)) (vl := [.int .u16 m]) (fun a b => .agg (cg2 b)) (fun _ x => OnC (F2.sm 4 4) x) (by rfl) (by rfl) Want.none (by kernel_rfl) (by rfl) (fun w h => k2_wild m w (hG.keep h.below) (hQ.keep h.below) hm) ?_; intro u_1 x_1 hu_1
  refine L_alloc _ (by rfl) (by rfl) z_g2 (cg2 (0 : Pt F2)) rfl ?_; intro g2
  refine L_store (t := 59) 0 g2 _ _ (by rfl) (by rfl) (by rfl) (by rfl) (by rfl) (hi_g2 _) ((cg2_size _).trans (cg2_size _).symm) (cg2_one _) ?_
  simp only [List.set_cons_zero, List.set_cons_succ]
  refine L_end ?_
  intro w5 hw5
  refine seq_plain hw5 [0, 1, 2] (by rfl) ?_
  refine L_val (.agg (cg2 (0 : Pt F2))) (by rfl) (by rfl) (gb_g2 [] trivial (by rfl) (cg2 (0 : Pt F2)) (by rfl)) ?_
  refine L_alloc _ (by rfl) (by rfl) z_g2 (cg2 (0 : Pt F2)) rfl ?_; intro g3
  refine L_store (t := 59) 0 g3 _ _ (by rfl) (by rfl) (by rfl) (by rfl) (by rfl) (hi_g2 _) ((cg2_size _).trans (cg2_size _).symm) (cg2_one _) ?_
  simp only [List.set_cons_zero, List.set_cons_succ]
  refine L_end ?_
  intro w6 hw6
  refine seq_plain hw6 [0, 1, 2] (by rfl) ?_
  refine L_val (.agg (cg2 (0 : Pt F2))) (by rfl) (by rfl) (gb_g2 [] trivial (by rfl) (cg2 (0 : Pt F2)) (by rfl)) ?_
  refine L_alloc _ (by rfl) (by rfl) z_g2 (cg2 (0 : Pt F2)) rfl ?_; intro g4
  refine L_store (t := 59) 0 g4 _ _ (by rfl) (by rfl) (by rfl) (by rfl) (by rfl) (hi_g2 _) ((cg2_size _).trans (cg2_size _).symm) (cg2_one _) ?_
  simp only [List.set_cons_zero, List.set_cons_succ]
  refine L_end ?_
  intro w7 hw7
  refine wp_seq ?_
  refine seq_plain hw7 [0] (by rfl) ?_
  refine L_val (.int .i64 0) (by rfl) (by rfl) (gives_value _ fun _ => by rfl) ?_
  refine L_end ?_
  intro w8 hw8
  refine wp_block ?_
  refine loop_down (fun (r_ : Nat) a w => ∃ (k : Nat) (l_1 : List (Nat × Value)), (n % 32).toNat - k = r_ ∧ inFr 80 l_1 = true ∧ a = fr 80 ((1, .int .u8 n) :: (7, .pointer (some ⟨g1, 0, none⟩)) :: (8, .pointer (some ⟨g2, 0, none⟩)) :: (9, .pointer (some ⟨g3, 0, none⟩)) :: (10, .pointer (some ⟨g4, 0, none⟩)) :: (11, .int .i64 (k : Int)) :: l_1) ∧ ((k : Int) ≤ n % 32) ∧ Hbl v [(g4, 59, (cg2 (gN F2.inv (k) (x_1)))), (g3, 59, (cg2 (gN F2.inv (k) (gMul F2.inv (k0) (num bs0))))), (g2, 59, (cg2 (x_1))), (g1, 59, (cg2 (gMul F2.inv (k0) (num bs0))))] w) ?_ _ _ _ ⟨0, [(11, .int .i64 0), (10, .pointer (some ⟨g4, 0, none⟩)), (25, .agg (cg2 (0 : Pt F2))), (9, .pointer (some ⟨g3, 0, none⟩)), (24, .agg (cg2 (0 : Pt F2))), (8, .pointer (some ⟨g2, 0, none⟩)), (23, .agg (cg2 (x_1))), (22, .int .u16 m), (7, .pointer (some ⟨g1, 0, none⟩)), (21, .agg (cg2 (gMul F2.inv (k0) (num bs0)))), (20, .agg (frc (num bs0))), (19, .slice A0 L0 C0), (18, .agg (cg2 (k0))), (17, .bool false), (16, .slice A0 L0 C0), (15, .bool false), (14, .bool true), (6, .bool false), (2, .int .u16 m), (1, .int .u8 n), (0, .slice A0 L0 C0)], rfl, (by rfl), (Eq.trans (Eq.trans (Eq.trans (Eq.trans (Eq.trans (fr_dup _ _ 11 _ (by rfl) (by rfl) (by exact (congrArg (Value.int .i64) (by omega)))).symm (fr_dup _ _ 10 _ (by rfl) (by rfl) (by rfl)).symm) (fr_dup _ _ 9 _ (by rfl) (by rfl) (by rfl)).symm) (fr_dup _ _ 8 _ (by rfl) (by rfl) (by rfl)).symm) (fr_dup _ _ 7 _ (by rfl) (by rfl) (by rfl)).symm) (fr_dup _ _ 1 _ (by rfl) (by rfl) (by rfl)).symm), (by omega), hw8⟩
  rintro r_1 a0 w0_1 ⟨k, l_1, hr_1, hl_1, rfl, hk, hw0_1⟩
  by_cases hlt : (k : Int) < n % 32
  ·
    refine wp_seq ?_
    refine seq_plain hw0_1 [0, 1, 2, 3, 4] (by rfl) ?_
    refine L_val (.int .i64 (k : Int)) (by rfl) (by exact hl_1) (gives_value _ fun _ => by rfl) ?_
    refine L_val (.int .u8 n) (by rfl) (by exact hl_1) (gives_value _ fun _ => by rfl) ?_
    refine L_val (.int .u8 (n % 32)) (by rfl) (by exact hl_1) (gives_and (k := .u8) (n) 31 (n % 32) (by rfl) (by rfl) (and_31 n hn.1 hn.2)) ?_
    refine L_val (.int .i64 (n % 32)) (by rfl) (by exact hl_1) (gives_conv (k2 := .i64) (n % 32) (n % 32) (by rfl) und_u8' und_int (IntWalk.i64_in _ (by omega))) ?_
    refine L_val (.bool true) (by rfl) (by exact hl_1) (gives_lss (k := .i64) ((k : Int)) (n % 32) true (by rfl) (by rfl) (decide_eq_true (by omega))) ?_
    refine L_end ?_
    intro w9 hw9
    refine wp_cond_true (fr_at _ _ (by exact hl_1) _) ?_
    refine wp_skip ?_
    change Code.wp _ _ _ _ _
    refine wp_seq ?_
    refine wp_block ?_
    refine seq_plain hw9 [0, 1, 2, 3] (by rfl) ?_
    refine L_val (.agg (cg2 (gN F2.inv (k) (gMul F2.inv (k0) (num bs0))))) (by rfl) (by exact hl_1) (gL g3 59 (cg2 (gN F2.inv (k) (gMul F2.inv (k0) (num bs0)))) 1 Tryd.underlying59 (hi_g2 _)) ?_
    refine L_val (.agg (cg2 (gMul F2.inv (k0) (num bs0)))) (by rfl) (by exact hl_1) (gL g1 59 (cg2 (gMul F2.inv (k0) (num bs0))) 3 Tryd.underlying59 (hi_g2 _)) ?_
    refine L_val (.agg (cg2 (gAdd F2.inv (gN F2.inv (k) (gMul F2.inv (k0) (num bs0))) (gMul F2.inv (k0) (num bs0))))) (by rfl) (by exact hl_1) (gives_call (vl := [.agg (cg2 (gN F2.inv (k) (gMul F2.inv (k0) (num bs0)))), .agg (cg2 (gMul F2.inv (k0) (num bs0)))]) (by kernel_rfl) (by rfl) (fun w h => k2_gadd _ _ w (hG.keep h.below))) ?_
    refine L_store (t := 59) 1 g3 _ _ (by rfl) (by exact hl_1) (by rfl) (by rfl) (by rfl) (hi_g2 _) ((cg2_size _).trans (cg2_size _).symm) (cg2_one _) ?_
    simp only [List.set_cons_zero, List.set_cons_succ]
    refine L_end ?_
    intro w10 hw10
    refine one_plain hw10 [0, 1, 2, 3] (by rfl) ?_
    refine L_val (.agg (cg2 (gN F2.inv (k) (x_1)))) (by rfl) (by exact hl_1) (gL g4 59 (cg2 (gN F2.inv (k) (x_1))) 0 Tryd.underlying59 (hi_g2 _)) ?_
    refine L_val (.agg (cg2 (x_1))) (by rfl) (by exact hl_1) (gL g2 59 (cg2 (x_1)) 2 Tryd.underlying59 (hi_g2 _)) ?_
    refine L_val (.agg (cg2 (gAdd F2.inv (gN F2.inv (k) (x_1)) (x_1)))) (by rfl) (by exact hl_1) (gives_call (vl := [.agg (cg2 (gN F2.inv (k) (x_1))), .agg (cg2 (x_1))]) (by kernel_rfl) (by rfl) (fun w h => k2_gadd _ _ w (hG.keep h.below))) ?_
    refine L_store (t := 59) 0 g4 _ _ (by rfl) (by exact hl_1) (by rfl) (by rfl) (by rfl) (hi_g2 _) ((cg2_size _).trans (cg2_size _).symm) (cg2_one _) ?_
    simp only [List.set_cons_zero, List.set_cons_succ]
    refine L_end ?_
    intro w11 hw11
    change Code.wp _ _ _ _ _
    refine one_plain hw11 [0, 1, 2] (by rfl) ?_
    refine L_val (.int .i64 (k : Int)) (by rfl) (by exact hl_1) (gives_value _ fun _ => by rfl) ?_
    refine L_val (.int .i64 ((k : Int) + 1)) (by rfl) (by exact hl_1) (gives_add (k := .i64) ((k : Int)) (1) ((k : Int) + 1) (by rfl) (by rfl) (IntWalk.i64_in _ (by omega))) ?_
    refine L_val (.int .i64 ((k : Int) + 1)) (by rfl) (by exact hl_1) (gives_value _ fun _ => by rfl) ?_
    refine L_end ?_
    intro w12 hw12
    change ∃ r' : Nat, r' < r_1 ∧ _
    refine ⟨_, ?_, k + 1, ((11, .int .i64 ((k : Int) + 1)) :: (32, .int .i64 ((k : Int) + 1)) :: (31, .int .i64 (k : Int)) :: (38, .agg (cg2 (gAdd F2.inv (gN F2.inv (k) (x_1)) (x_1)))) :: (37, .agg (cg2 (x_1))) :: (36, .agg (cg2 (gN F2.inv (k) (x_1)))) :: (35, .agg (cg2 (gAdd F2.inv (gN F2.inv (k) (gMul F2.inv (k0) (num bs0))) (gMul F2.inv (k0) (num bs0))))) :: (34, .agg (cg2 (gMul F2.inv (k0) (num bs0)))) :: (33, .agg (cg2 (gN F2.inv (k) (gMul F2.inv (k0) (num bs0))))) :: (30, .bool true) :: (29, .int .i64 (n % 32)) :: (28, .int .u8 (n % 32)) :: (27, .int .u8 n) :: (26, .int .i64 (k : Int)) :: (1, .int .u8 n) :: (7, .pointer (some ⟨g1, 0, none⟩)) :: (8, .pointer (some ⟨g2, 0, none⟩)) :: (9, .pointer (some ⟨g3, 0, none⟩)) :: (10, .pointer (some ⟨g4, 0, none⟩)) :: (11, .int .i64 (k : Int)) :: l_1), rfl, (by exact hl_1), (Eq.trans (Eq.trans (Eq.trans (Eq.trans (Eq.trans (fr_dup _ _ 11 _ (by exact hl_1) (by rfl) (by exact (congrArg (Value.int .i64) (by omega)))).symm (fr_dup _ _ 10 _ (by exact hl_1) (by rfl) (by rfl)).symm) (fr_dup _ _ 9 _ (by exact hl_1) (by rfl) (by rfl)).symm) (fr_dup _ _ 8 _ (by exact hl_1) (by rfl) (by rfl)).symm) (fr_dup _ _ 7 _ (by exact hl_1) (by rfl) (by rfl)).symm) (fr_dup _ _ 1 _ (by exact hl_1) (by rfl) (by rfl)).symm), by omega, hw12⟩
    omega
  ·
    refine wp_seq ?_
    refine seq_plain hw0_1 [0, 1, 2, 3, 4] (by rfl) ?_
    refine L_val (.int .i64 (k : Int)) (by rfl) (by exact hl_1) (gives_value _ fun _ => by rfl) ?_
    refine L_val (.int .u8 n) (by rfl) (by exact hl_1) (gives_value _ fun _ => by rfl) ?_
    refine L_val (.int .u8 (n % 32)) (by rfl) (by exact hl_1) (gives_and (k := .u8) (n) 31 (n % 32) (by rfl) (by rfl) (and_31 n hn.1 hn.2)) ?_
    refine L_val (.int .i64 (n % 32)) (by rfl) (by exact hl_1) (gives_conv (k2 := .i64) (n % 32) (n % 32) (by rfl) und_u8' und_int (IntWalk.i64_in _ (by omega))) ?_
    refine L_val (.bool false) (by rfl) (by exact hl_1) (gives_lss (k := .i64) ((k : Int)) (n % 32) false (by rfl) (by rfl) (decide_eq_false (by omega))) ?_
    refine L_end ?_
    intro w13 hw13
    refine wp_cond_false (fr_at _ _ (by exact hl_1) _) ?_
    refine wp_exit ?_
    have hkN : k = (n % 32).toNat := by omega
    change Code.wp _ _ _ _ _
    change Code.wp _ _ _ _ _
    refine seq_plain hw13 [0, 1, 2, 3] (by rfl) ?_
    refine L_val (.int .u8 n) (by rfl) (by exact hl_1) (gives_value _ fun _ => by rfl) ?_
    refine L_val (.int .u8 (n % 32)) (by rfl) (by exact hl_1) (gives_and (k := .u8) (n) 31 (n % 32) (by rfl) (by rfl) (and_31 n hn.1 hn.2)) ?_
    refine L_build1 (.int .u8 (n % 32)) (.int .u8 0) (by rfl) (by exact hl_1) und_u8s u8_zs rfl (by rfl) rfl ?_; intro g5
    refine L_val (.slice (some ⟨g5, 0, none⟩) 1 1) (by rfl) (by exact hl_1) (gives_value _ fun _ => by rfl) ?_
    refine L_end ?_
    intro w14 hw14
    refine seq_plain hw14 [0, 1, 2, 3] (by rfl) ?_
    refine L_val (.int .u8 n) (by rfl) (by exact hl_1) (gives_value _ fun _ => by rfl) ?_
    refine L_val (.int .u8 (n % 32)) (by rfl) (by exact hl_1) (gives_and (k := .u8) (n) 31 (n % 32) (by rfl) (by rfl) (and_31 n hn.1 hn.2)) ?_
    refine L_build3 0 0 (n % 32) (by rfl) (by exact hl_1) Want.none (by rfl) (by rfl) (by rfl) ?_; intro g6
    refine L_val (.slice (some ⟨g6, 0, none⟩) 3 3) (by rfl) (by exact hl_1) (gives_value _ fun _ => by rfl) ?_
    refine L_end ?_
    intro w15 hw15
    refine seq_flow (by kernel_rfl) hw15 [] [(g6, 5, (ag8 [0, 0, n % 32])), (g5, 5, #[.int .u8 (n % 32)]), (g4, 59, (cg2 (gN F2.inv (k) (x_1)))), (g3, 59, (cg2 (gN F2.inv (k) (gMul F2.inv (k0) (num bs0))))), (g2, 59, (cg2 (x_1))), (g1, 59, (cg2 (gMul F2.inv (k0) (num bs0))))] 36 (by rfl) ?_
    refine fT (i := 0) (hl := by exact hl_1) (g := (gL g1 59 (cg2 (gMul F2.inv (k0) (num bs0))) 5 Tryd.underlying59 (hi_g2 _))) (h := ?_)
    refine fT (i := 1) (u := (.slice (some ⟨g5, 0, none⟩) 1 1)) (hl := by exact hl_1) (g := (gives_value _ fun _ => by rfl)) (h := ?_)
    refine fT (i := 2) (hl := by exact hl_1) (g := (gives_call (vl := [.agg (cg2 (gMul F2.inv (k0) (num bs0))), .slice (some ⟨g5, 0, none⟩) 1 1]) (by kernel_rfl) (by rfl) (fun w h => k2_gtimes _ _ _ _ [n % 32] w (hG.keep h.below) (copy_reads (bs := [n % 32]) (h.blk 1 (by rfl)) rfl) (by intro b hb; simp at hb; omega) (by omega)))) (h := ?_)
    refine fT (i := 3) (hl := by exact hl_1) (g := (gL g3 59 (cg2 (gN F2.inv (k) (gMul F2.inv (k0) (num bs0)))) 3 Tryd.underlying59 (hi_g2 _))) (h := ?_)
    refine fT (i := 4) (u := (.bool true)) (hl := by exact hl_1) (g := (gives_eql (cg2 (gTimes F2.inv (gMul F2.inv (k0) (num bs0)) [n % 32])) (cg2 (gN F2.inv (k) (gMul F2.inv (k0) (num bs0)))) true (by rfl) (by rfl) (by kernel_rfl) (fun w => eq_g2_t (d := 9995) w (c_times ec2 F2.inv_zero (ing2 hk0 _).1 _ _ (by omega) hkN)))) (h := ?_)
    refine fT (i := 5) (u := (.bool true)) (hl := by exact hl_1) (g := (gives_value _ fun _ => by rfl)) (h := ?_)
    refine fG (i := 6) (dj := 50) (hl := by exact hl_1) (g := (gL g1 59 (cg2 (gMul F2.inv (k0) (num bs0))) 5 Tryd.underlying59 (hi_g2 _))) (h := ?_)
    refine fG (i := 7) (dj := 50) (u := (.slice (some ⟨g6, 0, none⟩) 3 3)) (hl := by exact hl_1) (g := (gives_value _ fun _ => by rfl)) (h := ?_)
    refine fG (i := 8) (dj := 50) (hl := by exact hl_1) (g := (gives_call (vl := [.agg (cg2 (gMul F2.inv (k0) (num bs0))), .slice (some ⟨g6, 0, none⟩) 3 3]) (by kernel_rfl) (by rfl) (fun w h => k2_gtimes _ _ _ _ [0, 0, n % 32] w (hG.keep h.below) (copy_reads (bs := [0, 0, n % 32]) (h.blk 0 (by rfl)) rfl) (by intro b hb; simp at hb; omega) (by omega)))) (h := ?_)
    refine fG (i := 9) (dj := 50) (hl := by exact hl_1) (g := (gL g3 59 (cg2 (gN F2.inv (k) (gMul F2.inv (k0) (num bs0)))) 3 Tryd.underlying59 (hi_g2 _))) (h := ?_)
    refine fG (i := 10) (dj := 50) (u := (.bool true)) (hl := by exact hl_1) (g := (gives_eql (cg2 (gTimes F2.inv (gMul F2.inv (k0) (num bs0)) [0, 0, n % 32])) (cg2 (gN F2.inv (k) (gMul F2.inv (k0) (num bs0)))) true (by rfl) (by rfl) (by kernel_rfl) (fun w => eq_g2_t (d := 9995) w (c_times3 ec2 F2.inv_zero (ing2 hk0 _).1 _ _ (by omega) hkN)))) (h := ?_)
    refine fT (i := 11) (u := (.bool true)) (hl := by exact hl_1) (g := (gives_value _ fun _ => by rfl)) (h := ?_)
    refine fT (i := 12) (u := (.bool true)) (hl := by exact hl_1) (g := (gives_value _ fun _ => by rfl)) (h := ?_)
    refine fG (i := 13) (dj := 57) (hl := by exact hl_1) (g := (gL g2 59 (cg2 (x_1)) 4 Tryd.underlying59 (hi_g2 _))) (h := ?_)
    refine fG (i := 14) (dj := 57) (u := (.slice (some ⟨g5, 0, none⟩) 1 1)) (hl := by exact hl_1) (g := (gives_value _ fun _ => by rfl)) (h := ?_)
    refine fG (i := 15) (dj := 57) (hl := by exact hl_1) (g := (gives_call (vl := [.agg (cg2 (x_1)), .slice (some ⟨g5, 0, none⟩) 1 1]) (by kernel_rfl) (by rfl) (fun w h => k2_gtimes _ _ _ _ [n % 32] w (hG.keep h.below) (copy_reads (bs := [n % 32]) (h.blk 1 (by rfl)) rfl) (by intro b hb; simp at hb; omega) (by omega)))) (h := ?_)
    refine fG (i := 16) (dj := 57) (hl := by exact hl_1) (g := (gL g4 59 (cg2 (gN F2.inv (k) (x_1))) 2 Tryd.underlying59 (hi_g2 _))) (h := ?_)
    refine fG (i := 17) (dj := 57) (u := (.bool true)) (hl := by exact hl_1) (g := (gives_eql (cg2 (gTimes F2.inv (x_1) [n % 32])) (cg2 (gN F2.inv (k) (x_1))) true (by rfl) (by rfl) (by kernel_rfl) (fun w => eq_g2_t (d := 9995) w (c_times ec2 F2.inv_zero hu_1 _ _ (by omega) hkN)))) (h := ?_)
    refine fT (i := 18) (u := (.bool true)) (hl := by exact hl_1) (g := (gives_value _ fun _ => by rfl)) (h := ?_)
    refine fT (i := 19) (u := (.bool true)) (hl := by exact hl_1) (g := (gives_value _ fun _ => by rfl)) (h := ?_)
    refine fG (i := 20) (dj := 64) (hl := by exact hl_1) (g := (gL g2 59 (cg2 (x_1)) 4 Tryd.underlying59 (hi_g2 _))) (h := ?_)
    refine fG (i := 21) (dj := 64) (hl := by exact hl_1) (g := (gives_call (vl := [.agg (cg2 (x_1)), .slice none 0 0]) (by kernel_rfl) (by rfl) (fun w h => k2_gtimes _ none 0 0 [] w (hG.keep h.below) Reads.nil_ Oct.nil (by omega)))) (h := ?_)
    refine fG (i := 22) (dj := 64) (u := (.agg (cg2 (0 : Pt F2)))) (hl := by exact hl_1) (g := (gb_g2 [] trivial (by rfl) (cg2 (0 : Pt F2)) (by rfl))) (h := ?_)
    refine fG (i := 23) (dj := 64) (u := (.bool true)) (hl := by exact hl_1) (g := (gives_eql (cg2 (gTimes F2.inv (x_1) [])) (cg2 (0 : Pt F2)) true (by rfl) (by rfl) (by kernel_rfl) (fun w => eq_g2_t (d := 9995) w (c_times0 ec2 F2.inv_zero hu_1)))) (h := ?_)
    refine fT (i := 24) (u := (.bool true)) (hl := by exact hl_1) (g := (gives_value _ fun _ => by rfl)) (h := ?_)
    refine fT (i := 25) (u := (.bool true)) (hl := by exact hl_1) (g := (gives_value _ fun _ => by rfl)) (h := ?_)
    refine fG (i := 26) (dj := 70) (hl := by exact hl_1) (g := (gL g1 59 (cg2 (gMul F2.inv (k0) (num bs0))) 5 Tryd.underlying59 (hi_g2 _))) (h := ?_)
    refine fG (i := 27) (dj := 70) (u := (.int .u8 n)) (hl := by exact hl_1) (g := (gives_value _ fun _ => by rfl)) (h := ?_)
    refine fG (i := 28) (dj := 70) (u := (.int .u8 (n % 32))) (hl := by exact hl_1) (g := (gives_and (k := .u8) (n) 31 (n % 32) (by rfl) (by rfl) (and_31 n hn.1 hn.2))) (h := ?_)
    refine fG (i := 29) (dj := 70) (u := (.int .u64 (n % 32))) (hl := by exact hl_1) (g := (gives_conv (k2 := .u64) (n % 32) (n % 32) (by rfl) und_u8' und_w64 (IntWalk.u64_in _ (by omega)))) (h := ?_)
    refine fG (i := 30) (dj := 70) (hl := by exact hl_1) (g := (gives_call (vl := [.int .u64 (n % 32)]) (by kernel_rfl) (by rfl) (fun w h => w_of _ w (hR.keep h.below) (by omega) (by simp only [Wd]; omega)))) (h := ?_)
    refine fG (i := 31) (dj := 70) (hl := by exact hl_1) (g := (gives_call (vl := [.agg (cg2 (gMul F2.inv (k0) (num bs0))), .agg (frc (n % 32))]) (by kernel_rfl) (by rfl) (fun w h => k2_gmul _ _ w (hG.keep h.below) (hR.keep h.below)))) (h := ?_)
    refine fG (i := 32) (dj := 70) (hl := by exact hl_1) (g := (gL g3 59 (cg2 (gN F2.inv (k) (gMul F2.inv (k0) (num bs0)))) 3 Tryd.underlying59 (hi_g2 _))) (h := ?_)
    refine fG (i := 33) (dj := 70) (u := (.bool true)) (hl := by exact hl_1) (g := (gives_eql (cg2 (gMul F2.inv (gMul F2.inv (k0) (num bs0)) (n % 32))) (cg2 (gN F2.inv (k) (gMul F2.inv (k0) (num bs0)))) true (by rfl) (by rfl) (by kernel_rfl) (fun w => eq_g2_t (d := 9995) w (c_mul ec2 F2.inv_zero (ing2 hk0 _).1 _ _ (by omega) hkN)))) (h := ?_)
    refine fT (i := 34) (u := (.bool true)) (hl := by exact hl_1) (g := (gives_value _ fun _ => by rfl)) (h := ?_)
    refine fT (i := 35) (u := (.bool true)) (hl := by exact hl_1) (g := (gives_value _ fun _ => by rfl)) (h := ?_)
    refine flow_done (by kernel_rfl) ?_
    intro w16 hw16
    refine wp_ret ?_
    change bodyPost _ _ _ Exit.ret _ _
    refine (ret_tmp (by rfl) (by exact hl_1) (by rfl) ⟨rfl, hw16.below⟩)
theorem g2_counts_any (A0 : Option Addr) (L0 C0 : Nat) (bs0 : List Int) (n m : Int) (v : World) (hG : Glo v) (hR : GloR v) (hH : GSh v) (hr0 : Reads v v.heap.size A0 L0 (bs0.map (Value.int .u8))) (ho0 : Oct bs0) (hQ : GQp v) (hn : 0 ≤ n ∧ n < 256) (hm : 0 ≤ m ∧ m < 65536) : Rets 12 #[.slice A0 L0 C0, .int .u8 n, .int .u16 m] v (.bool true) := by
  by_cases hlong : 100 < L0
  · exact g2_counts_long A0 L0 C0 bs0 n m v hG hR hH hr0 ho0 hQ hn hm hlong
  · exact g2_counts_short A0 L0 C0 bs0 n m v hG hR hH hr0 ho0 hQ hn hm (by omega)
end Go.Proofs.YtifnnckbcjafgaaDoor
