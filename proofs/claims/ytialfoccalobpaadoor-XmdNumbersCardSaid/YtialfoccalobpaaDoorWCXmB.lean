/-
  Layer 11: digestOf, over, bytes, Grow: the walks.
-/
import Derived.Test.YtialfoccalobpaaDoorWCXmA
namespace Go.Proofs.YtialfoccalobpaaDoor
set_option linter.unusedSimpArgs false
set_option linter.unusedVariables false
open Go.RowKit
attribute [local irreducible] wpL wpF fr Code.wp bodyPost
set_option maxRecDepth 100000 in
set_option maxHeartbeats 4000000 in
theorem x_digestOf (A0 : Option Addr) (n0 c0 : Nat) (ps0 : List (List Int)) (txt : List Int) (v : World) (hf : ps0.flatten = txt) (hp0 : Pieces v v.heap.size A0 n0 ps0) (hgl : Glob v) (h2 : 3 ≤ v.heap.size) (hn : n0 ≤ 1048576) (hN : txt.length ≤ 10000000000) : Rets 107 #[.slice A0 n0 c0] v (.agg (agg64 (dw (digest txt) 32))) := by
  refine calls_fr1 Tryd.func107 rfl (by rfl : _ = 25) (by rfl) ?_
  have hw := Hbl.nil v
  refine seq_plain hw [0] (by rfl) ?_
  refine L_alloc _ (by rfl) (by rfl) z_q4 (agg64 ([0, 0, 0, 0] : List Int)) rfl ?_; intro g1
  refine L_end ?_
  intro w1 hw1
  refine seq_plain hw1 [0] (by rfl) ?_
  refine L_alloc _ (by rfl) (by rfl) z_q4 (agg64 ([0, 0, 0, 0] : List Int)) rfl ?_; intro g2
  refine L_end ?_
  intro w2 hw2
  refine wp_seq ?_
  refine seq_plain hw2 [0, 1, 2] (by rfl) ?_
  refine L_val (.slice A0 n0 c0) (by rfl) (by rfl) (gives_value _ fun _ => by rfl) ?_
  refine L_val (.agg (agg8 (digest (ps0.flatten)))) (by rfl) (by rfl) (gives_call (vl := [.slice A0 n0 c0]) (by kernel_rfl) (by rfl) (fun w h => c_of w _ _ _ ps0 (ps0.flatten) rfl ((hp0.below h.below).more h.below.size) (hgl.below h.below h2) (Nat.le_trans h2 h.below.size) (by omega) (by rw [hf]; omega))) ?_
  refine L_val (.int .i64 0) (by rfl) (by rfl) (gives_value _ fun _ => by rfl) ?_
  refine L_end ?_
  intro w3 hw3
  refine wp_block ?_
  refine loop_down (fun (r_ : Nat) a w => ∃ (i : Nat) (csd : Array Value) (l_1 : List (Nat × Value)), 32 - i = r_ ∧ inFr 25 l_1 = true ∧ a = fr 25 ((2, .pointer (some ⟨g1, 0, none⟩)) :: (3, .pointer (some ⟨g2, 0, none⟩)) :: (7, .agg (agg8 (digest ps0.flatten))) :: (8, .int .i64 (i : Int)) :: l_1) ∧ (i ≤ 32) ∧ (Nms .u64 csd 4 4 (dw (digest ps0.flatten) i)) ∧ Hbl v [(g2, 148, csd), (g1, 148, (agg64 ([0, 0, 0, 0] : List Int)))] w) ?_ _ _ _ ⟨0, agg64 [0, 0, 0, 0], [(8, .int .i64 0), (7, .agg (agg8 (digest (ps0.flatten)))), (6, .slice A0 n0 c0), (3, .pointer (some ⟨g2, 0, none⟩)), (2, .pointer (some ⟨g1, 0, none⟩)), (0, .slice A0 n0 c0)], rfl, (by rfl), (Eq.trans (Eq.trans (Eq.trans (fr_dup _ _ 8 _ (by rfl) (by rfl) (by rfl)).symm (fr_dup _ _ 7 _ (by rfl) (by rfl) (by rfl)).symm) (fr_dup _ _ 3 _ (by rfl) (by rfl) (by rfl)).symm) (fr_dup _ _ 2 _ (by rfl) (by rfl) (by rfl)).symm), Nat.zero_le _, nms64 rfl (by omega), hw3⟩
  rintro r_1 a0 w0_1 ⟨i, csd, l_1, hr_1, hl_1, rfl, hi, hd, hw0_1⟩
  by_cases hlt : i < 32
  ·
    refine seq_plain hw0_1 [0] (by rfl) ?_
    refine L_val (.bool true) (by rfl) (by exact hl_1) (gives_lss (k := .i64) ((i : Int)) (32) true (by rfl) (by rfl) (decide_eq_true (by omega))) ?_
    refine L_end ?_
    intro w4 hw4
    refine wp_seq ?_
    refine wp_cond_true (fr_at _ _ (by exact hl_1) _) ?_
    refine wp_skip ?_
    change Code.wp _ _ _ _ _
    refine wp_seq ?_
    refine wp_block ?_
    refine seq_plain hw4 [0, 1, 2, 3] (by rfl) ?_
    refine L_val (.int .i64 (i : Int)) (by rfl) (by exact hl_1) (gives_value _ fun _ => by rfl) ?_
    refine L_val (.int .u8 (gt (digest ps0.flatten) i)) (by rfl) (by exact hl_1) (gives_aindex (agg8 (digest ps0.flatten)) (.int .u8 (gt (digest ps0.flatten) i)) ((i : Int)) i (by rfl) (by rfl) und_d32 und_u8' u8_sz rfl (by omega) (agg8_get _ (by have := ((digest_len _) : (digest ps0.flatten).length = 32); omega))) ?_
    refine L_val (.int .i64 (i : Int)) (by rfl) (by exact hl_1) (gives_value _ fun _ => by rfl) ?_
    refine L_val (.int .u8 (gt (digest ps0.flatten) i)) (by rfl) (by exact hl_1) (gives_value _ fun _ => by rfl) ?_
    refine L_end ?_
    intro w5 hw5
    refine one_plain hw5 [0, 1, 2, 3, 4, 5, 6, 7, 8, 9, 10, 11] (by rfl) ?_
    refine L_val (.int .i64 (i : Int)) (by rfl) (by exact hl_1) (gives_value _ fun _ => by rfl) ?_
    refine L_val (.int .i64 ((i : Int) / 8)) (by rfl) (by exact hl_1) (gives_quo (k := .i64) ((i : Int)) (8) ((i : Int) / 8) (by rfl) (by rfl) (by omega) (IntWalk.i64_quo _ _ (by omega))) ?_
    refine L_val (.int .i64 (i : Int)) (by rfl) (by exact hl_1) (gives_value _ fun _ => by rfl) ?_
    refine L_val (.int .i64 ((i : Int) / 8)) (by rfl) (by exact hl_1) (gives_quo (k := .i64) ((i : Int)) (8) ((i : Int) / 8) (by rfl) (by rfl) (by omega) (IntWalk.i64_quo _ _ (by omega))) ?_
    refine L_val (.pointer (some ⟨g2, 0 + (i / 8), none⟩)) (by rfl) (by exact hl_1) (gives_aaddr g2 ((i : Int) / 8) (i / 8) (by rfl) (by rfl) und_q4 u64_sz (by omega) (by omega)) ?_
    refine L_val (.int .u64 (gt (dw (digest ps0.flatten) i) (i / 8))) (by rfl) (by exact hl_1) (gives_load1 g2 (0 + (i / 8)) _ csd (.int .u64 (gt (dw (digest ps0.flatten) i) (i / 8))) (by rfl) (fun _ h => h.blk 0 (by rfl)) (hd.get (by omega)) und_w64) ?_
    refine L_val (.int .u64 ((gt (dw (digest ps0.flatten) i) (i / 8)) * 256 % 18446744073709551616)) (by rfl) (by exact hl_1) (gives_shl (k := .u64) (k2 := .u64) (gt (dw (digest ps0.flatten) i) (i / 8)) 8 ((gt (dw (digest ps0.flatten) i) (i / 8)) * 256 % 18446744073709551616) (by rfl) (by rfl) (by decide) (shl64 _ 8 256 (by rfl) (by decide))) ?_
    refine L_val (.int .u8 (gt (digest ps0.flatten) i)) (by rfl) (by exact hl_1) (gives_value _ fun _ => by rfl) ?_
    refine L_val (.int .u64 ((gt (digest ps0.flatten) i) % 18446744073709551616)) (by rfl) (by exact hl_1) (gives_conv (k2 := .u64) (gt (digest ps0.flatten) i) ((gt (digest ps0.flatten) i) % 18446744073709551616) (by rfl) und_u8' und_w64 (wrap64 _)) ?_
    refine L_val (.int .u64 (bits .or .u64 ((gt (dw (digest ps0.flatten) i) (i / 8)) * 256 % 18446744073709551616) ((gt (digest ps0.flatten) i) % 18446744073709551616))) (by rfl) (by exact hl_1) (gives_orB (k := .u64) ((gt (dw (digest ps0.flatten) i) (i / 8)) * 256 % 18446744073709551616) ((gt (digest ps0.flatten) i) % 18446744073709551616) (by rfl) (by rfl)) ?_
    refine L_val (.pointer (some ⟨g2, 0 + (i / 8), none⟩)) (by rfl) (by exact hl_1) (gives_aaddr g2 ((i : Int) / 8) (i / 8) (by rfl) (by rfl) und_q4 u64_sz (by omega) (by omega)) ?_
    refine L_store1 0 g2 (0 + (i / 8)) _ csd (.int .u64 (bits .or .u64 ((gt (dw (digest ps0.flatten) i) (i / 8)) * 256 % 18446744073709551616) ((gt (digest ps0.flatten) i) % 18446744073709551616))) (by rfl) (by exact hl_1) (by rfl) (by rfl) rfl (by rfl) u64_sz (by have := hd.le; rw [hd.size]; omega) ?_
    simp only [List.set_cons_zero, List.set_cons_succ]
    have hn_1 := hd.set (i / 8) (bits .or .u64 ((gt (dw (digest ps0.flatten) i) (i / 8)) * 256 % 18446744073709551616) ((gt (digest ps0.flatten) i) % 18446744073709551616))
    refine L_end ?_
    intro w6 hw6
    change Code.wp _ _ _ _ _
    refine one_plain hw6 [0, 1] (by rfl) ?_
    refine L_val (.int .i64 ((i : Int) + 1)) (by rfl) (by exact hl_1) (gives_add (k := .i64) ((i : Int)) (1) ((i : Int) + 1) (by rfl) (by rfl) (IntWalk.i64_in _ (by omega))) ?_
    refine L_val (.int .i64 ((i : Int) + 1)) (by rfl) (by exact hl_1) (gives_value _ fun _ => by rfl) ?_
    refine L_end ?_
    intro w7 hw7
    change ∃ r' : Nat, r' < r_1 ∧ _
    refine ⟨_, ?_, i + 1, (csd.setIfInBounds (0 + (i / 8)) (.int .u64 (bits .or .u64 ((gt (dw (digest ps0.flatten) i) (i / 8)) * 256 % 18446744073709551616) ((gt (digest ps0.flatten) i) % 18446744073709551616)))), ((8, .int .i64 ((i : Int) + 1)) :: (23, .int .i64 ((i : Int) + 1)) :: (22, .pointer (some ⟨g2, 0 + (i / 8), none⟩)) :: (21, .int .u64 (bits .or .u64 ((gt (dw (digest ps0.flatten) i) (i / 8)) * 256 % 18446744073709551616) ((gt (digest ps0.flatten) i) % 18446744073709551616))) :: (20, .int .u64 ((gt (digest ps0.flatten) i) % 18446744073709551616)) :: (19, .int .u8 (gt (digest ps0.flatten) i)) :: (18, .int .u64 ((gt (dw (digest ps0.flatten) i) (i / 8)) * 256 % 18446744073709551616)) :: (17, .int .u64 (gt (dw (digest ps0.flatten) i) (i / 8))) :: (16, .pointer (some ⟨g2, 0 + (i / 8), none⟩)) :: (15, .int .i64 ((i : Int) / 8)) :: (14, .int .i64 (i : Int)) :: (13, .int .i64 ((i : Int) / 8)) :: (12, .int .i64 (i : Int)) :: (5, .int .u8 (gt (digest ps0.flatten) i)) :: (4, .int .i64 (i : Int)) :: (11, .int .u8 (gt (digest ps0.flatten) i)) :: (10, .int .i64 (i : Int)) :: (9, .bool true) :: (2, .pointer (some ⟨g1, 0, none⟩)) :: (3, .pointer (some ⟨g2, 0, none⟩)) :: (7, .agg (agg8 (digest ps0.flatten))) :: (8, .int .i64 (i : Int)) :: l_1), rfl, (by exact hl_1), (Eq.trans (Eq.trans (Eq.trans (fr_dup _ _ 8 _ (by exact hl_1) (by rfl) (by rfl)).symm (fr_dup _ _ 7 _ (by exact hl_1) (by rfl) (by rfl)).symm) (fr_dup _ _ 3 _ (by exact hl_1) (by rfl) (by rfl)).symm) (fr_dup _ _ 2 _ (by exact hl_1) (by rfl) (by rfl)).symm), by omega, hn_1.list (by rfl) rfl, hw7⟩
    omega
  ·
    refine seq_plain hw0_1 [0] (by rfl) ?_
    refine L_val (.bool false) (by rfl) (by exact hl_1) (gives_lss (k := .i64) ((i : Int)) (32) false (by rfl) (by rfl) (decide_eq_false (by omega))) ?_
    refine L_end ?_
    intro w8 hw8
    refine wp_seq ?_
    refine wp_cond_false (fr_at _ _ (by exact hl_1) _) ?_
    refine wp_exit ?_
    have hi32 : i = 32 := by omega
    subst hi32
    obtain rfl := nms_agg64 hd
    change Code.wp _ _ _ _ _
    change Code.wp _ _ _ _ _
    refine seq_plain hw8 [0, 1] (by rfl) ?_
    refine L_val (.agg (agg64 (dw (digest ps0.flatten) 32))) (by rfl) (by exact hl_1) (gives_load g2 0 148 (agg64 (dw (digest ps0.flatten) 32)) (agg64 (dw (digest ps0.flatten) 32)) _ (by rfl) (fun _ h => h.blk 0 (by rfl)) (Sl.refl _) Tryd.underlying148 (by rfl) (hi_q4 _ (dw_len _ _))) ?_
    refine L_store (t := 148) 1 g1 (agg64 ([0, 0, 0, 0] : List Int)) (agg64 (dw (digest ps0.flatten) 32)) (by rfl) (by exact hl_1) (by rfl) (by rfl) (by rfl) (hi_q4 _ (dw_len _ _)) (by rw [agg64_size, agg64_size, show (dw (digest ps0.flatten) 32).length = 4 from (dw_len _ _), show (([0, 0, 0, 0] : List Int)).length = 4 from (by rfl)]) (agg64_one _) ?_
    simp only [List.set_cons_zero, List.set_cons_succ]
    refine L_end ?_
    intro w9 hw9
    refine wp_ret ?_
    change bodyPost _ _ _ Exit.ret _ _
    refine (ret_cell (by rfl) (by exact hl_1) (by rfl) (hw9.blk 1 (by rfl)) Tryd.underlying148 (by rfl) (hi_q4 _ (dw_len _ _)) ⟨by rw [hf], hw9.below⟩)
set_option maxRecDepth 100000 in
set_option maxHeartbeats 4000000 in
theorem x_over (da db : List Int) (v : World) (hda : da.length = 4) (hdb : db.length = 4) : Rets 108 #[.agg (agg64 da), .agg (agg64 db)] v (.agg (agg64 (ow da db 4))) := by
  refine calls_fr2 Tryd.func108 rfl (by rfl : _ = 20) (by rfl) ?_
  have hw := Hbl.nil v
  refine seq_plain hw [0, 1, 2] (by rfl) ?_
  refine L_box (.agg (agg64 da)) (by rfl) (by rfl) (by rfl) (agg64 da) (by rfl) ?_; intro g1
  refine L_box (.agg (agg64 db)) (by rfl) (by rfl) (by rfl) (agg64 db) (by rfl) ?_; intro g2
  refine L_alloc _ (by rfl) (by rfl) z_q4 (agg64 ([0, 0, 0, 0] : List Int)) rfl ?_; intro g3
  refine L_end ?_
  intro w1 hw1
  refine wp_seq ?_
  refine seq_plain hw1 [0, 1] (by rfl) ?_
  refine L_val (.agg (agg64 db)) (by rfl) (by rfl) (gives_load g2 0 148 (agg64 db) (agg64 db) _ (by rfl) (fun _ h => h.blk 1 (by rfl)) (Sl.refl _) Tryd.underlying148 (by rfl) (hi_q4 _ hdb)) ?_
  refine L_val (.int .i64 0) (by rfl) (by rfl) (gives_value _ fun _ => by rfl) ?_
  refine L_end ?_
  intro w2 hw2
  refine wp_block ?_
  refine loop_down (fun (r_ : Nat) a w => ∃ (i : Nat) (csd : Array Value) (l_1 : List (Nat × Value)), 4 - i = r_ ∧ inFr 20 l_1 = true ∧ a = fr 20 ((2, .pointer (some ⟨g1, 0, none⟩)) :: (4, .pointer (some ⟨g3, 0, none⟩)) :: (7, .agg (agg64 db)) :: (8, .int .i64 (i : Int)) :: l_1) ∧ (i ≤ 4) ∧ (Nms .u64 csd 4 4 (ow da db i)) ∧ Hbl v [(g3, 148, (agg64 ([0, 0, 0, 0] : List Int))), (g2, 148, (agg64 db)), (g1, 148, csd)] w) ?_ _ _ _ ⟨0, agg64 da, [(8, .int .i64 0), (7, .agg (agg64 db)), (4, .pointer (some ⟨g3, 0, none⟩)), (3, .pointer (some ⟨g2, 0, none⟩)), (2, .pointer (some ⟨g1, 0, none⟩)), (1, .agg (agg64 db)), (0, .agg (agg64 da))], rfl, (by rfl), (Eq.trans (Eq.trans (Eq.trans (fr_dup _ _ 8 _ (by rfl) (by rfl) (by rfl)).symm (fr_dup _ _ 7 _ (by rfl) (by rfl) (by rfl)).symm) (fr_dup _ _ 4 _ (by rfl) (by rfl) (by rfl)).symm) (fr_dup _ _ 2 _ (by rfl) (by rfl) (by rfl)).symm), Nat.zero_le _, nms64 hda (by omega), hw2⟩
  rintro r_1 a0 w0_1 ⟨i, csd, l_1, hr_1, hl_1, rfl, hi, hd, hw0_1⟩
  by_cases hlt : i < 4
  ·
    refine seq_plain hw0_1 [0] (by rfl) ?_
    refine L_val (.bool true) (by rfl) (by exact hl_1) (gives_lss (k := .i64) ((i : Int)) (4) true (by rfl) (by rfl) (decide_eq_true (by omega))) ?_
    refine L_end ?_
    intro w3 hw3
    refine wp_seq ?_
    refine wp_cond_true (fr_at _ _ (by exact hl_1) _) ?_
    refine wp_skip ?_
    change Code.wp _ _ _ _ _
    refine wp_seq ?_
    refine wp_block ?_
    refine seq_plain hw3 [0, 1, 2, 3] (by rfl) ?_
    refine L_val (.int .i64 (i : Int)) (by rfl) (by exact hl_1) (gives_value _ fun _ => by rfl) ?_
    refine L_val (.int .u64 (gt db i)) (by rfl) (by exact hl_1) (gives_aindex (agg64 db) (.int .u64 (gt db i)) ((i : Int)) i (by rfl) (by rfl) und_q4 und_w64 u64_sz rfl (by omega) (agg64_get _ (by have := (hdb : (db).length = 4); omega))) ?_
    refine L_val (.int .i64 (i : Int)) (by rfl) (by exact hl_1) (gives_value _ fun _ => by rfl) ?_
    refine L_val (.int .u64 (gt db i)) (by rfl) (by exact hl_1) (gives_value _ fun _ => by rfl) ?_
    refine L_end ?_
    intro w4 hw4
    refine one_plain hw4 [0, 1, 2, 3, 4, 5, 6] (by rfl) ?_
    refine L_val (.int .i64 (i : Int)) (by rfl) (by exact hl_1) (gives_value _ fun _ => by rfl) ?_
    refine L_val (.pointer (some ⟨g1, 0 + (i), none⟩)) (by rfl) (by exact hl_1) (gives_aaddr g1 ((i : Int)) i (by rfl) (by rfl) und_q4 u64_sz rfl (by omega)) ?_
    refine L_val (.int .u64 (gt (ow da db i) i)) (by rfl) (by exact hl_1) (gives_load1 g1 (0 + (i)) _ csd (.int .u64 (gt (ow da db i) i)) (by rfl) (fun _ h => h.blk 2 (by rfl)) (hd.get (by omega)) und_w64) ?_
    refine L_val (.int .u64 (gt db i)) (by rfl) (by exact hl_1) (gives_value _ fun _ => by rfl) ?_
    refine L_val (.int .u64 (bits .xor .u64 (gt (ow da db i) i) (gt db i))) (by rfl) (by exact hl_1) (gives_xorB (k := .u64) (gt (ow da db i) i) (gt db i) (by rfl) (by rfl)) ?_
    refine L_val (.pointer (some ⟨g1, 0 + (i), none⟩)) (by rfl) (by exact hl_1) (gives_aaddr g1 ((i : Int)) i (by rfl) (by rfl) und_q4 u64_sz rfl (by omega)) ?_
    refine L_store1 2 g1 (0 + (i)) _ csd (.int .u64 (bits .xor .u64 (gt (ow da db i) i) (gt db i))) (by rfl) (by exact hl_1) (by rfl) (by rfl) rfl (by rfl) u64_sz (by have := hd.le; rw [hd.size]; omega) ?_
    simp only [List.set_cons_zero, List.set_cons_succ]
    have hn_1 := hd.set i (bits .xor .u64 (gt (ow da db i) i) (gt db i))
    refine L_end ?_
    intro w5 hw5
    change Code.wp _ _ _ _ _
    refine one_plain hw5 [0, 1] (by rfl) ?_
    refine L_val (.int .i64 ((i : Int) + 1)) (by rfl) (by exact hl_1) (gives_add (k := .i64) ((i : Int)) (1) ((i : Int) + 1) (by rfl) (by rfl) (IntWalk.i64_in _ (by omega))) ?_
    refine L_val (.int .i64 ((i : Int) + 1)) (by rfl) (by exact hl_1) (gives_value _ fun _ => by rfl) ?_
    refine L_end ?_
    intro w6 hw6
    change ∃ r' : Nat, r' < r_1 ∧ _
    refine ⟨_, ?_, i + 1, (csd.setIfInBounds (0 + (i)) (.int .u64 (bits .xor .u64 (gt (ow da db i) i) (gt db i)))), ((8, .int .i64 ((i : Int) + 1)) :: (18, .int .i64 ((i : Int) + 1)) :: (17, .pointer (some ⟨g1, 0 + (i), none⟩)) :: (16, .int .u64 (bits .xor .u64 (gt (ow da db i) i) (gt db i))) :: (15, .int .u64 (gt db i)) :: (14, .int .u64 (gt (ow da db i) i)) :: (13, .pointer (some ⟨g1, 0 + (i), none⟩)) :: (12, .int .i64 (i : Int)) :: (6, .int .u64 (gt db i)) :: (5, .int .i64 (i : Int)) :: (11, .int .u64 (gt db i)) :: (10, .int .i64 (i : Int)) :: (9, .bool true) :: (2, .pointer (some ⟨g1, 0, none⟩)) :: (4, .pointer (some ⟨g3, 0, none⟩)) :: (7, .agg (agg64 db)) :: (8, .int .i64 (i : Int)) :: l_1), rfl, (by exact hl_1), (Eq.trans (Eq.trans (Eq.trans (fr_dup _ _ 8 _ (by exact hl_1) (by rfl) (by rfl)).symm (fr_dup _ _ 7 _ (by exact hl_1) (by rfl) (by rfl)).symm) (fr_dup _ _ 4 _ (by exact hl_1) (by rfl) (by rfl)).symm) (fr_dup _ _ 2 _ (by exact hl_1) (by rfl) (by rfl)).symm), by omega, hn_1.list (by rfl) rfl, hw6⟩
    omega
  ·
    refine seq_plain hw0_1 [0] (by rfl) ?_
    refine L_val (.bool false) (by rfl) (by exact hl_1) (gives_lss (k := .i64) ((i : Int)) (4) false (by rfl) (by rfl) (decide_eq_false (by omega))) ?_
    refine L_end ?_
    intro w7 hw7
    refine wp_seq ?_
    refine wp_cond_false (fr_at _ _ (by exact hl_1) _) ?_
    refine wp_exit ?_
    have hi4 : i = 4 := by omega
    subst hi4
    obtain rfl := nms_agg64 hd
    change Code.wp _ _ _ _ _
    change Code.wp _ _ _ _ _
    refine seq_plain hw7 [0, 1] (by rfl) ?_
    refine L_val (.agg (agg64 (ow da db 4))) (by rfl) (by exact hl_1) (gives_load g1 0 148 (agg64 (ow da db 4)) (agg64 (ow da db 4)) _ (by rfl) (fun _ h => h.blk 2 (by rfl)) (Sl.refl _) Tryd.underlying148 (by rfl) (hi_q4 _ ((ow_len _ _ _).trans hda))) ?_
    refine L_store (t := 148) 0 g3 (agg64 ([0, 0, 0, 0] : List Int)) (agg64 (ow da db 4)) (by rfl) (by exact hl_1) (by rfl) (by rfl) (by rfl) (hi_q4 _ ((ow_len _ _ _).trans hda)) (by rw [agg64_size, agg64_size, show (ow da db 4).length = 4 from ((ow_len _ _ _).trans hda), show (([0, 0, 0, 0] : List Int)).length = 4 from (by rfl)]) (agg64_one _) ?_
    simp only [List.set_cons_zero, List.set_cons_succ]
    refine L_end ?_
    intro w8 hw8
    refine wp_ret ?_
    change bodyPost _ _ _ Exit.ret _ _
    refine (ret_cell (by rfl) (by exact hl_1) (by rfl) (hw8.blk 0 (by rfl)) Tryd.underlying148 (by rfl) (hi_q4 _ ((ow_len _ _ _).trans hda)) ⟨rfl, hw8.below⟩)
set_option maxRecDepth 100000 in
set_option maxHeartbeats 4000000 in
theorem x_bytes (d : List Int) (v : World) (hd : d.length = 4) : RetsP 109 #[.agg (agg64 d)] v 5 .u8 32 (bw4 d 4) := by
  refine calls_fr1 Tryd.func109 rfl (by rfl : _ = 27) (by rfl) ?_
  have hw := Hbl.nil v
  refine seq_plain hw [0, 1] (by rfl) ?_
  refine L_box (.agg (agg64 d)) (by rfl) (by rfl) (by rfl) (agg64 d) (by rfl) ?_; intro g1
  refine L_val (.slice none 0 0) (by rfl) (by rfl) (gives_value _ fun _ => by rfl) ?_
  refine L_end ?_
  intro w1 hw1
  refine seq_plain hw1 [0, 1] (by rfl) ?_
  refine L_makeC 0 32 _ (by rfl) (by rfl) und_u8s (by rfl) (by rfl) (by rfl) (by rfl) (by exact congrArg (Value.int .i64) (by omega : (0) = ((0 : Nat) : Int))) (by exact congrArg (Value.int .i64) (by omega : (32) = ((32 : Nat) : Int))) (by omega) (by omega) ?_; intro g2 cs_1 hn_1
  refine L_val (.slice (some ⟨g2, 0, none⟩) 0 32) (by rfl) (by rfl) (gives_value _ fun _ => by rfl) ?_
  refine L_end ?_
  intro w2 hw2
  refine wp_seq ?_
  refine seq_plain hw2 [0, 1] (by rfl) ?_
  refine L_val (.agg (agg64 d)) (by rfl) (by rfl) (gives_load g1 0 148 (agg64 d) (agg64 d) _ (by rfl) (fun _ h => h.blk 1 (by rfl)) (Sl.refl _) Tryd.underlying148 (by rfl) (hi_q4 _ hd)) ?_
  refine L_val (.int .i64 0) (by rfl) (by rfl) (gives_value _ fun _ => by rfl) ?_
  refine L_end ?_
  intro w3 hw3
  refine wp_block ?_
  refine loop_down (fun (r_ : Nat) a w => ∃ (j : Nat) (go : Nat) (co : Nat) (so : Array Value) (l_1 : List (Nat × Value)), 4 - j = r_ ∧ inFr 27 l_1 = true ∧ a = fr 27 ((3, .slice (some ⟨go, 0, none⟩) (8 * j) co) :: (8, .agg (agg64 d)) :: (9, .int .i64 (j : Int)) :: l_1) ∧ (j ≤ 4) ∧ (Nms .u8 so co (8 * j) (bw4 d j)) ∧ Hbl v [(go, 5, so), (g1, 148, (agg64 d))] w) ?_ _ _ _ ⟨0, g2, 32, cs_1, [(9, .int .i64 0), (8, .agg (agg64 d)), (3, .slice (some ⟨g2, 0, none⟩) 0 32), (7, .slice (some ⟨g2, 0, none⟩) 0 32), (2, .slice none 0 0), (1, .pointer (some ⟨g1, 0, none⟩)), (0, .agg (agg64 d))], rfl, (by rfl), (Eq.trans (Eq.trans (fr_dup _ _ 9 _ (by rfl) (by rfl) (by rfl)).symm (fr_dup _ _ 8 _ (by rfl) (by rfl) (by rfl)).symm) (fr_dup _ _ 3 _ (by rfl) (by rfl) (by rfl)).symm), Nat.zero_le _, hn_1.list (by rfl) rfl, hw3⟩
  rintro r_1 a0 w0_1 ⟨j, go, co, so, l_1, hr_1, hl_1, rfl, hj, ho, hw0_1⟩
  by_cases hlt : j < 4
  ·
    refine seq_plain hw0_1 [0] (by rfl) ?_
    refine L_val (.bool true) (by rfl) (by exact hl_1) (gives_lss (k := .i64) ((j : Int)) (4) true (by rfl) (by rfl) (decide_eq_true (by omega))) ?_
    refine L_end ?_
    intro w4 hw4
    refine wp_seq ?_
    refine wp_cond_true (fr_at _ _ (by exact hl_1) _) ?_
    refine wp_skip ?_
    change Code.wp _ _ _ _ _
    refine wp_seq ?_
    refine wp_block ?_
    refine seq_plain hw4 [0, 1] (by rfl) ?_
    refine L_val (.int .u64 (gt d j)) (by rfl) (by exact hl_1) (gives_aindex (agg64 d) (.int .u64 (gt d j)) ((j : Int)) j (by rfl) (by rfl) und_q4 und_w64 u64_sz rfl (by omega) (agg64_get _ (by have := (hd : (d).length = 4); omega))) ?_
    refine L_val (.int .u64 (gt d j)) (by rfl) (by exact hl_1) (gives_value _ fun _ => by rfl) ?_
    refine L_end ?_
    intro w5 hw5
    refine seq_plain hw5 [0] (by rfl) ?_
    refine L_val (.int .i64 0) (by rfl) (by exact hl_1) (gives_value _ fun _ => by rfl) ?_
    refine L_end ?_
    intro w6 hw6
    refine wp_block ?_
    refine loop_down (fun (r_ : Nat) a w => ∃ (i : Nat) (gi : Nat) (ci : Nat) (ri : Array Value) (l_2 : List (Nat × Value)), 8 - i = r_ ∧ inFr 27 l_2 = true ∧ a = fr 27 ((3, .slice (some ⟨gi, 0, none⟩) (8 * j + i) ci) :: (5, .int .u64 (gt d j)) :: (8, .agg (agg64 d)) :: (9, .int .i64 (j : Int)) :: (12, .int .i64 (i : Int)) :: l_2) ∧ (i ≤ 8) ∧ (Nms .u8 ri ci (8 * j + i) (bw4 d j ++ wb (gt d j) i)) ∧ Hbl v [(gi, 5, ri), (g1, 148, (agg64 d))] w) ?_ _ _ _ ⟨0, go, co, so, ((12, .int .i64 0) :: (5, .int .u64 (gt d j)) :: (11, .int .u64 (gt d j)) :: (10, .bool true) :: (3, .slice (some ⟨go, 0, none⟩) (8 * j) co) :: (8, .agg (agg64 d)) :: (9, .int .i64 (j : Int)) :: l_1), rfl, (by exact hl_1), (Eq.trans (Eq.trans (Eq.trans (Eq.trans (fr_dup _ _ 12 _ (by exact hl_1) (by rfl) (by rfl)).symm (fr_dup _ _ 9 _ (by exact hl_1) (by rfl) (by rfl)).symm) (fr_dup _ _ 8 _ (by exact hl_1) (by rfl) (by rfl)).symm) (fr_dup _ _ 5 _ (by exact hl_1) (by rfl) (by rfl)).symm) (fr_dup _ _ 3 _ (by exact hl_1) (by rfl) (by rfl)).symm), Nat.zero_le _, ho.list (by simp [wb]) rfl, hw6⟩
    rintro r_2 a0 w0_2 ⟨i, gi, ci, ri, l_2, hr_2, hl_2, rfl, hi, hr, hw0_2⟩
    by_cases hlt2 : i < 8
    ·
      refine seq_plain hw0_2 [0] (by rfl) ?_
      refine L_val (.bool true) (by rfl) (by exact hl_2) (gives_lss (k := .i64) ((i : Int)) (8) true (by rfl) (by rfl) (decide_eq_true (by omega))) ?_
      refine L_end ?_
      intro w7 hw7
      refine wp_seq ?_
      refine wp_cond_true (fr_at _ _ (by exact hl_2) _) ?_
      refine wp_skip ?_
      change Code.wp _ _ _ _ _
      refine wp_seq ?_
      refine wp_block ?_
      refine seq_plain hw7 [0, 1] (by rfl) ?_
      refine L_val (.int .i64 (i : Int)) (by rfl) (by exact hl_2) (gives_value _ fun _ => by rfl) ?_
      refine L_val (.int .i64 (i : Int)) (by rfl) (by exact hl_2) (gives_value _ fun _ => by rfl) ?_
      refine L_end ?_
      intro w8 hw8
      refine one_plain hw8 [0, 1, 2, 3, 4, 5, 6, 7, 8, 9] (by rfl) ?_
      refine L_val (.slice (some ⟨gi, 0, none⟩) (8 * j + i) ci) (by rfl) (by exact hl_2) (gives_value _ fun _ => by rfl) ?_
      refine L_val (.int .u64 (gt d j)) (by rfl) (by exact hl_2) (gives_value _ fun _ => by rfl) ?_
      refine L_val (.int .i64 (i : Int)) (by rfl) (by exact hl_2) (gives_value _ fun _ => by rfl) ?_
      refine L_val (.int .i64 (7 - (i : Int))) (by rfl) (by exact hl_2) (gives_sub (k := .i64) (7) ((i : Int)) (7 - (i : Int)) (by rfl) (by rfl) (IntWalk.i64_in _ (by omega))) ?_
      refine L_val (.int .i64 (8 * (7 - (i : Int)))) (by rfl) (by exact hl_2) (gives_mul (k := .i64) (8) (7 - (i : Int)) (8 * (7 - (i : Int))) (by rfl) (by rfl) (IntWalk.i64_in _ (by omega))) ?_
      refine L_val (.int .u64 ((gt d j) / 2 ^ (8 * (7 - i)))) (by rfl) (by exact hl_2) (gives_shr (k := .u64) (k2 := .i64) (gt d j) (8 * (7 - (i : Int))) ((gt d j) / 2 ^ (8 * (7 - i))) (by rfl) (by rfl) (by omega) (shrN _ _ (8 * (7 - i)) (by omega) (by omega))) ?_
      refine L_val (.int .u8 (((gt d j) / 2 ^ (8 * (7 - i))) % 256)) (by rfl) (by exact hl_2) (gives_conv (k2 := .u8) ((gt d j) / 2 ^ (8 * (7 - i))) (((gt d j) / 2 ^ (8 * (7 - i))) % 256) (by rfl) und_w64 und_u8' (u8wrap _)) ?_
      refine L_buildV 1 (.int .u8 0) [.int .u8 (((gt d j) / 2 ^ (8 * (7 - i))) % 256)] (by rfl) (by exact hl_2) Want.none und_u8s u8_zs (by rfl) (by rfl) (by rfl) (by intro u hu; simp only [List.mem_cons, List.not_mem_nil, or_false] at hu; rcases hu with rfl <;> rfl) (by rfl) (by rfl) ?_; intro g3
      have hn_2 : Nms .u8 ([.int .u8 (((gt d j) / 2 ^ (8 * (7 - i))) % 256)] : List Value).toArray 1 1 [((gt d j) / 2 ^ (8 * (7 - i))) % 256] := Nms.all (by rfl) (by rfl) (by omega)
      refine L_push 1 gi (8 * j + i) ci 1 1 1 (some ⟨g3, 0, none⟩) .u8 (.int .u8 0) (bw4 d j ++ wb (gt d j) i) ([((gt d j) / 2 ^ (8 * (7 - i))) % 256]) ri (by rfl) (by exact hl_2) Want.none und_u8s byte_info rfl (by rfl) (by rfl) (by rfl) hr (fun w h => (hn_2.reads (h.blk 0 (by rfl)))) (by omega) (by rfl) [(g3, 5, ([.int .u8 (((gt d j) / 2 ^ (8 * (7 - i))) % 256)] : List Value).toArray), (g1, 148, (agg64 d))] (by rfl) ?_; intro g4 cap_3 cs_3 hn_3
      refine L_val (.slice (some ⟨g4, 0, none⟩) ((8 * j + i) + 1) cap_3) (by rfl) (by exact hl_2) (gives_value _ fun _ => by rfl) ?_
      refine L_end ?_
      intro w9 hw9
      change Code.wp _ _ _ _ _
      refine one_plain hw9 [0, 1] (by rfl) ?_
      refine L_val (.int .i64 ((i : Int) + 1)) (by rfl) (by exact hl_2) (gives_add (k := .i64) ((i : Int)) (1) ((i : Int) + 1) (by rfl) (by rfl) (IntWalk.i64_in _ (by omega))) ?_
      refine L_val (.int .i64 ((i : Int) + 1)) (by rfl) (by exact hl_2) (gives_value _ fun _ => by rfl) ?_
      refine L_end ?_
      intro w10 hw10
      change ∃ r' : Nat, r' < r_2 ∧ _
      refine ⟨_, ?_, i + 1, g4, cap_3, cs_3, ((12, .int .i64 ((i : Int) + 1)) :: (24, .int .i64 ((i : Int) + 1)) :: (3, .slice (some ⟨g4, 0, none⟩) ((8 * j + i) + 1) cap_3) :: (23, .slice (some ⟨g4, 0, none⟩) ((8 * j + i) + 1) cap_3) :: (22, .slice (some ⟨g3, 0, none⟩) 1 1) :: (21, .int .u8 (((gt d j) / 2 ^ (8 * (7 - i))) % 256)) :: (20, .int .u64 ((gt d j) / 2 ^ (8 * (7 - i)))) :: (19, .int .i64 (8 * (7 - (i : Int)))) :: (18, .int .i64 (7 - (i : Int))) :: (17, .int .i64 (i : Int)) :: (16, .int .u64 (gt d j)) :: (15, .slice (some ⟨gi, 0, none⟩) (8 * j + i) ci) :: (6, .int .i64 (i : Int)) :: (14, .int .i64 (i : Int)) :: (13, .bool true) :: (3, .slice (some ⟨gi, 0, none⟩) (8 * j + i) ci) :: (5, .int .u64 (gt d j)) :: (8, .agg (agg64 d)) :: (9, .int .i64 (j : Int)) :: (12, .int .i64 (i : Int)) :: l_2), rfl, (by exact hl_2), (Eq.trans (Eq.trans (Eq.trans (Eq.trans (fr_dup _ _ 12 _ (by exact hl_2) (by rfl) (by rfl)).symm (fr_dup _ _ 9 _ (by exact hl_2) (by rfl) (by rfl)).symm) (fr_dup _ _ 8 _ (by exact hl_2) (by rfl) (by rfl)).symm) (fr_dup _ _ 5 _ (by exact hl_2) (by rfl) (by rfl)).symm) (fr_dup _ _ 3 _ (by exact hl_2) (by rfl) (by rfl)).symm), by omega, hn_3.list (by rw [List.append_assoc]; rfl) rfl, (hw10.sub (List.Sublist.cons_cons _ (List.Sublist.cons _ (List.Sublist.cons_cons _ (List.Sublist.refl _)))))⟩
      omega
    ·
      refine seq_plain hw0_2 [0] (by rfl) ?_
      refine L_val (.bool false) (by rfl) (by exact hl_2) (gives_lss (k := .i64) ((i : Int)) (8) false (by rfl) (by rfl) (decide_eq_false (by omega))) ?_
      refine L_end ?_
      intro w11 hw11
      refine wp_seq ?_
      refine wp_cond_false (fr_at _ _ (by exact hl_2) _) ?_
      refine wp_exit ?_
      have hi8 : i = 8 := by omega
      subst hi8
      change Code.wp _ _ _ _ _
      change Code.wp _ _ _ _ _
      refine one_plain hw11 [0, 1] (by rfl) ?_
      refine L_val (.int .i64 ((j : Int) + 1)) (by rfl) (by exact hl_2) (gives_add (k := .i64) ((j : Int)) (1) ((j : Int) + 1) (by rfl) (by rfl) (IntWalk.i64_in _ (by omega))) ?_
      refine L_val (.int .i64 ((j : Int) + 1)) (by rfl) (by exact hl_2) (gives_value _ fun _ => by rfl) ?_
      refine L_end ?_
      intro w12 hw12
      change ∃ r' : Nat, r' < r_1 ∧ _
      refine ⟨_, ?_, j + 1, gi, ci, ri, ((9, .int .i64 ((j : Int) + 1)) :: (25, .int .i64 ((j : Int) + 1)) :: (13, .bool false) :: (3, .slice (some ⟨gi, 0, none⟩) (8 * j + 8) ci) :: (5, .int .u64 (gt d j)) :: (8, .agg (agg64 d)) :: (9, .int .i64 (j : Int)) :: (12, .int .i64 (8 : Int)) :: l_2), rfl, (by exact hl_2), (Eq.trans (Eq.trans (fr_dup _ _ 9 _ (by exact hl_2) (by rfl) (by rfl)).symm (fr_dup _ _ 8 _ (by exact hl_2) (by rfl) (by rfl)).symm) (fr_dup _ _ 3 _ (by exact hl_2) (by rfl) (by rfl)).symm), by omega, hr.list (by rfl) rfl, hw12⟩
      omega
  ·
    refine seq_plain hw0_1 [0] (by rfl) ?_
    refine L_val (.bool false) (by rfl) (by exact hl_1) (gives_lss (k := .i64) ((j : Int)) (4) false (by rfl) (by rfl) (decide_eq_false (by omega))) ?_
    refine L_end ?_
    intro w13 hw13
    refine wp_seq ?_
    refine wp_cond_false (fr_at _ _ (by exact hl_1) _) ?_
    refine wp_exit ?_
    have hj4 : j = 4 := by omega
    subst hj4
    change Code.wp _ _ _ _ _
    change Code.wp _ _ _ _ _
    refine seq_plain hw13 [0, 1] (by rfl) ?_
    refine L_val (.slice (some ⟨go, 0, none⟩) (8 * 4) co) (by rfl) (by exact hl_1) (gives_value _ fun _ => by rfl) ?_
    refine L_val (.slice (some ⟨go, 0, none⟩) (8 * 4) co) (by rfl) (by exact hl_1) (gives_value _ fun _ => by rfl) ?_
    refine L_end ?_
    intro w14 hw14
    refine wp_ret ?_
    change bodyPost _ _ _ Exit.ret _ _
    refine (ret_tmp (by rfl) (by exact hl_1) (by rfl) ⟨_, _, _, rfl, ho, hw14.ge 0 (by rfl), hw14.blk 0 (by rfl), hw14.below⟩)
set_option maxRecDepth 100000 in
set_option maxHeartbeats 4000000 in
theorem x_grow (N : Nat) (v : World) (h0 : 0 < N) (hN : N ≤ 1000000000) : RetsP 157 #[.slice none 0 0, .int .i64 (N : Int)] v 5 .u8 0 [] := by
  refine calls_fr2 Tryd.func157 rfl (by rfl : _ = 27) (by rfl) ?_
  have hw := Hbl.nil v
  refine seq_plain hw [0] (by rfl) ?_
  refine L_val (.slice none 0 0) (by rfl) (by rfl) (gives_value _ fun _ => by rfl) ?_
  refine L_end ?_
  intro w1 hw1
  refine wp_seq ?_
  refine seq_plain hw1 [0, 1] (by rfl) ?_
  refine L_val (.int .i64 (N : Int)) (by rfl) (by rfl) (gives_value _ fun _ => by rfl) ?_
  refine L_val (.bool false) (by rfl) (by rfl) (gives_lss (k := .i64) ((N : Int)) (0) false (by rfl) (by rfl) (decide_eq_false (by omega))) ?_
  refine L_end ?_
  intro w2 hw2
  refine wp_cond_false (fr_at _ _ (by rfl) _) ?_
  refine wp_skip ?_
  change Code.wp _ _ _ _ _
  refine wp_seq ?_
  refine seq_plain hw2 [0, 1, 2, 3, 4, 5, 6, 7] (by rfl) ?_
  refine L_val (.int .i64 (N : Int)) (by rfl) (by rfl) (gives_value _ fun _ => by rfl) ?_
  refine L_val (.slice none 0 0) (by rfl) (by rfl) (gives_value _ fun _ => by rfl) ?_
  refine L_val (.int .i64 0) (by rfl) (by rfl) (gives_value _ fun _ => by kernel_rfl) ?_
  refine L_val (.slice none 0 0) (by rfl) (by rfl) (gives_value _ fun _ => by rfl) ?_
  refine L_val (.int .i64 0) (by rfl) (by rfl) (gives_value _ fun _ => by kernel_rfl) ?_
  refine L_val (.int .i64 0) (by rfl) (by rfl) (gives_sub (k := .i64) 0 0 0 (by rfl) (by rfl) (by rfl)) ?_
  refine L_val (.int .i64 ((N : Int) - 0)) (by rfl) (by rfl) (gives_sub (k := .i64) ((N : Int)) (0) ((N : Int) - 0) (by rfl) (by rfl) (IntWalk.i64_in _ (by omega))) ?_
  refine L_val (.int .i64 ((N : Int) - 0)) (by rfl) (by rfl) (gives_value _ fun _ => by rfl) ?_
  refine L_end ?_
  intro w3 hw3
  refine seq_plain hw3 [0, 1] (by rfl) ?_
  refine L_val (.int .i64 ((N : Int) - 0)) (by rfl) (by rfl) (gives_value _ fun _ => by rfl) ?_
  refine L_val (.bool true) (by rfl) (by rfl) (gives_gtr (k := .i64) ((N : Int) - 0) (0) true (by rfl) (by rfl) (decide_eq_true (by omega))) ?_
  refine L_end ?_
  intro w4 hw4
  refine wp_cond_true (fr_at _ _ (by rfl) _) ?_
  refine one_plain hw4 [0, 1, 2, 3, 4, 5, 6, 7, 8, 9] (by rfl) ?_
  refine L_val (.slice none 0 0) (by rfl) (by rfl) (gives_value _ fun _ => by rfl) ?_
  refine L_val (.slice none 0 0) (by rfl) (by rfl) (gives_value _ fun _ => by rfl) ?_
  refine L_val (.int .i64 0) (by rfl) (by rfl) (gives_value _ fun _ => by kernel_rfl) ?_
  refine L_val (.slice none 0 0) (by rfl) (by rfl) (gives_value _ fun _ => by kernel_rfl) ?_
  refine L_val (.int .i64 ((N : Int) - 0)) (by rfl) (by rfl) (gives_value _ fun _ => by rfl) ?_
  refine L_zeros N _ (by rfl) (by rfl) und_u8s und_int (by rfl) (by rfl) (by rfl) (by rfl) (by rfl) (by exact congrArg (Value.int .i64) (by omega : ((N : Int) - 0) = ((N : Nat) : Int))) (by omega) (by omega) ?_; intro g1 cap_1 cs_1 hn_1
  refine L_val (.slice none 0 0) (by rfl) (by rfl) (gives_value _ fun _ => by rfl) ?_
  refine L_val (.int .i64 0) (by rfl) (by rfl) (gives_value _ fun _ => by kernel_rfl) ?_
  refine L_val (.slice (some ⟨g1, 0, none⟩) 0 cap_1) (by rfl) (by rfl) (gives_slice_to g1 N cap_1 0 (0) (by rfl) (by rfl) und_u8s u8_sz (by omega) (Nat.zero_le _)) ?_
  refine L_val (.slice (some ⟨g1, 0, none⟩) 0 cap_1) (by rfl) (by rfl) (gives_value _ fun _ => by rfl) ?_
  refine L_end ?_
  intro w5 hw5
  change Code.wp _ _ _ _ _
  refine seq_plain hw5 [0, 1] (by rfl) ?_
  refine L_val (.slice (some ⟨g1, 0, none⟩) 0 cap_1) (by rfl) (by rfl) (gives_value _ fun _ => by rfl) ?_
  refine L_val (.slice (some ⟨g1, 0, none⟩) 0 cap_1) (by rfl) (by rfl) (gives_value _ fun _ => by rfl) ?_
  refine L_end ?_
  intro w6 hw6
  refine wp_ret ?_
  change bodyPost _ _ _ Exit.ret _ _
  refine (ret_tmp (by rfl) (by rfl) (by rfl) ⟨_, _, _, rfl, (hn_1.cutTo (Nat.zero_le _)).list (by simp) rfl, hw6.ge 0 (by rfl), hw6.blk 0 (by rfl), hw6.below⟩)
end Go.Proofs.YtialfoccalobpaaDoor
