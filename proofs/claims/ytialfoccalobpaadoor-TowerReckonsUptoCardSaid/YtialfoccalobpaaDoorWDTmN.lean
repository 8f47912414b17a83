/-
  Six numbers made of bytes; whether they are what the program holds.
-/
import Derived.Test.YtialfoccalobpaaDoorWDTmB
namespace Go.Proofs.YtialfoccalobpaaDoor
set_option linter.unusedSimpArgs false
set_option linter.unusedVariables false
open Go.RowKit
theorem hi_a2 (a b c d e f : F2) : (Tryd.prog.info? 137).map (·.size) = some (joinA [c2 a, c2 b, c2 c, c2 d, c2 e, c2 f]).size := hi_a 12 72 _ (by kernel_rfl) (by simp [c2_size]) (by rfl)
theorem sz_a2 (a b c d e f a' b' c' d' e' f' : F2) : (joinA [c2 a, c2 b, c2 c, c2 d, c2 e, c2 f]).size = (joinA [c2 a', c2 b', c2 c', c2 d', c2 e', c2 f']).size := by rw [joinC_size 12 _ (by simp [c2_size]), joinC_size 12 _ (by simp [c2_size])]; simp only [List.length_cons, List.length_nil]
theorem one_a2 (a b c d e f : F2) : (joinA [c2 a, c2 b, c2 c, c2 d, c2 e, c2 f]).all (·.oneCell') = true := one_join _ (by
  intro u hu
  simp only [List.mem_cons, List.not_mem_nil, or_false] at hu
  rcases hu with rfl | rfl | rfl | rfl | rfl | rfl <;> exact c2_one _)
attribute [local irreducible] wpL wpF fr Code.wp bodyPost
set_option maxRecDepth 100000 in
set_option maxHeartbeats 4000000 in
theorem number6_n (A0 : Option Addr) (n0 c0 : Nat) (bs0 : List Int) (v : World) (hG : Glo v) (hr0 : Reads v v.heap.size A0 n0 (bs0.map (Value.int .u8))) (ho0 : Oct bs0) (hb0 : n0 ≤ 1099511627776) (h0 : 0 < n0) : RetsM QN 44 #[.slice A0 n0 c0] v := by
  refine calls_fr1 Tryd.func44 rfl (by rfl : _ = 49) (by rfl) ?_
  have hw := Hbl.nil v
  refine seq_plain hw [0, 1] (by rfl) ?_
  refine L_alloc _ (by rfl) (by rfl) z_aN (joinA [#[.slice none 0 0, .slice none 0 0], #[.slice none 0 0, .slice none 0 0], #[.slice none 0 0, .slice none 0 0], #[.slice none 0 0, .slice none 0 0], #[.slice none 0 0, .slice none 0 0], #[.slice none 0 0, .slice none 0 0]]) rfl ?_; intro g1
  refine L_alloc _ (by rfl) (by rfl) z_12 (c12 (0 : T12)) rfl ?_; intro g2
  refine L_end ?_
  intro w1 hw1
  refine seq_plain hw1 [0] (by rfl) ?_
  refine L_alloc _ (by rfl) (by rfl) z_aN (joinA [#[.slice none 0 0, .slice none 0 0], #[.slice none 0 0, .slice none 0 0], #[.slice none 0 0, .slice none 0 0], #[.slice none 0 0, .slice none 0 0], #[.slice none 0 0, .slice none 0 0], #[.slice none 0 0, .slice none 0 0]]) rfl ?_; intro g3
  refine L_end ?_
  intro w2 hw2
  refine seq_plain hw2 [0] (by rfl) ?_
  refine L_alloc _ (by rfl) (by rfl) z_a2 (joinA [(c2 (0 : F2)), (c2 (0 : F2)), (c2 (0 : F2)), (c2 (0 : F2)), (c2 (0 : F2)), (c2 (0 : F2))]) rfl ?_; intro g4
  refine L_end ?_
  intro w3 hw3
  refine wp_seq ?_
  refine seq_plain hw3 [0] (by rfl) ?_
  refine L_val (.int .i64 0) (by rfl) (by rfl) (gives_value _ fun _ => by rfl) ?_
  refine L_end ?_
  intro w4 hw4
  refine wp_block ?_
  refine rounds_first 6 ?_
  refine wp_seq ?_
  refine seq_plain hw4 [0, 1] (by rfl) ?_
  refine L_val (.int .i64 0) (by rfl) (by rfl) (gives_value _ fun _ => by rfl) ?_
  refine L_val (.bool true) (by rfl) (by rfl) (gives_lss (k := .i64) 0 6 true (by rfl) (by rfl) (by rfl)) ?_
  refine L_end ?_
  intro w5 hw5
  refine wp_cond_true (fr_at _ _ (by rfl) _) ?_
  refine wp_skip ?_
  change Code.wp _ _ _ _ _
  refine wp_seq ?_
  refine wp_block ?_
  refine seq_plain hw5 [0, 1, 2, 3, 4, 5, 6, 7, 8, 9, 10, 11, 12] (by rfl) ?_
  refine L_val (.int .i64 0) (by rfl) (by rfl) (gives_value _ fun _ => by rfl) ?_
  refine L_val (.slice A0 n0 c0) (by rfl) (by rfl) (gives_value _ fun _ => by rfl) ?_
  refine L_val (.int .i64 0) (by rfl) (by rfl) (gives_value _ fun _ => by rfl) ?_
  refine L_val (.int .i64 0) (by rfl) (by rfl) (gives_mul (k := .i64) 2 0 0 (by rfl) (by rfl) (by rfl)) ?_
  refine L_freshX (vl := [.slice A0 n0 c0, .int .i64 0]) 5 (fun g cap => .slice (some ⟨g, 0, none⟩) 48 cap) (fun cap cs => ∃ l, BB cs cap 48 l ∧ Oct l) (by rfl) (by rfl) Want.none (by kernel_rfl) (by rfl)  (fun w h => part_n A0 n0 c0 bs0 0 w ((hr0.below h.below).more h.below.size) ho0 hb0 h0 (by omega)) ?_; intro g5 cap_1 cs_1 hq_1
  obtain ⟨l_1, hbb_1, hol_1⟩ := hq_1
  refine L_val (.slice A0 n0 c0) (by rfl) (by rfl) (gives_value _ fun _ => by rfl) ?_
  refine L_val (.int .i64 0) (by rfl) (by rfl) (gives_value _ fun _ => by rfl) ?_
  refine L_val (.int .i64 0) (by rfl) (by rfl) (gives_mul (k := .i64) 2 0 0 (by rfl) (by rfl) (by rfl)) ?_
  refine L_val (.int .i64 1) (by rfl) (by rfl) (gives_add (k := .i64) 0 1 1 (by rfl) (by rfl) (by rfl)) ?_
  refine L_freshX (vl := [.slice A0 n0 c0, .int .i64 1]) 5 (fun g cap => .slice (some ⟨g, 0, none⟩) 48 cap) (fun cap cs => ∃ l, BB cs cap 48 l ∧ Oct l) (by rfl) (by rfl) Want.none (by kernel_rfl) (by rfl)  (fun w h => part_n A0 n0 c0 bs0 1 w ((hr0.below h.below).more h.below.size) ho0 hb0 h0 (by omega)) ?_; intro g6 cap_2 cs_2 hq_2
  obtain ⟨l_2, hbb_2, hol_2⟩ := hq_2
  refine L_freshY (vl := [.slice (some ⟨g5, 0, none⟩) 48 cap_1, .slice (some ⟨g6, 0, none⟩) 48 cap_2]) 100 100 (fun g cap g2 cap2 => .agg #[.slice (some ⟨g, 0, none⟩) 24 cap, .slice (some ⟨g2, 0, none⟩) 24 cap2]) (fun cap cs cap2 cs2 => WB cs cap 24 ((⟨Fp.n (num l_1), Fp.n (num l_2)⟩ : F2).a.val : Int) ∧ WB cs2 cap2 24 ((⟨Fp.n (num l_1), Fp.n (num l_2)⟩ : F2).b.val : Int)) (by rfl) (by rfl) Want.none (by kernel_rfl) (by rfl)  (fun w h => l5_of _ _ _ l_1 _ _ _ l_2 w (hbb_1.reads (h.blk 1 (by rfl))) hol_1 (hbb_2.reads (h.blk 0 (by rfl))) hol_2 (by omega) (by omega)) ?_; intro g7 cap_3 cs_3 g8 cap_3b cs_3b hq_3; obtain ⟨hwb_3, hwb_3b⟩ := hq_3
  refine L_val (.pointer (some ⟨g3, 0, none⟩)) (by rfl) (by rfl) (gives_value _ fun _ => by kernel_rfl) ?_
  refine L_storeA (t := 79) 5 g3 0 (joinA [#[.slice none 0 0, .slice none 0 0], #[.slice none 0 0, .slice none 0 0], #[.slice none 0 0, .slice none 0 0], #[.slice none 0 0, .slice none 0 0], #[.slice none 0 0, .slice none 0 0], #[.slice none 0 0, .slice none 0 0]]) #[.slice (some ⟨g7, 0, none⟩) 24 cap_3, .slice (some ⟨g8, 0, none⟩) 24 cap_3b] (joinA [#[.slice (some ⟨g7, 0, none⟩) 24 cap_3, .slice (some ⟨g8, 0, none⟩) 24 cap_3b], #[.slice none 0 0, .slice none 0 0], #[.slice none 0 0, .slice none 0 0], #[.slice none 0 0, .slice none 0 0], #[.slice none 0 0, .slice none 0 0], #[.slice none 0 0, .slice none 0 0]]) (by rfl) (by rfl) (by rfl) (by rfl) (by rfl) (hi_NN _ _) (by rw [joinC_size 2 _ (by simp)]; simp) (one_N (by rfl) (by rfl)) (spliceC' 2 _ (by simp) 0 _ (by rfl) (by simp) _ (by rfl) _ (by rfl)) ?_
  simp only [List.set_cons_zero, List.set_cons_succ]
  refine L_end ?_
  intro w6 hw6
  refine one_plain hw6 [0, 1, 2, 3, 4, 5, 6, 7, 8, 9, 10] (by rfl) ?_
  refine L_val (.int .i64 0) (by rfl) (by rfl) (gives_value _ fun _ => by rfl) ?_
  refine L_val (.int .i64 0) (by rfl) (by rfl) (gives_value _ fun _ => by rfl) ?_
  refine L_val (.pointer (some ⟨g3, 0, none⟩)) (by rfl) (by rfl) (gives_value _ fun _ => by kernel_rfl) ?_
  refine L_val (.agg #[.slice (some ⟨g7, 0, none⟩) 24 cap_3, .slice (some ⟨g8, 0, none⟩) 24 cap_3b]) (by rfl) (by rfl) (gives_load g3 0 79 (joinA [#[.slice (some ⟨g7, 0, none⟩) 24 cap_3, .slice (some ⟨g8, 0, none⟩) 24 cap_3b], #[.slice none 0 0, .slice none 0 0], #[.slice none 0 0, .slice none 0 0], #[.slice none 0 0, .slice none 0 0], #[.slice none 0 0, .slice none 0 0], #[.slice none 0 0, .slice none 0 0]]) #[.slice (some ⟨g7, 0, none⟩) 24 cap_3, .slice (some ⟨g8, 0, none⟩) 24 cap_3b] _ (by rfl) (fun _ h => h.blk 5 (by rfl)) (sl_joinC 2 _ (by simp) 0 _ (by rfl) _ (by rfl)) Tryd.underlying77 (by rfl) (hi_NN _ _)) ?_
  refine L_freshX (vl := [.agg #[.slice (some ⟨g7, 0, none⟩) 24 cap_3, .slice (some ⟨g8, 0, none⟩) 24 cap_3b]]) 5 (fun g cap => .slice (some ⟨g, 0, none⟩) (48 + 48) cap) (fun cap cs => BB cs cap (48 + 48) (lo ((⟨Fp.n (num l_1), Fp.n (num l_2)⟩ : F2).b.val : Int) 48 ++ lo ((⟨Fp.n (num l_1), Fp.n (num l_2)⟩ : F2).a.val : Int) 48)) (by rfl) (by rfl) Want.none (by kernel_rfl) (by rfl)  (fun w h => l5_bytes (⟨Fp.n (num l_1), Fp.n (num l_2)⟩ : F2) _ _ _ _ _ _ w (hwb_3.num (h.blk 0 (by rfl)) (fv_rng _) (by omega)) (hwb_3b.num (h.blk 1 (by rfl)) (fv_rng _) (by omega)) (by omega) (by omega)) ?_; intro g9 cap_4 cs_4 hq_4
  refine L_val (.tuple #[.agg (c2 (⟨Fp.n (num l_1), Fp.n (num l_2)⟩ : F2)), .int .i64 0]) (by rfl) (by rfl) (gives_call (vl := [.slice (some ⟨g9, 0, none⟩) (48 + 48) cap_4]) (by kernel_rfl) (by rfl) (fun w h => read5 (⟨Fp.n (num l_1), Fp.n (num l_2)⟩ : F2) _ _ w (hG.keep h.below) (hq_4.reads (h.blk 0 (by rfl))) (by have := hq_4.le; omega))) ?_
  refine L_val (.tuple #[.agg (c2 (⟨Fp.n (num l_1), Fp.n (num l_2)⟩ : F2)), .int .i64 0]) (by rfl) (by rfl) (gives_value _ fun _ => by rfl) ?_
  refine L_val (.agg (c2 (⟨Fp.n (num l_1), Fp.n (num l_2)⟩ : F2))) (by rfl) (by rfl) (gives_value _ fun _ => by kernel_rfl) ?_
  refine L_val (.int .i64 0) (by rfl) (by rfl) (gives_value _ fun _ => by kernel_rfl) ?_
  refine L_val (.pointer (some ⟨g4, 0, none⟩)) (by rfl) (by rfl) (gives_value _ fun _ => by kernel_rfl) ?_
  refine L_storeA (t := 137) 5 g4 0 (joinA [(c2 (0 : F2)), (c2 (0 : F2)), (c2 (0 : F2)), (c2 (0 : F2)), (c2 (0 : F2)), (c2 (0 : F2))]) (c2 (⟨Fp.n (num l_1), Fp.n (num l_2)⟩ : F2)) (joinA [(c2 (⟨Fp.n (num l_1), Fp.n (num l_2)⟩ : F2)), (c2 (0 : F2)), (c2 (0 : F2)), (c2 (0 : F2)), (c2 (0 : F2)), (c2 (0 : F2))]) (by rfl) (by rfl) (by rfl) (by rfl) (by rfl) (hi_2 _) (by rw [joinC_size 12 _ (by simp [c2_size]), c2_size]; simp) (c2_one _) (spliceC' 12 _ (by simp [c2_size]) 0 _ (c2_size _) (by simp) _ (by rfl) _ (by rfl)) ?_
  simp only [List.set_cons_zero, List.set_cons_succ]
  refine L_end ?_
  intro w7 hw7
  change Code.wp _ _ _ _ _
  refine one_plain hw7 [0, 1, 2] (by rfl) ?_
  refine L_val (.int .i64 0) (by rfl) (by rfl) (gives_value _ fun _ => by rfl) ?_
  refine L_val (.int .i64 1) (by rfl) (by rfl) (gives_add (k := .i64) 0 1 1 (by rfl) (by rfl) (by rfl)) ?_
  refine L_val (.int .i64 1) (by rfl) (by rfl) (gives_value _ fun _ => by rfl) ?_
  refine L_end ?_
  intro w8 hw8
  refine rounds_next ?_
  refine wp_seq ?_
  refine seq_plain hw8 [0, 1] (by rfl) ?_
  refine L_val (.int .i64 1) (by rfl) (by rfl) (gives_value _ fun _ => by rfl) ?_
  refine L_val (.bool true) (by rfl) (by rfl) (gives_lss (k := .i64) 1 6 true (by rfl) (by rfl) (by rfl)) ?_
  refine L_end ?_
  intro w9 hw9
  refine wp_cond_true (fr_at _ _ (by rfl) _) ?_
  refine wp_skip ?_
  change Code.wp _ _ _ _ _
  refine wp_seq ?_
  refine wp_block ?_
  refine seq_plain hw9 [0, 1, 2, 3, 4, 5, 6, 7, 8, 9, 10, 11, 12] (by rfl) ?_
  refine L_val (.int .i64 1) (by rfl) (by rfl) (gives_value _ fun _ => by rfl) ?_
  refine L_val (.slice A0 n0 c0) (by rfl) (by rfl) (gives_value _ fun _ => by rfl) ?_
  refine L_val (.int .i64 1) (by rfl) (by rfl) (gives_value _ fun _ => by rfl) ?_
  refine L_val (.int .i64 2) (by rfl) (by rfl) (gives_mul (k := .i64) 2 1 2 (by rfl) (by rfl) (by rfl)) ?_
  refine L_freshX (vl := [.slice A0 n0 c0, .int .i64 2]) 5 (fun g cap => .slice (some ⟨g, 0, none⟩) 48 cap) (fun cap cs => ∃ l, BB cs cap 48 l ∧ Oct l) (by rfl) (by rfl) Want.none (by kernel_rfl) (by rfl)  (fun w h => part_n A0 n0 c0 bs0 2 w ((hr0.below h.below).more h.below.size) ho0 hb0 h0 (by omega)) ?_; intro g10 cap_5 cs_5 hq_5
  obtain ⟨l_5, hbb_5, hol_5⟩ := hq_5
  refine L_val (.slice A0 n0 c0) (by rfl) (by rfl) (gives_value _ fun _ => by rfl) ?_
  refine L_val (.int .i64 1) (by rfl) (by rfl) (gives_value _ fun _ => by rfl) ?_
  refine L_val (.int .i64 2) (by rfl) (by rfl) (gives_mul (k := .i64) 2 1 2 (by rfl) (by rfl) (by rfl)) ?_
  refine L_val (.int .i64 3) (by rfl) (by rfl) (gives_add (k := .i64) 2 1 3 (by rfl) (by rfl) (by rfl)) ?_
  refine L_freshX (vl := [.slice A0 n0 c0, .int .i64 3]) 5 (fun g cap => .slice (some ⟨g, 0, none⟩) 48 cap) (fun cap cs => ∃ l, BB cs cap 48 l ∧ Oct l) (by rfl) (by rfl) Want.none (by kernel_rfl) (by rfl)  (fun w h => part_n A0 n0 c0 bs0 3 w ((hr0.below h.below).more h.below.size) ho0 hb0 h0 (by omega)) ?_; intro g11 cap_6 cs_6 hq_6
  obtain ⟨l_6, hbb_6, hol_6⟩ := hq_6
  refine L_freshY (vl := [.slice (some ⟨g10, 0, none⟩) 48 cap_5, .slice (some ⟨g11, 0, none⟩) 48 cap_6]) 100 100 (fun g cap g2 cap2 => .agg #[.slice (some ⟨g, 0, none⟩) 24 cap, .slice (some ⟨g2, 0, none⟩) 24 cap2]) (fun cap cs cap2 cs2 => WB cs cap 24 ((⟨Fp.n (num l_5), Fp.n (num l_6)⟩ : F2).a.val : Int) ∧ WB cs2 cap2 24 ((⟨Fp.n (num l_5), Fp.n (num l_6)⟩ : F2).b.val : Int)) (by rfl) (by rfl) Want.none (by kernel_rfl) (by rfl)  (fun w h => l5_of _ _ _ l_5 _ _ _ l_6 w (hbb_5.reads (h.blk 1 (by rfl))) hol_5 (hbb_6.reads (h.blk 0 (by rfl))) hol_6 (by omega) (by omega)) ?_; intro g12 cap_7 cs_7 g13 cap_7b cs_7b hq_7; obtain ⟨hwb_7, hwb_7b⟩ := hq_7
  refine L_val (.pointer (some ⟨g3, 2, none⟩)) (by rfl) (by rfl) (gives_value _ fun _ => by kernel_rfl) ?_
  refine L_storeA (t := 79) 10 g3 2 (joinA [#[.slice (some ⟨g7, 0, none⟩) 24 cap_3, .slice (some ⟨g8, 0, none⟩) 24 cap_3b], #[.slice none 0 0, .slice none 0 0], #[.slice none 0 0, .slice none 0 0], #[.slice none 0 0, .slice none 0 0], #[.slice none 0 0, .slice none 0 0], #[.slice none 0 0, .slice none 0 0]]) #[.slice (some ⟨g12, 0, none⟩) 24 cap_7, .slice (some ⟨g13, 0, none⟩) 24 cap_7b] (joinA [#[.slice (some ⟨g7, 0, none⟩) 24 cap_3, .slice (some ⟨g8, 0, none⟩) 24 cap_3b], #[.slice (some ⟨g12, 0, none⟩) 24 cap_7, .slice (some ⟨g13, 0, none⟩) 24 cap_7b], #[.slice none 0 0, .slice none 0 0], #[.slice none 0 0, .slice none 0 0], #[.slice none 0 0, .slice none 0 0], #[.slice none 0 0, .slice none 0 0]]) (by rfl) (by rfl) (by rfl) (by rfl) (by rfl) (hi_NN _ _) (by rw [joinC_size 2 _ (by simp)]; simp) (one_N (by rfl) (by rfl)) (spliceC' 2 _ (by simp) 1 _ (by rfl) (by simp) _ (by rfl) _ (by rfl)) ?_
  simp only [List.set_cons_zero, List.set_cons_succ]
  refine L_end ?_
  intro w10 hw10
  refine one_plain hw10 [0, 1, 2, 3, 4, 5, 6, 7, 8, 9, 10] (by rfl) ?_
  refine L_val (.int .i64 1) (by rfl) (by rfl) (gives_value _ fun _ => by rfl) ?_
  refine L_val (.int .i64 1) (by rfl) (by rfl) (gives_value _ fun _ => by rfl) ?_
  refine L_val (.pointer (some ⟨g3, 2, none⟩)) (by rfl) (by rfl) (gives_value _ fun _ => by kernel_rfl) ?_
  refine L_val (.agg #[.slice (some ⟨g12, 0, none⟩) 24 cap_7, .slice (some ⟨g13, 0, none⟩) 24 cap_7b]) (by rfl) (by rfl) (gives_load g3 2 79 (joinA [#[.slice (some ⟨g7, 0, none⟩) 24 cap_3, .slice (some ⟨g8, 0, none⟩) 24 cap_3b], #[.slice (some ⟨g12, 0, none⟩) 24 cap_7, .slice (some ⟨g13, 0, none⟩) 24 cap_7b], #[.slice none 0 0, .slice none 0 0], #[.slice none 0 0, .slice none 0 0], #[.slice none 0 0, .slice none 0 0], #[.slice none 0 0, .slice none 0 0]]) #[.slice (some ⟨g12, 0, none⟩) 24 cap_7, .slice (some ⟨g13, 0, none⟩) 24 cap_7b] _ (by rfl) (fun _ h => h.blk 10 (by rfl)) (sl_joinC 2 _ (by simp) 1 _ (by rfl) _ (by rfl)) Tryd.underlying77 (by rfl) (hi_NN _ _)) ?_
  refine L_freshX (vl := [.agg #[.slice (some ⟨g12, 0, none⟩) 24 cap_7, .slice (some ⟨g13, 0, none⟩) 24 cap_7b]]) 5 (fun g cap => .slice (some ⟨g, 0, none⟩) (48 + 48) cap) (fun cap cs => BB cs cap (48 + 48) (lo ((⟨Fp.n (num l_5), Fp.n (num l_6)⟩ : F2).b.val : Int) 48 ++ lo ((⟨Fp.n (num l_5), Fp.n (num l_6)⟩ : F2).a.val : Int) 48)) (by rfl) (by rfl) Want.none (by kernel_rfl) (by rfl)  (fun w h => l5_bytes (⟨Fp.n (num l_5), Fp.n (num l_6)⟩ : F2) _ _ _ _ _ _ w (hwb_7.num (h.blk 0 (by rfl)) (fv_rng _) (by omega)) (hwb_7b.num (h.blk 1 (by rfl)) (fv_rng _) (by omega)) (by omega) (by omega)) ?_; intro g14 cap_8 cs_8 hq_8
  refine L_val (.tuple #[.agg (c2 (⟨Fp.n (num l_5), Fp.n (num l_6)⟩ : F2)), .int .i64 0]) (by rfl) (by rfl) (gives_call (vl := [.slice (some ⟨g14, 0, none⟩) (48 + 48) cap_8]) (by kernel_rfl) (by rfl) (fun w h => read5 (⟨Fp.n (num l_5), Fp.n (num l_6)⟩ : F2) _ _ w (hG.keep h.below) (hq_8.reads (h.blk 0 (by rfl))) (by have := hq_8.le; omega))) ?_
  refine L_val (.tuple #[.agg (c2 (⟨Fp.n (num l_5), Fp.n (num l_6)⟩ : F2)), .int .i64 0]) (by rfl) (by rfl) (gives_value _ fun _ => by rfl) ?_
  refine L_val (.agg (c2 (⟨Fp.n (num l_5), Fp.n (num l_6)⟩ : F2))) (by rfl) (by rfl) (gives_value _ fun _ => by kernel_rfl) ?_
  refine L_val (.int .i64 0) (by rfl) (by rfl) (gives_value _ fun _ => by kernel_rfl) ?_
  refine L_val (.pointer (some ⟨g4, 12, none⟩)) (by rfl) (by rfl) (gives_value _ fun _ => by kernel_rfl) ?_
  refine L_storeA (t := 137) 10 g4 12 (joinA [(c2 (⟨Fp.n (num l_1), Fp.n (num l_2)⟩ : F2)), (c2 (0 : F2)), (c2 (0 : F2)), (c2 (0 : F2)), (c2 (0 : F2)), (c2 (0 : F2))]) (c2 (⟨Fp.n (num l_5), Fp.n (num l_6)⟩ : F2)) (joinA [(c2 (⟨Fp.n (num l_1), Fp.n (num l_2)⟩ : F2)), (c2 (⟨Fp.n (num l_5), Fp.n (num l_6)⟩ : F2)), (c2 (0 : F2)), (c2 (0 : F2)), (c2 (0 : F2)), (c2 (0 : F2))]) (by rfl) (by rfl) (by rfl) (by rfl) (by rfl) (hi_2 _) (by rw [joinC_size 12 _ (by simp [c2_size]), c2_size]; simp) (c2_one _) (spliceC' 12 _ (by simp [c2_size]) 1 _ (c2_size _) (by simp) _ (by rfl) _ (by rfl)) ?_
  simp only [List.set_cons_zero, List.set_cons_succ]
  refine L_end ?_
  intro w11 hw11
  change Code.wp _ _ _ _ _
  refine one_plain hw11 [0, 1, 2] (by rfl) ?_
  refine L_val (.int .i64 1) (by rfl) (by rfl) (gives_value _ fun _ => by rfl) ?_
  refine L_val (.int .i64 2) (by rfl) (by rfl) (gives_add (k := .i64) 1 1 2 (by rfl) (by rfl) (by rfl)) ?_
  refine L_val (.int .i64 2) (by rfl) (by rfl) (gives_value _ fun _ => by rfl) ?_
  refine L_end ?_
  intro w12 hw12
  refine rounds_next ?_
  refine wp_seq ?_
  refine seq_plain hw12 [0, 1] (by rfl) ?_
  refine L_val (.int .i64 2) (by rfl) (by rfl) (gives_value _ fun _ => by rfl) ?_
  refine L_val (.bool true) (by rfl) (by rfl) (gives_lss (k := .i64) 2 6 true (by rfl) (by rfl) (by rfl)) ?_
  refine L_end ?_
  intro w13 hw13
  refine wp_cond_true (fr_at _ _ (by rfl) _) ?_
  refine wp_skip ?_
  change Code.wp _ _ _ _ _
  refine wp_seq ?_
  refine wp_block ?_
  refine seq_plain hw13 [0, 1, 2, 3, 4, 5, 6, 7, 8, 9, 10, 11, 12] (by rfl) ?_
  refine L_val (.int .i64 2) (by rfl) (by rfl) (gives_value _ fun _ => by rfl) ?_
  refine L_val (.slice A0 n0 c0) (by rfl) (by rfl) (gives_value _ fun _ => by rfl) ?_
  refine L_val (.int .i64 2) (by rfl) (by rfl) (gives_value _ fun _ => by rfl) ?_
  refine L_val (.int .i64 4) (by rfl) (by rfl) (gives_mul (k := .i64) 2 2 4 (by rfl) (by rfl) (by rfl)) ?_
  refine L_freshX (vl := [.slice A0 n0 c0, .int .i64 4]) 5 (fun g cap => .slice (some ⟨g, 0, none⟩) 48 cap) (fun cap cs => ∃ l, BB cs cap 48 l ∧ Oct l) (by rfl) (by rfl) Want.none (by kernel_rfl) (by rfl)  (fun w h => part_n A0 n0 c0 bs0 4 w ((hr0.below h.below).more h.below.size) ho0 hb0 h0 (by omega)) ?_; intro g15 cap_9 cs_9 hq_9
  obtain ⟨l_9, hbb_9, hol_9⟩ := hq_9
  refine L_val (.slice A0 n0 c0) (by rfl) (by rfl) (gives_value _ fun _ => by rfl) ?_
  refine L_val (.int .i64 2) (by rfl) (by rfl) (gives_value _ fun _ => by rfl) ?_
  refine L_val (.int .i64 4) (by rfl) (by rfl) (gives_mul (k := .i64) 2 2 4 (by rfl) (by rfl) (by rfl)) ?_
  refine L_val (.int .i64 5) (by rfl) (by rfl) (gives_add (k := .i64) 4 1 5 (by rfl) (by rfl) (by rfl)) ?_
  refine L_freshX (vl := [.slice A0 n0 c0, .int .i64 5]) 5 (fun g cap => .slice (some ⟨g, 0, none⟩) 48 cap) (fun cap cs => ∃ l, BB cs cap 48 l ∧ Oct l) (by rfl) (by rfl) Want.none (by kernel_rfl) (by rfl)  (fun w h => part_n A0 n0 c0 bs0 5 w ((hr0.below h.below).more h.below.size) ho0 hb0 h0 (by omega)) ?_; intro g16 cap_10 cs_10 hq_10
  obtain ⟨l_10, hbb_10, hol_10⟩ := hq_10
  refine L_freshY (vl := [.slice (some ⟨g15, 0, none⟩) 48 cap_9, .slice (some ⟨g16, 0, none⟩) 48 cap_10]) 100 100 (fun g cap g2 cap2 => .agg #[.slice (some ⟨g, 0, none⟩) 24 cap, .slice (some ⟨g2, 0, none⟩) 24 cap2]) (fun cap cs cap2 cs2 => WB cs cap 24 ((⟨Fp.n (num l_9), Fp.n (num l_10)⟩ : F2).a.val : Int) ∧ WB cs2 cap2 24 ((⟨Fp.n (num l_9), Fp.n (num l_10)⟩ : F2).b.val : Int)) (by rfl) (by rfl) Want.none (by kernel_rfl) (by rfl)  (fun w h => l5_of _ _ _ l_9 _ _ _ l_10 w (hbb_9.reads (h.blk 1 (by rfl))) hol_9 (hbb_10.reads (h.blk 0 (by rfl))) hol_10 (by omega) (by omega)) ?_; intro g17 cap_11 cs_11 g18 cap_11b cs_11b hq_11; obtain ⟨hwb_11, hwb_11b⟩ := hq_11
  refine L_val (.pointer (some ⟨g3, 4, none⟩)) (by rfl) (by rfl) (gives_value _ fun _ => by kernel_rfl) ?_
  refine L_storeA (t := 79) 15 g3 4 (joinA [#[.slice (some ⟨g7, 0, none⟩) 24 cap_3, .slice (some ⟨g8, 0, none⟩) 24 cap_3b], #[.slice (some ⟨g12, 0, none⟩) 24 cap_7, .slice (some ⟨g13, 0, none⟩) 24 cap_7b], #[.slice none 0 0, .slice none 0 0], #[.slice none 0 0, .slice none 0 0], #[.slice none 0 0, .slice none 0 0], #[.slice none 0 0, .slice none 0 0]]) #[.slice (some ⟨g17, 0, none⟩) 24 cap_11, .slice (some ⟨g18, 0, none⟩) 24 cap_11b] (joinA [#[.slice (some ⟨g7, 0, none⟩) 24 cap_3, .slice (some ⟨g8, 0, none⟩) 24 cap_3b], #[.slice (some ⟨g12, 0, none⟩) 24 cap_7, .slice (some ⟨g13, 0, none⟩) 24 cap_7b], #[.slice (some ⟨g17, 0, none⟩) 24 cap_11, .slice (some ⟨g18, 0, none⟩) 24 cap_11b], #[.slice none 0 0, .slice none 0 0], #[.slice none 0 0, .slice none 0 0], #[.slice none 0 0, .slice none 0 0]]) (by rfl) (by rfl) (by rfl) (by rfl) (by rfl) (hi_NN _ _) (by rw [joinC_size 2 _ (by simp)]; simp) (one_N (by rfl) (by rfl)) (spliceC' 2 _ (by simp) 2 _ (by rfl) (by simp) _ (by rfl) _ (by rfl)) ?_
  simp only [List.set_cons_zero, List.set_cons_succ]
  refine L_end ?_
  intro w14 hw14
  refine one_plain hw14 [0, 1, 2, 3, 4, 5, 6, 7, 8, 9, 10] (by rfl) ?_
  refine L_val (.int .i64 2) (by rfl) (by rfl) (gives_value _ fun _ => by rfl) ?_
  refine L_val (.int .i64 2) (by rfl) (by rfl) (gives_value _ fun _ => by rfl) ?_
  refine L_val (.pointer (some ⟨g3, 4, none⟩)) (by rfl) (by rfl) (gives_value _ fun _ => by kernel_rfl) ?_
  refine L_val (.agg #[.slice (some ⟨g17, 0, none⟩) 24 cap_11, .slice (some ⟨g18, 0, none⟩) 24 cap_11b]) (by rfl) (by rfl) (gives_load g3 4 79 (joinA [#[.slice (some ⟨g7, 0, none⟩) 24 cap_3, .slice (some ⟨g8, 0, none⟩) 24 cap_3b], #[.slice (some ⟨g12, 0, none⟩) 24 cap_7, .slice (some ⟨g13, 0, none⟩) 24 cap_7b], #[.slice (some ⟨g17, 0, none⟩) 24 cap_11, .slice (some ⟨g18, 0, none⟩) 24 cap_11b], #[.slice none 0 0, .slice none 0 0], #[.slice none 0 0, .slice none 0 0], #[.slice none 0 0, .slice none 0 0]]) #[.slice (some ⟨g17, 0, none⟩) 24 cap_11, .slice (some ⟨g18, 0, none⟩) 24 cap_11b] _ (by rfl) (fun _ h => h.blk 15 (by rfl)) (sl_joinC 2 _ (by simp) 2 _ (by rfl) _ (by rfl)) Tryd.underlying77 (by rfl) (hi_NN _ _)) ?_
  refine L_freshX (vl := [.agg #[.slice (some ⟨g17, 0, none⟩) 24 cap_11, .slice (some ⟨g18, 0, none⟩) 24 cap_11b]]) 5 (fun g cap => .slice (some ⟨g, 0, none⟩) (48 + 48) cap) (fun cap cs => BB cs cap (48 + 48) (lo ((⟨Fp.n (num l_9), Fp.n (num l_10)⟩ : F2).b.val : Int) 48 ++ lo ((⟨Fp.n (num l_9), Fp.n (num l_10)⟩ : F2).a.val : Int) 48)) (by rfl) (by rfl) Want.none (by kernel_rfl) (by rfl)  (fun w h => l5_bytes (⟨Fp.n (num l_9), Fp.n (num l_10)⟩ : F2) _ _ _ _ _ _ w (hwb_11.num (h.blk 0 (by rfl)) (fv_rng _) (by omega)) (hwb_11b.num (h.blk 1 (by rfl)) (fv_rng _) (by omega)) (by omega) (by omega)) ?_; intro g19 cap_12 cs_12 hq_12
  refine L_val (.tuple #[.agg (c2 (⟨Fp.n (num l_9), Fp.n (num l_10)⟩ : F2)), .int .i64 0]) (by rfl) (by rfl) (gives_call (vl := [.slice (some ⟨g19, 0, none⟩) (48 + 48) cap_12]) (by kernel_rfl) (by rfl) (fun w h => read5 (⟨Fp.n (num l_9), Fp.n (num l_10)⟩ : F2) _ _ w (hG.keep h.below) (hq_12.reads (h.blk 0 (by rfl))) (by have := hq_12.le; omega))) ?_
  refine L_val (.tuple #[.agg (c2 (⟨Fp.n (num l_9), Fp.n (num l_10)⟩ : F2)), .int .i64 0]) (by rfl) (by rfl) (gives_value _ fun _ => by rfl) ?_
  refine L_val (.agg (c2 (⟨Fp.n (num l_9), Fp.n (num l_10)⟩ : F2))) (by rfl) (by rfl) (gives_value _ fun _ => by kernel_rfl) ?_
  refine L_val (.int .i64 0) (by rfl) (by rfl) (gives_value _ fun _ => by kernel_rfl) ?_
  refine L_val (.pointer (some ⟨g4, 24, none⟩)) (by rfl) (by rfl) (gives_value _ fun _ => by kernel_rfl) ?_
  refine L_storeA (t := 137) 15 g4 24 (joinA [(c2 (⟨Fp.n (num l_1), Fp.n (num l_2)⟩ : F2)), (c2 (⟨Fp.n (num l_5), Fp.n (num l_6)⟩ : F2)), (c2 (0 : F2)), (c2 (0 : F2)), (c2 (0 : F2)), (c2 (0 : F2))]) (c2 (⟨Fp.n (num l_9), Fp.n (num l_10)⟩ : F2)) (joinA [(c2 (⟨Fp.n (num l_1), Fp.n (num l_2)⟩ : F2)), (c2 (⟨Fp.n (num l_5), Fp.n (num l_6)⟩ : F2)), (c2 (⟨Fp.n (num l_9), Fp.n (num l_10)⟩ : F2)), (c2 (0 : F2)), (c2 (0 : F2)), (c2 (0 : F2))]) (by rfl) (by rfl) (by rfl) (by rfl) (by rfl) (hi_2 _) (by rw [joinC_size 12 _ (by simp [c2_size]), c2_size]; simp) (c2_one _) (spliceC' 12 _ (by simp [c2_size]) 2 _ (c2_size _) (by simp) _ (by rfl) _ (by rfl)) ?_
  simp only [List.set_cons_zero, List.set_cons_succ]
  refine L_end ?_
  intro w15 hw15
  change Code.wp _ _ _ _ _
  refine one_plain hw15 [0, 1, 2] (by rfl) ?_
  refine L_val (.int .i64 2) (by rfl) (by rfl) (gives_value _ fun _ => by rfl) ?_
  refine L_val (.int .i64 3) (by rfl) (by rfl) (gives_add (k := .i64) 2 1 3 (by rfl) (by rfl) (by rfl)) ?_
  refine L_val (.int .i64 3) (by rfl) (by rfl) (gives_value _ fun _ => by rfl) ?_
  refine L_end ?_
  intro w16 hw16
  refine rounds_next ?_
  refine wp_seq ?_
  refine seq_plain hw16 [0, 1] (by rfl) ?_
  refine L_val (.int .i64 3) (by rfl) (by rfl) (gives_value _ fun _ => by rfl) ?_
  refine L_val (.bool true) (by rfl) (by rfl) (gives_lss (k := .i64) 3 6 true (by rfl) (by rfl) (by rfl)) ?_
  refine L_end ?_
  intro w17 hw17
  refine wp_cond_true (fr_at _ _ (by rfl) _) ?_
  refine wp_skip ?_
  change Code.wp _ _ _ _ _
  refine wp_seq ?_
  refine wp_block ?_
  refine seq_plain hw17 [0, 1, 2, 3, 4, 5, 6, 7, 8, 9, 10, 11, 12] (by rfl) ?_
  refine L_val (.int .i64 3) (by rfl) (by rfl) (gives_value _ fun _ => by rfl) ?_
  refine L_val (.slice A0 n0 c0) (by rfl) (by rfl) (gives_value _ fun _ => by rfl) ?_
  refine L_val (.int .i64 3) (by rfl) (by rfl) (gives_value _ fun _ => by rfl) ?_
  refine L_val (.int .i64 6) (by rfl) (by rfl) (gives_mul (k := .i64) 2 3 6 (by rfl) (by rfl) (by rfl)) ?_
  refine L_freshX (vl := [.slice A0 n0 c0, .int .i64 6]) 5 (fun g cap => .slice (some ⟨g, 0, none⟩) 48 cap) (fun cap cs => ∃ l, BB cs cap 48 l ∧ Oct l) (by rfl) (by rfl) Want.none (by kernel_rfl) (by rfl)  (fun w h => part_n A0 n0 c0 bs0 6 w ((hr0.below h.below).more h.below.size) ho0 hb0 h0 (by omega)) ?_; intro g20 cap_13 cs_13 hq_13
  obtain ⟨l_13, hbb_13, hol_13⟩ := hq_13
  refine L_val (.slice A0 n0 c0) (by rfl) (by rfl) (gives_value _ fun _ => by rfl) ?_
  refine L_val (.int .i64 3) (by rfl) (by rfl) (gives_value _ fun _ => by rfl) ?_
  refine L_val (.int .i64 6) (by rfl) (by rfl) (gives_mul (k := .i64) 2 3 6 (by rfl) (by rfl) (by rfl)) ?_
  refine L_val (.int .i64 7) (by rfl) (by rfl) (gives_add (k := .i64) 6 1 7 (by rfl) (by rfl) (by rfl)) ?_
  refine L_freshX (vl := [.slice A0 n0 c0, .int .i64 7]) 5 (fun g cap => .slice (some ⟨g, 0, none⟩) 48 cap) (fun cap cs => ∃ l, BB cs cap 48 l ∧ Oct l) (by rfl) (by rfl) Want.none (by kernel_rfl) (by rfl)  (fun w h => part_n A0 n0 c0 bs0 7 w ((hr0.below h.below).more h.below.size) ho0 hb0 h0 (by omega)) ?_; intro g21 cap_14 cs_14 hq_14
  obtain ⟨l_14, hbb_14, hol_14⟩ := hq_14
  refine L_freshY (vl := [.slice (some ⟨g20, 0, none⟩) 48 cap_13, .slice (some ⟨g21, 0, none⟩) 48 cap_14]) 100 100 (fun g cap g2 cap2 => .agg #[.slice (some ⟨g, 0, none⟩) 24 cap, .slice (some ⟨g2, 0, none⟩) 24 cap2]) (fun cap cs cap2 cs2 => WB cs cap 24 ((⟨Fp.n (num l_13), Fp.n (num l_14)⟩ : F2).a.val : Int) ∧ WB cs2 cap2 24 ((⟨Fp.n (num l_13), Fp.n (num l_14)⟩ : F2).b.val : Int)) (by rfl) (by rfl) Want.none (by kernel_rfl) (by rfl)  (fun w h => l5_of _ _ _ l_13 _ _ _ l_14 w (hbb_13.reads (h.blk 1 (by rfl))) hol_13 (hbb_14.reads (h.blk 0 (by rfl))) hol_14 (by omega) (by omega)) ?_; intro g22 cap_15 cs_15 g23 cap_15b cs_15b hq_15; obtain ⟨hwb_15, hwb_15b⟩ := hq_15
  refine L_val (.pointer (some ⟨g3, 6, none⟩)) (by rfl) (by rfl) (gives_value _ fun _ => by kernel_rfl) ?_
  refine L_storeA (t := 79) 20 g3 6 (joinA [#[.slice (some ⟨g7, 0, none⟩) 24 cap_3, .slice (some ⟨g8, 0, none⟩) 24 cap_3b], #[.slice (some ⟨g12, 0, none⟩) 24 cap_7, .slice (some ⟨g13, 0, none⟩) 24 cap_7b], #[.slice (some ⟨g17, 0, none⟩) 24 cap_11, .slice (some ⟨g18, 0, none⟩) 24 cap_11b], #[.slice none 0 0, .slice none 0 0], #[.slice none 0 0, .slice none 0 0], #[.slice none 0 0, .slice none 0 0]]) #[.slice (some ⟨g22, 0, none⟩) 24 cap_15, .slice (some ⟨g23, 0, none⟩) 24 cap_15b] (joinA [#[.slice (some ⟨g7, 0, none⟩) 24 cap_3, .slice (some ⟨g8, 0, none⟩) 24 cap_3b], #[.slice (some ⟨g12, 0, none⟩) 24 cap_7, .slice (some ⟨g13, 0, none⟩) 24 cap_7b], #[.slice (some ⟨g17, 0, none⟩) 24 cap_11, .slice (some ⟨g18, 0, none⟩) 24 cap_11b], #[.slice (some ⟨g22, 0, none⟩) 24 cap_15, .slice (some ⟨g23, 0, none⟩) 24 cap_15b], #[.slice none 0 0, .slice none 0 0], #[.slice none 0 0, .slice none 0 0]]) (by rfl) (by rfl) (by rfl) (by rfl) (by rfl) (hi_NN _ _) (by rw [joinC_size 2 _ (by simp)]; simp) (one_N (by rfl) (by rfl)) (spliceC' 2 _ (by simp) 3 _ (by rfl) (by simp) _ (by rfl) _ (by rfl)) ?_
  simp only [List.set_cons_zero, List.set_cons_succ]
  refine L_end ?_
  intro w18 hw18
  refine one_plain hw18 [0, 1, 2, 3, 4, 5, 6, 7, 8, 9, 10] (by rfl) ?_
  refine L_val (.int .i64 3) (by rfl) (by rfl) (gives_value _ fun _ => by rfl) ?_
  refine L_val (.int .i64 3) (by rfl) (by rfl) (gives_value _ fun _ => by rfl) ?_
  refine L_val (.pointer (some ⟨g3, 6, none⟩)) (by rfl) (by rfl) (gives_value _ fun _ => by kernel_rfl) ?_
  refine L_val (.agg #[.slice (some ⟨g22, 0, none⟩) 24 cap_15, .slice (some ⟨g23, 0, none⟩) 24 cap_15b]) (by rfl) (by rfl) (gives_load g3 6 79 (joinA [#[.slice (some ⟨g7, 0, none⟩) 24 cap_3, .slice (some ⟨g8, 0, none⟩) 24 cap_3b], #[.slice (some ⟨g12, 0, none⟩) 24 cap_7, .slice (some ⟨g13, 0, none⟩) 24 cap_7b], #[.slice (some ⟨g17, 0, none⟩) 24 cap_11, .slice (some ⟨g18, 0, none⟩) 24 cap_11b], #[.slice (some ⟨g22, 0, none⟩) 24 cap_15, .slice (some ⟨g23, 0, none⟩) 24 cap_15b], #[.slice none 0 0, .slice none 0 0], #[.slice none 0 0, .slice none 0 0]]) #[.slice (some ⟨g22, 0, none⟩) 24 cap_15, .slice (some ⟨g23, 0, none⟩) 24 cap_15b] _ (by rfl) (fun _ h => h.blk 20 (by rfl)) (sl_joinC 2 _ (by simp) 3 _ (by rfl) _ (by rfl)) Tryd.underlying77 (by rfl) (hi_NN _ _)) ?_
  refine L_freshX (vl := [.agg #[.slice (some ⟨g22, 0, none⟩) 24 cap_15, .slice (some ⟨g23, 0, none⟩) 24 cap_15b]]) 5 (fun g cap => .slice (some ⟨g, 0, none⟩) (48 + 48) cap) (fun cap cs => BB cs cap (48 + 48) (lo ((⟨Fp.n (num l_13), Fp.n (num l_14)⟩ : F2).b.val : Int) 48 ++ lo ((⟨Fp.n (num l_13), Fp.n (num l_14)⟩ : F2).a.val : Int) 48)) (by rfl) (by rfl) Want.none (by kernel_rfl) (by rfl)  (fun w h => l5_bytes (⟨Fp.n (num l_13), Fp.n (num l_14)⟩ : F2) _ _ _ _ _ _ w (hwb_15.num (h.blk 0 (by rfl)) (fv_rng _) (by omega)) (hwb_15b.num (h.blk 1 (by rfl)) (fv_rng _) (by omega)) (by omega) (by omega)) ?_; intro g24 cap_16 cs_16 hq_16
  refine L_val (.tuple #[.agg (c2 (⟨Fp.n (num l_13), Fp.n (num l_14)⟩ : F2)), .int .i64 0]) (by rfl) (by rfl) (gives_call (vl := [.slice (some ⟨g24, 0, none⟩) (48 + 48) cap_16]) (by kernel_rfl) (by rfl) (fun w h => read5 (⟨Fp.n (num l_13), Fp.n (num l_14)⟩ : F2) _ _ w (hG.keep h.below) (hq_16.reads (h.blk 0 (by rfl))) (by have := hq_16.le; omega))) ?_
  refine L_val (.tuple #[.agg (c2 (⟨Fp.n (num l_13), Fp.n (num l_14)⟩ : F2)), .int .i64 0]) (by rfl) (by rfl) (gives_value _ fun _ => by rfl) ?_
  refine L_val (.agg (c2 (⟨Fp.n (num l_13), Fp.n (num l_14)⟩ : F2))) (by rfl) (by rfl) (gives_value _ fun _ => by kernel_rfl) ?_
  refine L_val (.int .i64 0) (by rfl) (by rfl) (gives_value _ fun _ => by kernel_rfl) ?_
  refine L_val (.pointer (some ⟨g4, 36, none⟩)) (by rfl) (by rfl) (gives_value _ fun _ => by kernel_rfl) ?_
  refine L_storeA (t := 137) 20 g4 36 (joinA [(c2 (⟨Fp.n (num l_1), Fp.n (num l_2)⟩ : F2)), (c2 (⟨Fp.n (num l_5), Fp.n (num l_6)⟩ : F2)), (c2 (⟨Fp.n (num l_9), Fp.n (num l_10)⟩ : F2)), (c2 (0 : F2)), (c2 (0 : F2)), (c2 (0 : F2))]) (c2 (⟨Fp.n (num l_13), Fp.n (num l_14)⟩ : F2)) (joinA [(c2 (⟨Fp.n (num l_1), Fp.n (num l_2)⟩ : F2)), (c2 (⟨Fp.n (num l_5), Fp.n (num l_6)⟩ : F2)), (c2 (⟨Fp.n (num l_9), Fp.n (num l_10)⟩ : F2)), (c2 (⟨Fp.n (num l_13), Fp.n (num l_14)⟩ : F2)), (c2 (0 : F2)), (c2 (0 : F2))]) (by rfl) (by rfl) (by rfl) (by rfl) (by rfl) (hi_2 _) (by rw [joinC_size 12 _ (by simp [c2_size]), c2_size]; simp) (c2_one _) (spliceC' 12 _ (by simp [c2_size]) 3 _ (c2_size _) (by simp) _ (by rfl) _ (by rfl)) ?_
  simp only [List.set_cons_zero, List.set_cons_succ]
  refine L_end ?_
  intro w19 hw19
  change Code.wp _ _ _ _ _
  refine one_plain hw19 [0, 1, 2] (by rfl) ?_
  refine L_val (.int .i64 3) (by rfl) (by rfl) (gives_value _ fun _ => by rfl) ?_
  refine L_val (.int .i64 4) (by rfl) (by rfl) (gives_add (k := .i64) 3 1 4 (by rfl) (by rfl) (by rfl)) ?_
  refine L_val (.int .i64 4) (by rfl) (by rfl) (gives_value _ fun _ => by rfl) ?_
  refine L_end ?_
  intro w20 hw20
  refine rounds_next ?_
  refine wp_seq ?_
  refine seq_plain hw20 [0, 1] (by rfl) ?_
  refine L_val (.int .i64 4) (by rfl) (by rfl) (gives_value _ fun _ => by rfl) ?_
  refine L_val (.bool true) (by rfl) (by rfl) (gives_lss (k := .i64) 4 6 true (by rfl) (by rfl) (by rfl)) ?_
  refine L_end ?_
  intro w21 hw21
  refine wp_cond_true (fr_at _ _ (by rfl) _) ?_
  refine wp_skip ?_
  change Code.wp _ _ _ _ _
  refine wp_seq ?_
  refine wp_block ?_
  refine seq_plain hw21 [0, 1, 2, 3, 4, 5, 6, 7, 8, 9, 10, 11, 12] (by rfl) ?_
  refine L_val (.int .i64 4) (by rfl) (by rfl) (gives_value _ fun _ => by rfl) ?_
  refine L_val (.slice A0 n0 c0) (by rfl) (by rfl) (gives_value _ fun _ => by rfl) ?_
  refine L_val (.int .i64 4) (by rfl) (by rfl) (gives_value _ fun _ => by rfl) ?_
  refine L_val (.int .i64 8) (by rfl) (by rfl) (gives_mul (k := .i64) 2 4 8 (by rfl) (by rfl) (by rfl)) ?_
  refine L_freshX (vl := [.slice A0 n0 c0, .int .i64 8]) 5 (fun g cap => .slice (some ⟨g, 0, none⟩) 48 cap) (fun cap cs => ∃ l, BB cs cap 48 l ∧ Oct l) (by rfl) (by rfl) Want.none (by kernel_rfl) (by rfl)  (fun w h => part_n A0 n0 c0 bs0 8 w ((hr0.below h.below).more h.below.size) ho0 hb0 h0 (by omega)) ?_; intro g25 cap_17 cs_17 hq_17
  obtain ⟨l_17, hbb_17, hol_17⟩ := hq_17
  refine L_val (.slice A0 n0 c0) (by rfl) (by rfl) (gives_value _ fun _ => by rfl) ?_
  refine L_val (.int .i64 4) (by rfl) (by rfl) (gives_value _ fun _ => by rfl) ?_
  refine L_val (.int .i64 8) (by rfl) (by rfl) (gives_mul (k := .i64) 2 4 8 (by rfl) (by rfl) (by rfl)) ?_
  refine L_val (.int .i64 9) (by rfl) (by rfl) (gives_add (k := .i64) 8 1 9 (by rfl) (by rfl) (by rfl)) ?_
  refine L_freshX (vl := [.slice A0 n0 c0, .int .i64 9]) 5 (fun g cap => .slice (some ⟨g, 0, none⟩) 48 cap) (fun cap cs => ∃ l, BB cs cap 48 l ∧ Oct l) (by rfl) (by rfl) Want.none (by kernel_rfl) (by rfl)  (fun w h => part_n A0 n0 c0 bs0 9 w ((hr0.below h.below).more h.below.size) ho0 hb0 h0 (by omega)) ?_; intro g26 cap_18 cs_18 hq_18
  obtain ⟨l_18, hbb_18, hol_18⟩ := hq_18
  refine L_freshY (vl := [.slice (some ⟨g25, 0, none⟩) 48 cap_17, .slice (some ⟨g26, 0, none⟩) 48 cap_18]) 100 100 (fun g cap g2 cap2 => .agg #[.slice (some ⟨g, 0, none⟩) 24 cap, .slice (some ⟨g2, 0, none⟩) 24 cap2]) (fun cap cs cap2 cs2 => WB cs cap 24 ((⟨Fp.n (num l_17), Fp.n (num l_18)⟩ : F2).a.val : Int) ∧ WB cs2 cap2 24 ((⟨Fp.n (num l_17), Fp.n (num l_18)⟩ : F2).b.val : Int)) (by rfl) (by rfl) Want.none (by kernel_rfl) (by rfl)  (fun w h => l5_of _ _ _ l_17 _ _ _ l_18 w (hbb_17.reads (h.blk 1 (by rfl))) hol_17 (hbb_18.reads (h.blk 0 (by rfl))) hol_18 (by omega) (by omega)) ?_; intro g27 cap_19 cs_19 g28 cap_19b cs_19b hq_19; obtain ⟨hwb_19, hwb_19b⟩ := hq_19
  refine L_val (.pointer (some ⟨g3, 8, none⟩)) (by rfl) (by rfl) (gives_value _ fun _ => by kernel_rfl) ?_
  refine L_storeA (t := 79) 25 g3 8 (joinA [#[.slice (some ⟨g7, 0, none⟩) 24 cap_3, .slice (some ⟨g8, 0, none⟩) 24 cap_3b], #[.slice (some ⟨g12, 0, none⟩) 24 cap_7, .slice (some ⟨g13, 0, none⟩) 24 cap_7b], #[.slice (some ⟨g17, 0, none⟩) 24 cap_11, .slice (some ⟨g18, 0, none⟩) 24 cap_11b], #[.slice (some ⟨g22, 0, none⟩) 24 cap_15, .slice (some ⟨g23, 0, none⟩) 24 cap_15b], #[.slice none 0 0, .slice none 0 0], #[.slice none 0 0, .slice none 0 0]]) #[.slice (some ⟨g27, 0, none⟩) 24 cap_19, .slice (some ⟨g28, 0, none⟩) 24 cap_19b] (joinA [#[.slice (some ⟨g7, 0, none⟩) 24 cap_3, .slice (some ⟨g8, 0, none⟩) 24 cap_3b], #[.slice (some ⟨g12, 0, none⟩) 24 cap_7, .slice (some ⟨g13, 0, none⟩) 24 cap_7b], #[.slice (some ⟨g17, 0, none⟩) 24 cap_11, .slice (some ⟨g18, 0, none⟩) 24 cap_11b], #[.slice (some ⟨g22, 0, none⟩) 24 cap_15, .slice (some ⟨g23, 0, none⟩) 24 cap_15b], #[.slice (some ⟨g27, 0, none⟩) 24 cap_19, .slice (some ⟨g28, 0, none⟩) 24 cap_19b], #[.slice none 0 0, .slice none 0 0]]) (by rfl) (by rfl) (by rfl) (by rfl) (by rfl) (hi_NN _ _) (by rw [joinC_size 2 _ (by simp)]; simp) (one_N (by rfl) (by rfl)) (spliceC' 2 _ (by simp) 4 _ (by rfl) (by simp) _ (by rfl) _ (by rfl)) ?_
  simp only [List.set_cons_zero, List.set_cons_succ]
  refine L_end ?_
  intro w22 hw22
  refine one_plain hw22 [0, 1, 2, 3, 4, 5, 6, 7, 8, 9, 10] (by rfl) ?_
  refine L_val (.int .i64 4) (by rfl) (by rfl) (gives_value _ fun _ => by rfl) ?_
  refine L_val (.int .i64 4) (by rfl) (by rfl) (gives_value _ fun _ => by rfl) ?_
  refine L_val (.pointer (some ⟨g3, 8, none⟩)) (by rfl) (by rfl) (gives_value _ fun _ => by kernel_rfl) ?_
  refine L_val (.agg #[.slice (some ⟨g27, 0, none⟩) 24 cap_19, .slice (some ⟨g28, 0, none⟩) 24 cap_19b]) (by rfl) (by rfl) (gives_load g3 8 79 (joinA [#[.slice (some ⟨g7, 0, none⟩) 24 cap_3, .slice (some ⟨g8, 0, none⟩) 24 cap_3b], #[.slice (some ⟨g12, 0, none⟩) 24 cap_7, .slice (some ⟨g13, 0, none⟩) 24 cap_7b], #[.slice (some ⟨g17, 0, none⟩) 24 cap_11, .slice (some ⟨g18, 0, none⟩) 24 cap_11b], #[.slice (some ⟨g22, 0, none⟩) 24 cap_15, .slice (some ⟨g23, 0, none⟩) 24 cap_15b], #[.slice (some ⟨g27, 0, none⟩) 24 cap_19, .slice (some ⟨g28, 0, none⟩) 24 cap_19b], #[.slice none 0 0, .slice none 0 0]]) #[.slice (some ⟨g27, 0, none⟩) 24 cap_19, .slice (some ⟨g28, 0, none⟩) 24 cap_19b] _ (by rfl) (fun _ h => h.blk 25 (by rfl)) (sl_joinC 2 _ (by simp) 4 _ (by rfl) _ (by rfl)) Tryd.underlying77 (by rfl) (hi_NN _ _)) ?_
  refine L_freshX (vl := [.agg #[.slice (some ⟨g27, 0, none⟩) 24 cap_19, .slice (some ⟨g28, 0, none⟩) 24 cap_19b]]) 5 (fun g cap => .slice (some ⟨g, 0, none⟩) (48 + 48) cap) (fun cap cs => BB cs cap (48 + 48) (lo ((⟨Fp.n (num l_17), Fp.n (num l_18)⟩ : F2).b.val : Int) 48 ++ lo ((⟨Fp.n (num l_17), Fp.n (num l_18)⟩ : F2).a.val : Int) 48)) (by rfl) (by rfl) Want.none (by kernel_rfl) (by rfl)  (fun w h => l5_bytes (⟨Fp.n (num l_17), Fp.n (num l_18)⟩ : F2) _ _ _ _ _ _ w (hwb_19.num (h.blk 0 (by rfl)) (fv_rng _) (by omega)) (hwb_19b.num (h.blk 1 (by rfl)) (fv_rng _) (by omega)) (by omega) (by omega)) ?_; intro g29 cap_20 cs_20 hq_20
  refine L_val (.tuple #[.agg (c2 (⟨Fp.n (num l_17), Fp.n (num l_18)⟩ : F2)), .int .i64 0]) (by rfl) (by rfl) (gives_call (vl := [.slice (some ⟨g29, 0, none⟩) (48 + 48) cap_20]) (by kernel_rfl) (by rfl) (fun w h => read5 (⟨Fp.n (num l_17), Fp.n (num l_18)⟩ : F2) _ _ w (hG.keep h.below) (hq_20.reads (h.blk 0 (by rfl))) (by have := hq_20.le; omega))) ?_
  refine L_val (.tuple #[.agg (c2 (⟨Fp.n (num l_17), Fp.n (num l_18)⟩ : F2)), .int .i64 0]) (by rfl) (by rfl) (gives_value _ fun _ => by rfl) ?_
  refine L_val (.agg (c2 (⟨Fp.n (num l_17), Fp.n (num l_18)⟩ : F2))) (by rfl) (by rfl) (gives_value _ fun _ => by kernel_rfl) ?_
  refine L_val (.int .i64 0) (by rfl) (by rfl) (gives_value _ fun _ => by kernel_rfl) ?_
  refine L_val (.pointer (some ⟨g4, 48, none⟩)) (by rfl) (by rfl) (gives_value _ fun _ => by kernel_rfl) ?_
  refine L_storeA (t := 137) 25 g4 48 (joinA [(c2 (⟨Fp.n (num l_1), Fp.n (num l_2)⟩ : F2)), (c2 (⟨Fp.n (num l_5), Fp.n (num l_6)⟩ : F2)), (c2 (⟨Fp.n (num l_9), Fp.n (num l_10)⟩ : F2)), (c2 (⟨Fp.n (num l_13), Fp.n (num l_14)⟩ : F2)), (c2 (0 : F2)), (c2 (0 : F2))]) (c2 (⟨Fp.n (num l_17), Fp.n (num l_18)⟩ : F2)) (joinA [(c2 (⟨Fp.n (num l_1), Fp.n (num l_2)⟩ : F2)), (c2 (⟨Fp.n (num l_5), Fp.n (num l_6)⟩ : F2)), (c2 (⟨Fp.n (num l_9), Fp.n (num l_10)⟩ : F2)), (c2 (⟨Fp.n (num l_13), Fp.n (num l_14)⟩ : F2)), (c2 (⟨Fp.n (num l_17), Fp.n (num l_18)⟩ : F2)), (c2 (0 : F2))]) (by rfl) (by rfl) (by rfl) (by rfl) (by rfl) (hi_2 _) (by rw [joinC_size 12 _ (by simp [c2_size]), c2_size]; simp) (c2_one _) (spliceC' 12 _ (by simp [c2_size]) 4 _ (c2_size _) (by simp) _ (by rfl) _ (by rfl)) ?_
  simp only [List.set_cons_zero, List.set_cons_succ]
  refine L_end ?_
  intro w23 hw23
  change Code.wp _ _ _ _ _
  refine one_plain hw23 [0, 1, 2] (by rfl) ?_
  refine L_val (.int .i64 4) (by rfl) (by rfl) (gives_value _ fun _ => by rfl) ?_
  refine L_val (.int .i64 5) (by rfl) (by rfl) (gives_add (k := .i64) 4 1 5 (by rfl) (by rfl) (by rfl)) ?_
  refine L_val (.int .i64 5) (by rfl) (by rfl) (gives_value _ fun _ => by rfl) ?_
  refine L_end ?_
  intro w24 hw24
  refine rounds_next ?_
  refine wp_seq ?_
  refine seq_plain hw24 [0, 1] (by rfl) ?_
  refine L_val (.int .i64 5) (by rfl) (by rfl) (gives_value _ fun _ => by rfl) ?_
  refine L_val (.bool true) (by rfl) (by rfl) (gives_lss (k := .i64) 5 6 true (by rfl) (by rfl) (by rfl)) ?_
  refine L_end ?_
  intro w25 hw25
  refine wp_cond_true (fr_at _ _ (by rfl) _) ?_
  refine wp_skip ?_
  change Code.wp _ _ _ _ _
  refine wp_seq ?_
  refine wp_block ?_
  refine seq_plain hw25 [0, 1, 2, 3, 4, 5, 6, 7, 8, 9, 10, 11, 12] (by rfl) ?_
  refine L_val (.int .i64 5) (by rfl) (by rfl) (gives_value _ fun _ => by rfl) ?_
  refine L_val (.slice A0 n0 c0) (by rfl) (by rfl) (gives_value _ fun _ => by rfl) ?_
  refine L_val (.int .i64 5) (by rfl) (by rfl) (gives_value _ fun _ => by rfl) ?_
  refine L_val (.int .i64 10) (by rfl) (by rfl) (gives_mul (k := .i64) 2 5 10 (by rfl) (by rfl) (by rfl)) ?_
  refine L_freshX (vl := [.slice A0 n0 c0, .int .i64 10]) 5 (fun g cap => .slice (some ⟨g, 0, none⟩) 48 cap) (fun cap cs => ∃ l, BB cs cap 48 l ∧ Oct l) (by rfl) (by rfl) Want.none (by kernel_rfl) (by rfl)  (fun w h => part_n A0 n0 c0 bs0 10 w ((hr0.below h.below).more h.below.size) ho0 hb0 h0 (by omega)) ?_; intro g30 cap_21 cs_21 hq_21
  obtain ⟨l_21, hbb_21, hol_21⟩ := hq_21
  refine L_val (.slice A0 n0 c0) (by rfl) (by rfl) (gives_value _ fun _ => by rfl) ?_
  refine L_val (.int .i64 5) (by rfl) (by rfl) (gives_value _ fun _ => by rfl) ?_
  refine L_val (.int .i64 10) (by rfl) (by rfl) (gives_mul (k := .i64) 2 5 10 (by rfl) (by rfl) (by rfl)) ?_
  refine L_val (.int .i64 11) (by rfl) (by rfl) (gives_add (k := .i64) 10 1 11 (by rfl) (by rfl) (by rfl)) ?_
  refine L_freshX (vl := [.slice A0 n0 c0, .int .i64 11]) 5 (fun g cap => .slice (some ⟨g, 0, none⟩) 48 cap) (fun cap cs => ∃ l, BB cs cap 48 l ∧ Oct l) (by rfl) (by rfl) Want.none (by kernel_rfl) (by rfl)  (fun w h => part_n A0 n0 c0 bs0 11 w ((hr0.below h.below).more h.below.size) ho0 hb0 h0 (by omega)) ?_; intro g31 cap_22 cs_22 hq_22
  obtain ⟨l_22, hbb_22, hol_22⟩ := hq_22
  refine L_freshY (vl := [.slice (some ⟨g30, 0, none⟩) 48 cap_21, .slice (some ⟨g31, 0, none⟩) 48 cap_22]) 100 100 (fun g cap g2 cap2 => .agg #[.slice (some ⟨g, 0, none⟩) 24 cap, .slice (some ⟨g2, 0, none⟩) 24 cap2]) (fun cap cs cap2 cs2 => WB cs cap 24 ((⟨Fp.n (num l_21), Fp.n (num l_22)⟩ : F2).a.val : Int) ∧ WB cs2 cap2 24 ((⟨Fp.n (num l_21), Fp.n (num l_22)⟩ : F2).b.val : Int)) (by rfl) (by rfl) Want.none (by kernel_rfl) (by rfl)  (fun w h => l5_of _ _ _ l_21 _ _ _ l_22 w (hbb_21.reads (h.blk 1 (by rfl))) hol_21 (hbb_22.reads (h.blk 0 (by rfl))) hol_22 (by omega) (by omega)) ?_; intro g32 cap_23 cs_23 g33 cap_23b cs_23b hq_23; obtain ⟨hwb_23, hwb_23b⟩ := hq_23
  refine L_val (.pointer (some ⟨g3, 10, none⟩)) (by rfl) (by rfl) (gives_value _ fun _ => by kernel_rfl) ?_
  refine L_storeA (t := 79) 30 g3 10 (joinA [#[.slice (some ⟨g7, 0, none⟩) 24 cap_3, .slice (some ⟨g8, 0, none⟩) 24 cap_3b], #[.slice (some ⟨g12, 0, none⟩) 24 cap_7, .slice (some ⟨g13, 0, none⟩) 24 cap_7b], #[.slice (some ⟨g17, 0, none⟩) 24 cap_11, .slice (some ⟨g18, 0, none⟩) 24 cap_11b], #[.slice (some ⟨g22, 0, none⟩) 24 cap_15, .slice (some ⟨g23, 0, none⟩) 24 cap_15b], #[.slice (some ⟨g27, 0, none⟩) 24 cap_19, .slice (some ⟨g28, 0, none⟩) 24 cap_19b], #[.slice none 0 0, .slice none 0 0]]) #[.slice (some ⟨g32, 0, none⟩) 24 cap_23, .slice (some ⟨g33, 0, none⟩) 24 cap_23b] (joinA [#[.slice (some ⟨g7, 0, none⟩) 24 cap_3, .slice (some ⟨g8, 0, none⟩) 24 cap_3b], #[.slice (some ⟨g12, 0, none⟩) 24 cap_7, .slice (some ⟨g13, 0, none⟩) 24 cap_7b], #[.slice (some ⟨g17, 0, none⟩) 24 cap_11, .slice (some ⟨g18, 0, none⟩) 24 cap_11b], #[.slice (some ⟨g22, 0, none⟩) 24 cap_15, .slice (some ⟨g23, 0, none⟩) 24 cap_15b], #[.slice (some ⟨g27, 0, none⟩) 24 cap_19, .slice (some ⟨g28, 0, none⟩) 24 cap_19b], #[.slice (some ⟨g32, 0, none⟩) 24 cap_23, .slice (some ⟨g33, 0, none⟩) 24 cap_23b]]) (by rfl) (by rfl) (by rfl) (by rfl) (by rfl) (hi_NN _ _) (by rw [joinC_size 2 _ (by simp)]; simp) (one_N (by rfl) (by rfl)) (spliceC' 2 _ (by simp) 5 _ (by rfl) (by simp) _ (by rfl) _ (by rfl)) ?_
  simp only [List.set_cons_zero, List.set_cons_succ]
  refine L_end ?_
  intro w26 hw26
  refine one_plain hw26 [0, 1, 2, 3, 4, 5, 6, 7, 8, 9, 10] (by rfl) ?_
  refine L_val (.int .i64 5) (by rfl) (by rfl) (gives_value _ fun _ => by rfl) ?_
  refine L_val (.int .i64 5) (by rfl) (by rfl) (gives_value _ fun _ => by rfl) ?_
  refine L_val (.pointer (some ⟨g3, 10, none⟩)) (by rfl) (by rfl) (gives_value _ fun _ => by kernel_rfl) ?_
  refine L_val (.agg #[.slice (some ⟨g32, 0, none⟩) 24 cap_23, .slice (some ⟨g33, 0, none⟩) 24 cap_23b]) (by rfl) (by rfl) (gives_load g3 10 79 (joinA [#[.slice (some ⟨g7, 0, none⟩) 24 cap_3, .slice (some ⟨g8, 0, none⟩) 24 cap_3b], #[.slice (some ⟨g12, 0, none⟩) 24 cap_7, .slice (some ⟨g13, 0, none⟩) 24 cap_7b], #[.slice (some ⟨g17, 0, none⟩) 24 cap_11, .slice (some ⟨g18, 0, none⟩) 24 cap_11b], #[.slice (some ⟨g22, 0, none⟩) 24 cap_15, .slice (some ⟨g23, 0, none⟩) 24 cap_15b], #[.slice (some ⟨g27, 0, none⟩) 24 cap_19, .slice (some ⟨g28, 0, none⟩) 24 cap_19b], #[.slice (some ⟨g32, 0, none⟩) 24 cap_23, .slice (some ⟨g33, 0, none⟩) 24 cap_23b]]) #[.slice (some ⟨g32, 0, none⟩) 24 cap_23, .slice (some ⟨g33, 0, none⟩) 24 cap_23b] _ (by rfl) (fun _ h => h.blk 30 (by rfl)) (sl_joinC 2 _ (by simp) 5 _ (by rfl) _ (by rfl)) Tryd.underlying77 (by rfl) (hi_NN _ _)) ?_
  refine L_freshX (vl := [.agg #[.slice (some ⟨g32, 0, none⟩) 24 cap_23, .slice (some ⟨g33, 0, none⟩) 24 cap_23b]]) 5 (fun g cap => .slice (some ⟨g, 0, none⟩) (48 + 48) cap) (fun cap cs => BB cs cap (48 + 48) (lo ((⟨Fp.n (num l_21), Fp.n (num l_22)⟩ : F2).b.val : Int) 48 ++ lo ((⟨Fp.n (num l_21), Fp.n (num l_22)⟩ : F2).a.val : Int) 48)) (by rfl) (by rfl) Want.none (by kernel_rfl) (by rfl)  (fun w h => l5_bytes (⟨Fp.n (num l_21), Fp.n (num l_22)⟩ : F2) _ _ _ _ _ _ w (hwb_23.num (h.blk 0 (by rfl)) (fv_rng _) (by omega)) (hwb_23b.num (h.blk 1 (by rfl)) (fv_rng _) (by omega)) (by omega) (by omega)) ?_; intro g34 cap_24 cs_24 hq_24
  refine L_val (.tuple #[.agg (c2 (⟨Fp.n (num l_21), Fp.n (num l_22)⟩ : F2)), .int .i64 0]) (by rfl) (by rfl) (gives_call (vl := [.slice (some ⟨g34, 0, none⟩) (48 + 48) cap_24]) (by kernel_rfl) (by rfl) (fun w h => read5 (⟨Fp.n (num l_21), Fp.n (num l_22)⟩ : F2) _ _ w (hG.keep h.below) (hq_24.reads (h.blk 0 (by rfl))) (by have := hq_24.le; omega))) ?_
  refine L_val (.tuple #[.agg (c2 (⟨Fp.n (num l_21), Fp.n (num l_22)⟩ : F2)), .int .i64 0]) (by rfl) (by rfl) (gives_value _ fun _ => by rfl) ?_
  refine L_val (.agg (c2 (⟨Fp.n (num l_21), Fp.n (num l_22)⟩ : F2))) (by rfl) (by rfl) (gives_value _ fun _ => by kernel_rfl) ?_
  refine L_val (.int .i64 0) (by rfl) (by rfl) (gives_value _ fun _ => by kernel_rfl) ?_
  refine L_val (.pointer (some ⟨g4, 60, none⟩)) (by rfl) (by rfl) (gives_value _ fun _ => by kernel_rfl) ?_
  refine L_storeA (t := 137) 30 g4 60 (joinA [(c2 (⟨Fp.n (num l_1), Fp.n (num l_2)⟩ : F2)), (c2 (⟨Fp.n (num l_5), Fp.n (num l_6)⟩ : F2)), (c2 (⟨Fp.n (num l_9), Fp.n (num l_10)⟩ : F2)), (c2 (⟨Fp.n (num l_13), Fp.n (num l_14)⟩ : F2)), (c2 (⟨Fp.n (num l_17), Fp.n (num l_18)⟩ : F2)), (c2 (0 : F2))]) (c2 (⟨Fp.n (num l_21), Fp.n (num l_22)⟩ : F2)) (joinA [(c2 (⟨Fp.n (num l_1), Fp.n (num l_2)⟩ : F2)), (c2 (⟨Fp.n (num l_5), Fp.n (num l_6)⟩ : F2)), (c2 (⟨Fp.n (num l_9), Fp.n (num l_10)⟩ : F2)), (c2 (⟨Fp.n (num l_13), Fp.n (num l_14)⟩ : F2)), (c2 (⟨Fp.n (num l_17), Fp.n (num l_18)⟩ : F2)), (c2 (⟨Fp.n (num l_21), Fp.n (num l_22)⟩ : F2))]) (by rfl) (by rfl) (by rfl) (by rfl) (by rfl) (hi_2 _) (by rw [joinC_size 12 _ (by simp [c2_size]), c2_size]; simp) (c2_one _) (spliceC' 12 _ (by simp [c2_size]) 5 _ (c2_size _) (by simp) _ (by rfl) _ (by rfl)) ?_
  simp only [List.set_cons_zero, List.set_cons_succ]
  refine L_end ?_
  intro w27 hw27
  change Code.wp _ _ _ _ _
  refine one_plain hw27 [0, 1, 2] (by rfl) ?_
  refine L_val (.int .i64 5) (by rfl) (by rfl) (gives_value _ fun _ => by rfl) ?_
  refine L_val (.int .i64 6) (by rfl) (by rfl) (gives_add (k := .i64) 5 1 6 (by rfl) (by rfl) (by rfl)) ?_
  refine L_val (.int .i64 6) (by rfl) (by rfl) (gives_value _ fun _ => by rfl) ?_
  refine L_end ?_
  intro w28 hw28
  refine rounds_next ?_
  refine wp_seq ?_
  refine seq_plain hw28 [0, 1] (by rfl) ?_
  refine L_val (.int .i64 6) (by rfl) (by rfl) (gives_value _ fun _ => by rfl) ?_
  refine L_val (.bool false) (by rfl) (by rfl) (gives_lss (k := .i64) 6 6 false (by rfl) (by rfl) (by rfl)) ?_
  refine L_end ?_
  intro w29 hw29
  refine wp_cond_false (fr_at _ _ (by rfl) _) ?_
  refine wp_exit ?_
  change Code.wp _ _ _ _ _
  change Code.wp _ _ _ _ _
  refine seq_flow (by kernel_rfl) hw29 [] [(g34, 5, cs_24), (g32, 100, cs_23), (g33, 100, cs_23b), (g31, 5, cs_22), (g30, 5, cs_21), (g29, 5, cs_20), (g27, 100, cs_19), (g28, 100, cs_19b), (g26, 5, cs_18), (g25, 5, cs_17), (g24, 5, cs_16), (g22, 100, cs_15), (g23, 100, cs_15b), (g21, 5, cs_14), (g20, 5, cs_13), (g19, 5, cs_12), (g17, 100, cs_11), (g18, 100, cs_11b), (g16, 5, cs_10), (g15, 5, cs_9), (g14, 5, cs_8), (g12, 100, cs_7), (g13, 100, cs_7b), (g11, 5, cs_6), (g10, 5, cs_5), (g9, 5, cs_4), (g7, 100, cs_3), (g8, 100, cs_3b), (g6, 5, cs_2), (g5, 5, cs_1), (g4, 137, (joinA [(c2 (⟨Fp.n (num l_1), Fp.n (num l_2)⟩ : F2)), (c2 (⟨Fp.n (num l_5), Fp.n (num l_6)⟩ : F2)), (c2 (⟨Fp.n (num l_9), Fp.n (num l_10)⟩ : F2)), (c2 (⟨Fp.n (num l_13), Fp.n (num l_14)⟩ : F2)), (c2 (⟨Fp.n (num l_17), Fp.n (num l_18)⟩ : F2)), (c2 (⟨Fp.n (num l_21), Fp.n (num l_22)⟩ : F2))])), (g3, 79, (joinA [#[.slice (some ⟨g7, 0, none⟩) 24 cap_3, .slice (some ⟨g8, 0, none⟩) 24 cap_3b], #[.slice (some ⟨g12, 0, none⟩) 24 cap_7, .slice (some ⟨g13, 0, none⟩) 24 cap_7b], #[.slice (some ⟨g17, 0, none⟩) 24 cap_11, .slice (some ⟨g18, 0, none⟩) 24 cap_11b], #[.slice (some ⟨g22, 0, none⟩) 24 cap_15, .slice (some ⟨g23, 0, none⟩) 24 cap_15b], #[.slice (some ⟨g27, 0, none⟩) 24 cap_19, .slice (some ⟨g28, 0, none⟩) 24 cap_19b], #[.slice (some ⟨g32, 0, none⟩) 24 cap_23, .slice (some ⟨g33, 0, none⟩) 24 cap_23b]]))] 18 (by rfl) ?_
  refine flow_take (i := 0) (.agg (joinA [#[.slice (some ⟨g7, 0, none⟩) 24 cap_3, .slice (some ⟨g8, 0, none⟩) 24 cap_3b], #[.slice (some ⟨g12, 0, none⟩) 24 cap_7, .slice (some ⟨g13, 0, none⟩) 24 cap_7b], #[.slice (some ⟨g17, 0, none⟩) 24 cap_11, .slice (some ⟨g18, 0, none⟩) 24 cap_11b], #[.slice (some ⟨g22, 0, none⟩) 24 cap_15, .slice (some ⟨g23, 0, none⟩) 24 cap_15b], #[.slice (some ⟨g27, 0, none⟩) 24 cap_19, .slice (some ⟨g28, 0, none⟩) 24 cap_19b], #[.slice (some ⟨g32, 0, none⟩) 24 cap_23, .slice (some ⟨g33, 0, none⟩) 24 cap_23b]])) (by rfl) (by kernel_rfl) (by kernel_rfl) (by kernel_rfl) (by rfl) (by kernel_rfl) (List.Sublist.cons_cons _ (List.Sublist.cons_cons _ (List.Sublist.cons_cons _ (List.Sublist.cons_cons _ (List.Sublist.cons_cons _ (List.Sublist.cons_cons _ (List.Sublist.cons_cons _ (List.Sublist.cons_cons _ (List.Sublist.cons_cons _ (List.Sublist.cons_cons _ (List.Sublist.cons_cons _ (List.Sublist.cons_cons _ (List.Sublist.cons_cons _ (List.Sublist.cons_cons _ (List.Sublist.cons_cons _ (List.Sublist.cons_cons _ (List.Sublist.cons_cons _ (List.Sublist.cons_cons _ (List.Sublist.cons_cons _ (List.Sublist.cons_cons _ (List.Sublist.cons_cons _ (List.Sublist.cons_cons _ (List.Sublist.cons_cons _ (List.Sublist.cons_cons _ (List.Sublist.cons_cons _ (List.Sublist.cons_cons _ (List.Sublist.cons_cons _ (List.Sublist.cons_cons _ (List.Sublist.cons_cons _ (List.Sublist.cons_cons _ (List.Sublist.cons_cons _ (List.Sublist.cons_cons _ (List.Sublist.cons _ (List.Sublist.cons _ (List.Sublist.refl _))))))))))))))))))))))))))))))))))) (gives_load g3 0 79 (joinA [#[.slice (some ⟨g7, 0, none⟩) 24 cap_3, .slice (some ⟨g8, 0, none⟩) 24 cap_3b], #[.slice (some ⟨g12, 0, none⟩) 24 cap_7, .slice (some ⟨g13, 0, none⟩) 24 cap_7b], #[.slice (some ⟨g17, 0, none⟩) 24 cap_11, .slice (some ⟨g18, 0, none⟩) 24 cap_11b], #[.slice (some ⟨g22, 0, none⟩) 24 cap_15, .slice (some ⟨g23, 0, none⟩) 24 cap_15b], #[.slice (some ⟨g27, 0, none⟩) 24 cap_19, .slice (some ⟨g28, 0, none⟩) 24 cap_19b], #[.slice (some ⟨g32, 0, none⟩) 24 cap_23, .slice (some ⟨g33, 0, none⟩) 24 cap_23b]]) (joinA [#[.slice (some ⟨g7, 0, none⟩) 24 cap_3, .slice (some ⟨g8, 0, none⟩) 24 cap_3b], #[.slice (some ⟨g12, 0, none⟩) 24 cap_7, .slice (some ⟨g13, 0, none⟩) 24 cap_7b], #[.slice (some ⟨g17, 0, none⟩) 24 cap_11, .slice (some ⟨g18, 0, none⟩) 24 cap_11b], #[.slice (some ⟨g22, 0, none⟩) 24 cap_15, .slice (some ⟨g23, 0, none⟩) 24 cap_15b], #[.slice (some ⟨g27, 0, none⟩) 24 cap_19, .slice (some ⟨g28, 0, none⟩) 24 cap_19b], #[.slice (some ⟨g32, 0, none⟩) 24 cap_23, .slice (some ⟨g33, 0, none⟩) 24 cap_23b]]) _ (by rfl) (fun _ h => h.blk 31 (by rfl)) (Sl.refl _) Tryd.underlying79 (by rfl) (hi_a 2 _ _ (by kernel_rfl) (by simp) rfl)) ?_
  refine flow_take (i := 1) (.pointer (some ⟨g4, 0, none⟩)) (by rfl) (by kernel_rfl) (by kernel_rfl) (by kernel_rfl) (by rfl) (by kernel_rfl) (List.Sublist.cons_cons _ (List.Sublist.cons_cons _ (List.Sublist.cons_cons _ (List.Sublist.cons_cons _ (List.Sublist.cons_cons _ (List.Sublist.cons_cons _ (List.Sublist.cons_cons _ (List.Sublist.cons_cons _ (List.Sublist.cons_cons _ (List.Sublist.cons_cons _ (List.Sublist.cons_cons _ (List.Sublist.cons_cons _ (List.Sublist.cons_cons _ (List.Sublist.cons_cons _ (List.Sublist.cons_cons _ (List.Sublist.cons_cons _ (List.Sublist.cons_cons _ (List.Sublist.cons_cons _ (List.Sublist.cons_cons _ (List.Sublist.cons_cons _ (List.Sublist.cons_cons _ (List.Sublist.cons_cons _ (List.Sublist.cons_cons _ (List.Sublist.cons_cons _ (List.Sublist.cons_cons _ (List.Sublist.cons_cons _ (List.Sublist.cons_cons _ (List.Sublist.cons_cons _ (List.Sublist.cons_cons _ (List.Sublist.cons_cons _ (List.Sublist.cons_cons _ (List.Sublist.cons_cons _ (List.Sublist.cons _ (List.Sublist.cons _ (List.Sublist.refl _))))))))))))))))))))))))))))))))))) (gives_value _ fun _ => by kernel_rfl) ?_
  refine flow_take (i := 2) (.agg (c2 (⟨Fp.n (num l_1), Fp.n (num l_2)⟩ : F2))) (by rfl) (by kernel_rfl) (by kernel_rfl) (by kernel_rfl) (by rfl) (by kernel_rfl) (List.Sublist.cons_cons _ (List.Sublist.cons_cons _ (List.Sublist.cons_cons _ (List.Sublist.cons_cons _ (List.Sublist.cons_cons _ (List.Sublist.cons_cons _ (List.Sublist.cons_cons _ (List.Sublist.cons_cons _ (List.Sublist.cons_cons _ (List.Sublist.cons_cons _ (List.Sublist.cons_cons _ (List.Sublist.cons_cons _ (List.Sublist.cons_cons _ (List.Sublist.cons_cons _ (List.Sublist.cons_cons _ (List.Sublist.cons_cons _ (List.Sublist.cons_cons _ (List.Sublist.cons_cons _ (List.Sublist.cons_cons _ (List.Sublist.cons_cons _ (List.Sublist.cons_cons _ (List.Sublist.cons_cons _ (List.Sublist.cons_cons _ (List.Sublist.cons_cons _ (List.Sublist.cons_cons _ (List.Sublist.cons_cons _ (List.Sublist.cons_cons _ (List.Sublist.cons_cons _ (List.Sublist.cons_cons _ (List.Sublist.cons_cons _ (List.Sublist.cons_cons _ (List.Sublist.cons_cons _ (List.Sublist.cons _ (List.Sublist.cons _ (List.Sublist.refl _))))))))))))))))))))))))))))))))))) (gives_load g4 0 137 (joinA [(c2 (⟨Fp.n (num l_1), Fp.n (num l_2)⟩ : F2)), (c2 (⟨Fp.n (num l_5), Fp.n (num l_6)⟩ : F2)), (c2 (⟨Fp.n (num l_9), Fp.n (num l_10)⟩ : F2)), (c2 (⟨Fp.n (num l_13), Fp.n (num l_14)⟩ : F2)), (c2 (⟨Fp.n (num l_17), Fp.n (num l_18)⟩ : F2)), (c2 (⟨Fp.n (num l_21), Fp.n (num l_22)⟩ : F2))]) (c2 (⟨Fp.n (num l_1), Fp.n (num l_2)⟩ : F2)) _ (by rfl) (fun _ h => h.blk 30 (by rfl)) (sl_joinC 12 _ (by simp [c2_size]) 0 _ (by rfl) _ (by rfl)) Tryd.underlying37 (by rfl) (hi_2 _)) ?_
  refine flow_take (i := 3) (.pointer (some ⟨g4, 24, none⟩)) (by rfl) (by kernel_rfl) (by kernel_rfl) (by kernel_rfl) (by rfl) (by kernel_rfl) (List.Sublist.cons_cons _ (List.Sublist.cons_cons _ (List.Sublist.cons_cons _ (List.Sublist.cons_cons _ (List.Sublist.cons_cons _ (List.Sublist.cons_cons _ (List.Sublist.cons_cons _ (List.Sublist.cons_cons _ (List.Sublist.cons_cons _ (List.Sublist.cons_cons _ (List.Sublist.cons_cons _ (List.Sublist.cons_cons _ (List.Sublist.cons_cons _ (List.Sublist.cons_cons _ (List.Sublist.cons_cons _ (List.Sublist.cons_cons _ (List.Sublist.cons_cons _ (List.Sublist.cons_cons _ (List.Sublist.cons_cons _ (List.Sublist.cons_cons _ (List.Sublist.cons_cons _ (List.Sublist.cons_cons _ (List.Sublist.cons_cons _ (List.Sublist.cons_cons _ (List.Sublist.cons_cons _ (List.Sublist.cons_cons _ (List.Sublist.cons_cons _ (List.Sublist.cons_cons _ (List.Sublist.cons_cons _ (List.Sublist.cons_cons _ (List.Sublist.cons_cons _ (List.Sublist.cons_cons _ (List.Sublist.cons _ (List.Sublist.cons _ (List.Sublist.refl _))))))))))))))))))))))))))))))))))) (gives_value _ fun _ => by kernel_rfl) ?_
  refine flow_take (i := 4) (.agg (c2 (⟨Fp.n (num l_9), Fp.n (num l_10)⟩ : F2))) (by rfl) (by kernel_rfl) (by kernel_rfl) (by kernel_rfl) (by rfl) (by kernel_rfl) (List.Sublist.cons_cons _ (List.Sublist.cons_cons _ (List.Sublist.cons_cons _ (List.Sublist.cons_cons _ (List.Sublist.cons_cons _ (List.Sublist.cons_cons _ (List.Sublist.cons_cons _ (List.Sublist.cons_cons _ (List.Sublist.cons_cons _ (List.Sublist.cons_cons _ (List.Sublist.cons_cons _ (List.Sublist.cons_cons _ (List.Sublist.cons_cons _ (List.Sublist.cons_cons _ (List.Sublist.cons_cons _ (List.Sublist.cons_cons _ (List.Sublist.cons_cons _ (List.Sublist.cons_cons _ (List.Sublist.cons_cons _ (List.Sublist.cons_cons _ (List.Sublist.cons_cons _ (List.Sublist.cons_cons _ (List.Sublist.cons_cons _ (List.Sublist.cons_cons _ (List.Sublist.cons_cons _ (List.Sublist.cons_cons _ (List.Sublist.cons_cons _ (List.Sublist.cons_cons _ (List.Sublist.cons_cons _ (List.Sublist.cons_cons _ (List.Sublist.cons_cons _ (List.Sublist.cons_cons _ (List.Sublist.cons _ (List.Sublist.cons _ (List.Sublist.refl _))))))))))))))))))))))))))))))))))) (gives_load g4 24 137 (joinA [(c2 (⟨Fp.n (num l_1), Fp.n (num l_2)⟩ : F2)), (c2 (⟨Fp.n (num l_5), Fp.n (num l_6)⟩ : F2)), (c2 (⟨Fp.n (num l_9), Fp.n (num l_10)⟩ : F2)), (c2 (⟨Fp.n (num l_13), Fp.n (num l_14)⟩ : F2)), (c2 (⟨Fp.n (num l_17), Fp.n (num l_18)⟩ : F2)), (c2 (⟨Fp.n (num l_21), Fp.n (num l_22)⟩ : F2))]) (c2 (⟨Fp.n (num l_9), Fp.n (num l_10)⟩ : F2)) _ (by rfl) (fun _ h => h.blk 30 (by rfl)) (sl_joinC 12 _ (by simp [c2_size]) 2 _ (by rfl) _ (by rfl)) Tryd.underlying37 (by rfl) (hi_2 _)) ?_
  refine flow_take (i := 5) (.pointer (some ⟨g4, 48, none⟩)) (by rfl) (by kernel_rfl) (by kernel_rfl) (by kernel_rfl) (by rfl) (by kernel_rfl) (List.Sublist.cons_cons _ (List.Sublist.cons_cons _ (List.Sublist.cons_cons _ (List.Sublist.cons_cons _ (List.Sublist.cons_cons _ (List.Sublist.cons_cons _ (List.Sublist.cons_cons _ (List.Sublist.cons_cons _ (List.Sublist.cons_cons _ (List.Sublist.cons_cons _ (List.Sublist.cons_cons _ (List.Sublist.cons_cons _ (List.Sublist.cons_cons _ (List.Sublist.cons_cons _ (List.Sublist.cons_cons _ (List.Sublist.cons_cons _ (List.Sublist.cons_cons _ (List.Sublist.cons_cons _ (List.Sublist.cons_cons _ (List.Sublist.cons_cons _ (List.Sublist.cons_cons _ (List.Sublist.cons_cons _ (List.Sublist.cons_cons _ (List.Sublist.cons_cons _ (List.Sublist.cons_cons _ (List.Sublist.cons_cons _ (List.Sublist.cons_cons _ (List.Sublist.cons_cons _ (List.Sublist.cons_cons _ (List.Sublist.cons_cons _ (List.Sublist.cons_cons _ (List.Sublist.cons_cons _ (List.Sublist.cons _ (List.Sublist.cons _ (List.Sublist.refl _))))))))))))))))))))))))))))))))))) (gives_value _ fun _ => by kernel_rfl) ?_
  refine flow_take (i := 6) (.agg (c2 (⟨Fp.n (num l_17), Fp.n (num l_18)⟩ : F2))) (by rfl) (by kernel_rfl) (by kernel_rfl) (by kernel_rfl) (by rfl) (by kernel_rfl) (List.Sublist.cons_cons _ (List.Sublist.cons_cons _ (List.Sublist.cons_cons _ (List.Sublist.cons_cons _ (List.Sublist.cons_cons _ (List.Sublist.cons_cons _ (List.Sublist.cons_cons _ (List.Sublist.cons_cons _ (List.Sublist.cons_cons _ (List.Sublist.cons_cons _ (List.Sublist.cons_cons _ (List.Sublist.cons_cons _ (List.Sublist.cons_cons _ (List.Sublist.cons_cons _ (List.Sublist.cons_cons _ (List.Sublist.cons_cons _ (List.Sublist.cons_cons _ (List.Sublist.cons_cons _ (List.Sublist.cons_cons _ (List.Sublist.cons_cons _ (List.Sublist.cons_cons _ (List.Sublist.cons_cons _ (List.Sublist.cons_cons _ (List.Sublist.cons_cons _ (List.Sublist.cons_cons _ (List.Sublist.cons_cons _ (List.Sublist.cons_cons _ (List.Sublist.cons_cons _ (List.Sublist.cons_cons _ (List.Sublist.cons_cons _ (List.Sublist.cons_cons _ (List.Sublist.cons_cons _ (List.Sublist.cons _ (List.Sublist.cons _ (List.Sublist.refl _))))))))))))))))))))))))))))))))))) (gives_load g4 48 137 (joinA [(c2 (⟨Fp.n (num l_1), Fp.n (num l_2)⟩ : F2)), (c2 (⟨Fp.n (num l_5), Fp.n (num l_6)⟩ : F2)), (c2 (⟨Fp.n (num l_9), Fp.n (num l_10)⟩ : F2)), (c2 (⟨Fp.n (num l_13), Fp.n (num l_14)⟩ : F2)), (c2 (⟨Fp.n (num l_17), Fp.n (num l_18)⟩ : F2)), (c2 (⟨Fp.n (num l_21), Fp.n (num l_22)⟩ : F2))]) (c2 (⟨Fp.n (num l_17), Fp.n (num l_18)⟩ : F2)) _ (by rfl) (fun _ h => h.blk 30 (by rfl)) (sl_joinC 12 _ (by simp [c2_size]) 4 _ (by rfl) _ (by rfl)) Tryd.underlying37 (by rfl) (hi_2 _)) ?_
  refine flow_take (i := 7) (.agg (c3 (⟨(⟨Fp.n (num l_1), Fp.n (num l_2)⟩ : F2), (⟨Fp.n (num l_9), Fp.n (num l_10)⟩ : F2), (⟨Fp.n (num l_17), Fp.n (num l_18)⟩ : F2)⟩ : C3))) (by rfl) (by kernel_rfl) (by kernel_rfl) (by kernel_rfl) (by rfl) (by kernel_rfl) (List.Sublist.cons_cons _ (List.Sublist.cons_cons _ (List.Sublist.cons_cons _ (List.Sublist.cons_cons _ (List.Sublist.cons_cons _ (List.Sublist.cons_cons _ (List.Sublist.cons_cons _ (List.Sublist.cons_cons _ (List.Sublist.cons_cons _ (List.Sublist.cons_cons _ (List.Sublist.cons_cons _ (List.Sublist.cons_cons _ (List.Sublist.cons_cons _ (List.Sublist.cons_cons _ (List.Sublist.cons_cons _ (List.Sublist.cons_cons _ (List.Sublist.cons_cons _ (List.Sublist.cons_cons _ (List.Sublist.cons_cons _ (List.Sublist.cons_cons _ (List.Sublist.cons_cons _ (List.Sublist.cons_cons _ (List.Sublist.cons_cons _ (List.Sublist.cons_cons _ (List.Sublist.cons_cons _ (List.Sublist.cons_cons _ (List.Sublist.cons_cons _ (List.Sublist.cons_cons _ (List.Sublist.cons_cons _ (List.Sublist.cons_cons _ (List.Sublist.cons_cons _ (List.Sublist.cons_cons _ (List.Sublist.cons _ (List.Sublist.cons _ (List.Sublist.refl _))))))))))))))))))))))))))))))))))) (gb_cubic [(0, (c2 (⟨Fp.n (num l_1), Fp.n (num l_2)⟩ : F2))), (1, (c2 (⟨Fp.n (num l_9), Fp.n (num l_10)⟩ : F2))), (2, (c2 (⟨Fp.n (num l_17), Fp.n (num l_18)⟩ : F2)))] ⟨congrArg some (c2_size _).symm, congrArg some (c2_size _).symm, congrArg some (c2_size _).symm, trivial⟩ (by rfl) (c3 (⟨(⟨Fp.n (num l_1), Fp.n (num l_2)⟩ : F2), (⟨Fp.n (num l_9), Fp.n (num l_10)⟩ : F2), (⟨Fp.n (num l_17), Fp.n (num l_18)⟩ : F2)⟩ : C3)) (by rfl)) ?_
  refine flow_take (i := 8) (.pointer (some ⟨g4, 12, none⟩)) (by rfl) (by kernel_rfl) (by kernel_rfl) (by kernel_rfl) (by rfl) (by kernel_rfl) (List.Sublist.cons_cons _ (List.Sublist.cons_cons _ (List.Sublist.cons_cons _ (List.Sublist.cons_cons _ (List.Sublist.cons_cons _ (List.Sublist.cons_cons _ (List.Sublist.cons_cons _ (List.Sublist.cons_cons _ (List.Sublist.cons_cons _ (List.Sublist.cons_cons _ (List.Sublist.cons_cons _ (List.Sublist.cons_cons _ (List.Sublist.cons_cons _ (List.Sublist.cons_cons _ (List.Sublist.cons_cons _ (List.Sublist.cons_cons _ (List.Sublist.cons_cons _ (List.Sublist.cons_cons _ (List.Sublist.cons_cons _ (List.Sublist.cons_cons _ (List.Sublist.cons_cons _ (List.Sublist.cons_cons _ (List.Sublist.cons_cons _ (List.Sublist.cons_cons _ (List.Sublist.cons_cons _ (List.Sublist.cons_cons _ (List.Sublist.cons_cons _ (List.Sublist.cons_cons _ (List.Sublist.cons_cons _ (List.Sublist.cons_cons _ (List.Sublist.cons_cons _ (List.Sublist.cons_cons _ (List.Sublist.cons _ (List.Sublist.cons _ (List.Sublist.refl _))))))))))))))))))))))))))))))))))) (gives_value _ fun _ => by kernel_rfl) ?_
  refine flow_take (i := 9) (.agg (c2 (⟨Fp.n (num l_5), Fp.n (num l_6)⟩ : F2))) (by rfl) (by kernel_rfl) (by kernel_rfl) (by kernel_rfl) (by rfl) (by kernel_rfl) (List.Sublist.cons_cons _ (List.Sublist.cons_cons _ (List.Sublist.cons_cons _ (List.Sublist.cons_cons _ (List.Sublist.cons_cons _ (List.Sublist.cons_cons _ (List.Sublist.cons_cons _ (List.Sublist.cons_cons _ (List.Sublist.cons_cons _ (List.Sublist.cons_cons _ (List.Sublist.cons_cons _ (List.Sublist.cons_cons _ (List.Sublist.cons_cons _ (List.Sublist.cons_cons _ (List.Sublist.cons_cons _ (List.Sublist.cons_cons _ (List.Sublist.cons_cons _ (List.Sublist.cons_cons _ (List.Sublist.cons_cons _ (List.Sublist.cons_cons _ (List.Sublist.cons_cons _ (List.Sublist.cons_cons _ (List.Sublist.cons_cons _ (List.Sublist.cons_cons _ (List.Sublist.cons_cons _ (List.Sublist.cons_cons _ (List.Sublist.cons_cons _ (List.Sublist.cons_cons _ (List.Sublist.cons_cons _ (List.Sublist.cons_cons _ (List.Sublist.cons_cons _ (List.Sublist.cons_cons _ (List.Sublist.cons _ (List.Sublist.cons _ (List.Sublist.refl _))))))))))))))))))))))))))))))))))) (gives_load g4 12 137 (joinA [(c2 (⟨Fp.n (num l_1), Fp.n (num l_2)⟩ : F2)), (c2 (⟨Fp.n (num l_5), Fp.n (num l_6)⟩ : F2)), (c2 (⟨Fp.n (num l_9), Fp.n (num l_10)⟩ : F2)), (c2 (⟨Fp.n (num l_13), Fp.n (num l_14)⟩ : F2)), (c2 (⟨Fp.n (num l_17), Fp.n (num l_18)⟩ : F2)), (c2 (⟨Fp.n (num l_21), Fp.n (num l_22)⟩ : F2))]) (c2 (⟨Fp.n (num l_5), Fp.n (num l_6)⟩ : F2)) _ (by rfl) (fun _ h => h.blk 30 (by rfl)) (sl_joinC 12 _ (by simp [c2_size]) 1 _ (by rfl) _ (by rfl)) Tryd.underlying37 (by rfl) (hi_2 _)) ?_
  refine flow_take (i := 10) (.pointer (some ⟨g4, 36, none⟩)) (by rfl) (by kernel_rfl) (by kernel_rfl) (by kernel_rfl) (by rfl) (by kernel_rfl) (List.Sublist.cons_cons _ (List.Sublist.cons_cons _ (List.Sublist.cons_cons _ (List.Sublist.cons_cons _ (List.Sublist.cons_cons _ (List.Sublist.cons_cons _ (List.Sublist.cons_cons _ (List.Sublist.cons_cons _ (List.Sublist.cons_cons _ (List.Sublist.cons_cons _ (List.Sublist.cons_cons _ (List.Sublist.cons_cons _ (List.Sublist.cons_cons _ (List.Sublist.cons_cons _ (List.Sublist.cons_cons _ (List.Sublist.cons_cons _ (List.Sublist.cons_cons _ (List.Sublist.cons_cons _ (List.Sublist.cons_cons _ (List.Sublist.cons_cons _ (List.Sublist.cons_cons _ (List.Sublist.cons_cons _ (List.Sublist.cons_cons _ (List.Sublist.cons_cons _ (List.Sublist.cons_cons _ (List.Sublist.cons_cons _ (List.Sublist.cons_cons _ (List.Sublist.cons_cons _ (List.Sublist.cons_cons _ (List.Sublist.cons_cons _ (List.Sublist.cons_cons _ (List.Sublist.cons_cons _ (List.Sublist.cons _ (List.Sublist.cons _ (List.Sublist.refl _))))))))))))))))))))))))))))))))))) (gives_value _ fun _ => by kernel_rfl) ?_
  refine flow_take (i := 11) (.agg (c2 (⟨Fp.n (num l_13), Fp.n (num l_14)⟩ : F2))) (by rfl) (by kernel_rfl) (by kernel_rfl) (by kernel_rfl) (by rfl) (by kernel_rfl) (List.Sublist.cons_cons _ (List.Sublist.cons_cons _ (List.Sublist.cons_cons _ (List.Sublist.cons_cons _ (List.Sublist.cons_cons _ (List.Sublist.cons_cons _ (List.Sublist.cons_cons _ (List.Sublist.cons_cons _ (List.Sublist.cons_cons _ (List.Sublist.cons_cons _ (List.Sublist.cons_cons _ (List.Sublist.cons_cons _ (List.Sublist.cons_cons _ (List.Sublist.cons_cons _ (List.Sublist.cons_cons _ (List.Sublist.cons_cons _ (List.Sublist.cons_cons _ (List.Sublist.cons_cons _ (List.Sublist.cons_cons _ (List.Sublist.cons_cons _ (List.Sublist.cons_cons _ (List.Sublist.cons_cons _ (List.Sublist.cons_cons _ (List.Sublist.cons_cons _ (List.Sublist.cons_cons _ (List.Sublist.cons_cons _ (List.Sublist.cons_cons _ (List.Sublist.cons_cons _ (List.Sublist.cons_cons _ (List.Sublist.cons_cons _ (List.Sublist.cons_cons _ (List.Sublist.cons_cons _ (List.Sublist.cons _ (List.Sublist.cons _ (List.Sublist.refl _))))))))))))))))))))))))))))))))))) (gives_load g4 36 137 (joinA [(c2 (⟨Fp.n (num l_1), Fp.n (num l_2)⟩ : F2)), (c2 (⟨Fp.n (num l_5), Fp.n (num l_6)⟩ : F2)), (c2 (⟨Fp.n (num l_9), Fp.n (num l_10)⟩ : F2)), (c2 (⟨Fp.n (num l_13), Fp.n (num l_14)⟩ : F2)), (c2 (⟨Fp.n (num l_17), Fp.n (num l_18)⟩ : F2)), (c2 (⟨Fp.n (num l_21), Fp.n (num l_22)⟩ : F2))]) (c2 (⟨Fp.n (num l_13), Fp.n (num l_14)⟩ : F2)) _ (by rfl) (fun _ h => h.blk 30 (by rfl)) (sl_joinC 12 _ (by simp [c2_size]) 3 _ (by rfl) _ (by rfl)) Tryd.underlying37 (by rfl) (hi_2 _)) ?_
  refine flow_take (i := 12) (.pointer (some ⟨g4, 60, none⟩)) (by rfl) (by kernel_rfl) (by kernel_rfl) (by kernel_rfl) (by rfl) (by kernel_rfl) (List.Sublist.cons_cons _ (List.Sublist.cons_cons _ (List.Sublist.cons_cons _ (List.Sublist.cons_cons _ (List.Sublist.cons_cons _ (List.Sublist.cons_cons _ (List.Sublist.cons_cons _ (List.Sublist.cons_cons _ (List.Sublist.cons_cons _ (List.Sublist.cons_cons _ (List.Sublist.cons_cons _ (List.Sublist.cons_cons _ (List.Sublist.cons_cons _ (List.Sublist.cons_cons _ (List.Sublist.cons_cons _ (List.Sublist.cons_cons _ (List.Sublist.cons_cons _ (List.Sublist.cons_cons _ (List.Sublist.cons_cons _ (List.Sublist.cons_cons _ (List.Sublist.cons_cons _ (List.Sublist.cons_cons _ (List.Sublist.cons_cons _ (List.Sublist.cons_cons _ (List.Sublist.cons_cons _ (List.Sublist.cons_cons _ (List.Sublist.cons_cons _ (List.Sublist.cons_cons _ (List.Sublist.cons_cons _ (List.Sublist.cons_cons _ (List.Sublist.cons_cons _ (List.Sublist.cons_cons _ (List.Sublist.cons _ (List.Sublist.cons _ (List.Sublist.refl _))))))))))))))))))))))))))))))))))) (gives_value _ fun _ => by kernel_rfl) ?_
  refine flow_take (i := 13) (.agg (c2 (⟨Fp.n (num l_21), Fp.n (num l_22)⟩ : F2))) (by rfl) (by kernel_rfl) (by kernel_rfl) (by kernel_rfl) (by rfl) (by kernel_rfl) (List.Sublist.cons_cons _ (List.Sublist.cons_cons _ (List.Sublist.cons_cons _ (List.Sublist.cons_cons _ (List.Sublist.cons_cons _ (List.Sublist.cons_cons _ (List.Sublist.cons_cons _ (List.Sublist.cons_cons _ (List.Sublist.cons_cons _ (List.Sublist.cons_cons _ (List.Sublist.cons_cons _ (List.Sublist.cons_cons _ (List.Sublist.cons_cons _ (List.Sublist.cons_cons _ (List.Sublist.cons_cons _ (List.Sublist.cons_cons _ (List.Sublist.cons_cons _ (List.Sublist.cons_cons _ (List.Sublist.cons_cons _ (List.Sublist.cons_cons _ (List.Sublist.cons_cons _ (List.Sublist.cons_cons _ (List.Sublist.cons_cons _ (List.Sublist.cons_cons _ (List.Sublist.cons_cons _ (List.Sublist.cons_cons _ (List.Sublist.cons_cons _ (List.Sublist.cons_cons _ (List.Sublist.cons_cons _ (List.Sublist.cons_cons _ (List.Sublist.cons_cons _ (List.Sublist.cons_cons _ (List.Sublist.cons _ (List.Sublist.cons _ (List.Sublist.refl _))))))))))))))))))))))))))))))))))) (gives_load g4 60 137 (joinA [(c2 (⟨Fp.n (num l_1), Fp.n (num l_2)⟩ : F2)), (c2 (⟨Fp.n (num l_5), Fp.n (num l_6)⟩ : F2)), (c2 (⟨Fp.n (num l_9), Fp.n (num l_10)⟩ : F2)), (c2 (⟨Fp.n (num l_13), Fp.n (num l_14)⟩ : F2)), (c2 (⟨Fp.n (num l_17), Fp.n (num l_18)⟩ : F2)), (c2 (⟨Fp.n (num l_21), Fp.n (num l_22)⟩ : F2))]) (c2 (⟨Fp.n (num l_21), Fp.n (num l_22)⟩ : F2)) _ (by rfl) (fun _ h => h.blk 30 (by rfl)) (sl_joinC 12 _ (by simp [c2_size]) 5 _ (by rfl) _ (by rfl)) Tryd.underlying37 (by rfl) (hi_2 _)) ?_
  refine flow_take (i := 14) (.agg (c3 (⟨(⟨Fp.n (num l_5), Fp.n (num l_6)⟩ : F2), (⟨Fp.n (num l_13), Fp.n (num l_14)⟩ : F2), (⟨Fp.n (num l_21), Fp.n (num l_22)⟩ : F2)⟩ : C3))) (by rfl) (by kernel_rfl) (by kernel_rfl) (by kernel_rfl) (by rfl) (by kernel_rfl) (List.Sublist.cons_cons _ (List.Sublist.cons_cons _ (List.Sublist.cons_cons _ (List.Sublist.cons_cons _ (List.Sublist.cons_cons _ (List.Sublist.cons_cons _ (List.Sublist.cons_cons _ (List.Sublist.cons_cons _ (List.Sublist.cons_cons _ (List.Sublist.cons_cons _ (List.Sublist.cons_cons _ (List.Sublist.cons_cons _ (List.Sublist.cons_cons _ (List.Sublist.cons_cons _ (List.Sublist.cons_cons _ (List.Sublist.cons_cons _ (List.Sublist.cons_cons _ (List.Sublist.cons_cons _ (List.Sublist.cons_cons _ (List.Sublist.cons_cons _ (List.Sublist.cons_cons _ (List.Sublist.cons_cons _ (List.Sublist.cons_cons _ (List.Sublist.cons_cons _ (List.Sublist.cons_cons _ (List.Sublist.cons_cons _ (List.Sublist.cons_cons _ (List.Sublist.cons_cons _ (List.Sublist.cons_cons _ (List.Sublist.cons_cons _ (List.Sublist.cons_cons _ (List.Sublist.cons_cons _ (List.Sublist.cons _ (List.Sublist.cons _ (List.Sublist.refl _))))))))))))))))))))))))))))))))))) (gb_cubic [(0, (c2 (⟨Fp.n (num l_5), Fp.n (num l_6)⟩ : F2))), (1, (c2 (⟨Fp.n (num l_13), Fp.n (num l_14)⟩ : F2))), (2, (c2 (⟨Fp.n (num l_21), Fp.n (num l_22)⟩ : F2)))] ⟨congrArg some (c2_size _).symm, congrArg some (c2_size _).symm, congrArg some (c2_size _).symm, trivial⟩ (by rfl) (c3 (⟨(⟨Fp.n (num l_5), Fp.n (num l_6)⟩ : F2), (⟨Fp.n (num l_13), Fp.n (num l_14)⟩ : F2), (⟨Fp.n (num l_21), Fp.n (num l_22)⟩ : F2)⟩ : C3)) (by rfl)) ?_
  refine flow_take (i := 15) (.agg (c12 (⟨(⟨(⟨Fp.n (num l_1), Fp.n (num l_2)⟩ : F2), (⟨Fp.n (num l_9), Fp.n (num l_10)⟩ : F2), (⟨Fp.n (num l_17), Fp.n (num l_18)⟩ : F2)⟩ : C3), (⟨(⟨Fp.n (num l_5), Fp.n (num l_6)⟩ : F2), (⟨Fp.n (num l_13), Fp.n (num l_14)⟩ : F2), (⟨Fp.n (num l_21), Fp.n (num l_22)⟩ : F2)⟩ : C3)⟩ : T12))) (by rfl) (by kernel_rfl) (by kernel_rfl) (by kernel_rfl) (by rfl) (by kernel_rfl) (List.Sublist.cons_cons _ (List.Sublist.cons_cons _ (List.Sublist.cons_cons _ (List.Sublist.cons_cons _ (List.Sublist.cons_cons _ (List.Sublist.cons_cons _ (List.Sublist.cons_cons _ (List.Sublist.cons_cons _ (List.Sublist.cons_cons _ (List.Sublist.cons_cons _ (List.Sublist.cons_cons _ (List.Sublist.cons_cons _ (List.Sublist.cons_cons _ (List.Sublist.cons_cons _ (List.Sublist.cons_cons _ (List.Sublist.cons_cons _ (List.Sublist.cons_cons _ (List.Sublist.cons_cons _ (List.Sublist.cons_cons _ (List.Sublist.cons_cons _ (List.Sublist.cons_cons _ (List.Sublist.cons_cons _ (List.Sublist.cons_cons _ (List.Sublist.cons_cons _ (List.Sublist.cons_cons _ (List.Sublist.cons_cons _ (List.Sublist.cons_cons _ (List.Sublist.cons_cons _ (List.Sublist.cons_cons _ (List.Sublist.cons_cons _ (List.Sublist.cons_cons _ (List.Sublist.cons_cons _ (List.Sublist.cons _ (List.Sublist.cons _ (List.Sublist.refl _))))))))))))))))))))))))))))))))))) (gb_tower [(0, (c3 (⟨(⟨Fp.n (num l_1), Fp.n (num l_2)⟩ : F2), (⟨Fp.n (num l_9), Fp.n (num l_10)⟩ : F2), (⟨Fp.n (num l_17), Fp.n (num l_18)⟩ : F2)⟩ : C3))), (1, (c3 (⟨(⟨Fp.n (num l_5), Fp.n (num l_6)⟩ : F2), (⟨Fp.n (num l_13), Fp.n (num l_14)⟩ : F2), (⟨Fp.n (num l_21), Fp.n (num l_22)⟩ : F2)⟩ : C3)))] ⟨congrArg some (c3_size _).symm, congrArg some (c3_size _).symm, trivial⟩ (by rfl) (c12 (⟨(⟨(⟨Fp.n (num l_1), Fp.n (num l_2)⟩ : F2), (⟨Fp.n (num l_9), Fp.n (num l_10)⟩ : F2), (⟨Fp.n (num l_17), Fp.n (num l_18)⟩ : F2)⟩ : C3), (⟨(⟨Fp.n (num l_5), Fp.n (num l_6)⟩ : F2), (⟨Fp.n (num l_13), Fp.n (num l_14)⟩ : F2), (⟨Fp.n (num l_21), Fp.n (num l_22)⟩ : F2)⟩ : C3)⟩ : T12)) (by rfl)) ?_
  refine flow_one 16 (by kernel_rfl) ?_
  refine F_store (t := 79) 33 g1 (joinA [#[.slice none 0 0, .slice none 0 0], #[.slice none 0 0, .slice none 0 0], #[.slice none 0 0, .slice none 0 0], #[.slice none 0 0, .slice none 0 0], #[.slice none 0 0, .slice none 0 0], #[.slice none 0 0, .slice none 0 0]]) (joinA [#[.slice (some ⟨g7, 0, none⟩) 24 cap_3, .slice (some ⟨g8, 0, none⟩) 24 cap_3b], #[.slice (some ⟨g12, 0, none⟩) 24 cap_7, .slice (some ⟨g13, 0, none⟩) 24 cap_7b], #[.slice (some ⟨g17, 0, none⟩) 24 cap_11, .slice (some ⟨g18, 0, none⟩) 24 cap_11b], #[.slice (some ⟨g22, 0, none⟩) 24 cap_15, .slice (some ⟨g23, 0, none⟩) 24 cap_15b], #[.slice (some ⟨g27, 0, none⟩) 24 cap_19, .slice (some ⟨g28, 0, none⟩) 24 cap_19b], #[.slice (some ⟨g32, 0, none⟩) 24 cap_23, .slice (some ⟨g33, 0, none⟩) 24 cap_23b]]) (by rfl) (by rfl) (by rfl) (by rfl) (by rfl) (hi_a 2 _ _ (by kernel_rfl) (by simp) rfl) (sz_aa 2 _ _ (by simp) (by simp) rfl) (one_join _ (by intro a ha; simp only [List.mem_cons, List.not_mem_nil, or_false] at ha; rcases ha with rfl | rfl | rfl | rfl | rfl | rfl <;> exact one_N (by rfl) (by rfl))) (.inr (List.Sublist.cons_cons _ (List.Sublist.cons_cons _ (List.Sublist.cons_cons _ (List.Sublist.cons_cons _ (List.Sublist.cons_cons _ (List.Sublist.cons_cons _ (List.Sublist.cons_cons _ (List.Sublist.cons_cons _ (List.Sublist.cons_cons _ (List.Sublist.cons_cons _ (List.Sublist.cons_cons _ (List.Sublist.cons_cons _ (List.Sublist.cons_cons _ (List.Sublist.cons_cons _ (List.Sublist.cons_cons _ (List.Sublist.cons_cons _ (List.Sublist.cons_cons _ (List.Sublist.cons_cons _ (List.Sublist.cons_cons _ (List.Sublist.cons_cons _ (List.Sublist.cons_cons _ (List.Sublist.cons_cons _ (List.Sublist.cons_cons _ (List.Sublist.cons_cons _ (List.Sublist.cons_cons _ (List.Sublist.cons_cons _ (List.Sublist.cons_cons _ (List.Sublist.cons_cons _ (List.Sublist.cons_cons _ (List.Sublist.cons_cons _ (List.Sublist.cons_cons _ (List.Sublist.cons_cons _ (List.Sublist.cons _ (List.Sublist.cons _ (List.Sublist.refl _)))))))))))))))))))))))))))))))))))) ?_
  simp only [List.set_cons_zero, List.set_cons_succ]
  refine flow_one 17 (by kernel_rfl) ?_
  refine F_store (t := 83) 32 g2 (c12 (0 : T12)) (c12 (⟨(⟨(⟨Fp.n (num l_1), Fp.n (num l_2)⟩ : F2), (⟨Fp.n (num l_9), Fp.n (num l_10)⟩ : F2), (⟨Fp.n (num l_17), Fp.n (num l_18)⟩ : F2)⟩ : C3), (⟨(⟨Fp.n (num l_5), Fp.n (num l_6)⟩ : F2), (⟨Fp.n (num l_13), Fp.n (num l_14)⟩ : F2), (⟨Fp.n (num l_21), Fp.n (num l_22)⟩ : F2)⟩ : C3)⟩ : T12)) (by rfl) (by rfl) (by rfl) (by rfl) (by rfl) (hi_12 _) ((c12_size _).trans (c12_size _).symm) (c12_one _) (.inr (List.Sublist.cons_cons _ (List.Sublist.cons_cons _ (List.Sublist.cons_cons _ (List.Sublist.cons_cons _ (List.Sublist.cons_cons _ (List.Sublist.cons_cons _ (List.Sublist.cons_cons _ (List.Sublist.cons_cons _ (List.Sublist.cons_cons _ (List.Sublist.cons_cons _ (List.Sublist.cons_cons _ (List.Sublist.cons_cons _ (List.Sublist.cons_cons _ (List.Sublist.cons_cons _ (List.Sublist.cons_cons _ (List.Sublist.cons_cons _ (List.Sublist.cons_cons _ (List.Sublist.cons_cons _ (List.Sublist.cons_cons _ (List.Sublist.cons_cons _ (List.Sublist.cons_cons _ (List.Sublist.cons_cons _ (List.Sublist.cons_cons _ (List.Sublist.cons_cons _ (List.Sublist.cons_cons _ (List.Sublist.cons_cons _ (List.Sublist.cons_cons _ (List.Sublist.cons_cons _ (List.Sublist.cons_cons _ (List.Sublist.cons_cons _ (List.Sublist.cons_cons _ (List.Sublist.cons_cons _ (List.Sublist.cons _ (List.Sublist.cons _ (List.Sublist.refl _)))))))))))))))))))))))))))))))))))) ?_
  simp only [List.set_cons_zero, List.set_cons_succ]
  refine flow_done (by kernel_rfl) ?_
  intro w30 hw30
  refine wp_ret ?_
  change bodyPost _ _ _ Exit.ret _ _
  refine (ret_cell_cell (by rfl) (by rfl) (by rfl) (by rfl) (hw30.blk 33 (by rfl)) (hw30.blk 32 (by rfl)) Tryd.underlying79 (by rfl) (hi_a 2 _ _ (by kernel_rfl) (by simp [mk6]) rfl) Tryd.underlying83 (by rfl) (hi_12 _) ⟨_, _, rfl, ⟨mk6 (#[.slice (some ⟨g7, 0, none⟩) 24 cap_3, .slice (some ⟨g8, 0, none⟩) 24 cap_3b]) (#[.slice (some ⟨g12, 0, none⟩) 24 cap_7, .slice (some ⟨g13, 0, none⟩) 24 cap_7b]) (#[.slice (some ⟨g17, 0, none⟩) 24 cap_11, .slice (some ⟨g18, 0, none⟩) 24 cap_11b]) (#[.slice (some ⟨g22, 0, none⟩) 24 cap_15, .slice (some ⟨g23, 0, none⟩) 24 cap_15b]) (#[.slice (some ⟨g27, 0, none⟩) 24 cap_19, .slice (some ⟨g28, 0, none⟩) 24 cap_19b]) (#[.slice (some ⟨g32, 0, none⟩) 24 cap_23, .slice (some ⟨g33, 0, none⟩) 24 cap_23b]), (⟨(⟨(⟨Fp.n (num l_1), Fp.n (num l_2)⟩ : F2), (⟨Fp.n (num l_9), Fp.n (num l_10)⟩ : F2), (⟨Fp.n (num l_17), Fp.n (num l_18)⟩ : F2)⟩ : C3), (⟨(⟨Fp.n (num l_5), Fp.n (num l_6)⟩ : F2), (⟨Fp.n (num l_13), Fp.n (num l_14)⟩ : F2), (⟨Fp.n (num l_21), Fp.n (num l_22)⟩ : F2)⟩ : C3)⟩ : T12), rfl, mk6_in (PIn.two 10 11 (by rfl) (by rfl) hwb_3 hwb_3b) (PIn.two 8 9 (by rfl) (by rfl) hwb_7 hwb_7b) (PIn.two 6 7 (by rfl) (by rfl) hwb_11 hwb_11b) (PIn.two 4 5 (by rfl) (by rfl) hwb_15 hwb_15b) (PIn.two 2 3 (by rfl) (by rfl) hwb_19 hwb_19b) (PIn.two 0 1 (by rfl) (by rfl) hwb_23 hwb_23b)⟩, hw30.sub (List.Sublist.cons _ (List.Sublist.cons_cons _ (List.Sublist.cons_cons _ (List.Sublist.cons _ (List.Sublist.cons _ (List.Sublist.cons _ (List.Sublist.cons_cons _ (List.Sublist.cons_cons _ (List.Sublist.cons _ (List.Sublist.cons _ (List.Sublist.cons _ (List.Sublist.cons_cons _ (List.Sublist.cons_cons _ (List.Sublist.cons _ (List.Sublist.cons _ (List.Sublist.cons _ (List.Sublist.cons_cons _ (List.Sublist.cons_cons _ (List.Sublist.cons _ (List.Sublist.cons _ (List.Sublist.cons _ (List.Sublist.cons_cons _ (List.Sublist.cons_cons _ (List.Sublist.cons _ (List.Sublist.cons _ (List.Sublist.cons _ (List.Sublist.cons_cons _ (List.Sublist.cons_cons _ (List.nil_sublist _)))))))))))))))))))))))))))))⟩)
set_option maxRecDepth 100000 in
set_option maxHeartbeats 4000000 in
theorem number6_0 (A0 : Option Addr) (n0 c0 : Nat) (bs0 : List Int) (v : World) (hG : Glo v) (hr0 : Reads v v.heap.size A0 n0 (bs0.map (Value.int .u8))) (ho0 : Oct bs0) (hb0 : n0 ≤ 1099511627776) (h0 : n0 = 0) : RetsM QN 44 #[.slice A0 n0 c0] v := by
  refine calls_fr1 Tryd.func44 rfl (by rfl : _ = 49) (by rfl) ?_
  have hw := Hbl.nil v
  refine seq_plain hw [0, 1] (by rfl) ?_
  refine L_alloc _ (by rfl) (by rfl) z_aN (joinA [#[.slice none 0 0, .slice none 0 0], #[.slice none 0 0, .slice none 0 0], #[.slice none 0 0, .slice none 0 0], #[.slice none 0 0, .slice none 0 0], #[.slice none 0 0, .slice none 0 0], #[.slice none 0 0, .slice none 0 0]]) rfl ?_; intro g1
  refine L_alloc _ (by rfl) (by rfl) z_12 (c12 (0 : T12)) rfl ?_; intro g2
  refine L_end ?_
  intro w1 hw1
  refine seq_plain hw1 [0] (by rfl) ?_
  refine L_alloc _ (by rfl) (by rfl) z_aN (joinA [#[.slice none 0 0, .slice none 0 0], #[.slice none 0 0, .slice none 0 0], #[.slice none 0 0, .slice none 0 0], #[.slice none 0 0, .slice none 0 0], #[.slice none 0 0, .slice none 0 0], #[.slice none 0 0, .slice none 0 0]]) rfl ?_; intro g3
  refine L_end ?_
  intro w2 hw2
  refine seq_plain hw2 [0] (by rfl) ?_
  refine L_alloc _ (by rfl) (by rfl) z_a2 (joinA [(c2 (0 : F2)), (c2 (0 : F2)), (c2 (0 : F2)), (c2 (0 : F2)), (c2 (0 : F2)), (c2 (0 : F2))]) rfl ?_; intro g4
  refine L_end ?_
  intro w3 hw3
  refine wp_seq ?_
  refine seq_plain hw3 [0] (by rfl) ?_
  refine L_val (.int .i64 0) (by rfl) (by rfl) (gives_value _ fun _ => by rfl) ?_
  refine L_end ?_
  intro w4 hw4
  refine wp_block ?_
  refine rounds_first 6 ?_
  refine wp_seq ?_
  refine seq_plain hw4 [0, 1] (by rfl) ?_
  refine L_val (.int .i64 0) (by rfl) (by rfl) (gives_value _ fun _ => by rfl) ?_
  refine L_val (.bool true) (by rfl) (by rfl) (gives_lss (k := .i64) 0 6 true (by rfl) (by rfl) (by rfl)) ?_
  refine L_end ?_
  intro w5 hw5
  refine wp_cond_true (fr_at _ _ (by rfl) _) ?_
  refine wp_skip ?_
  change Code.wp _ _ _ _ _
  refine wp_seq ?_
  refine wp_block ?_
  refine seq_plain hw5 [0, 1, 2, 3, 4, 5, 6, 7, 8, 9, 10, 11, 12] (by rfl) ?_
  refine L_val (.int .i64 0) (by rfl) (by rfl) (gives_value _ fun _ => by rfl) ?_
  refine L_val (.slice A0 n0 c0) (by rfl) (by rfl) (gives_value _ fun _ => by rfl) ?_
  refine L_val (.int .i64 0) (by rfl) (by rfl) (gives_value _ fun _ => by rfl) ?_
  refine L_val (.int .i64 0) (by rfl) (by rfl) (gives_mul (k := .i64) 2 0 0 (by rfl) (by rfl) (by rfl)) ?_
  refine L_freshX (vl := [.slice A0 n0 c0, .int .i64 0]) 5 (fun g cap => .slice (some ⟨g, 0, none⟩) 0 cap) (fun cap cs => ∃ l, BB cs cap 0 l ∧ Oct l) (by rfl) (by rfl) Want.none (by kernel_rfl) (by rfl)  (fun w h => part_0 A0 n0 c0 bs0 0 w ((hr0.below h.below).more h.below.size) ho0 hb0 h0 (by omega)) ?_; intro g5 cap_1 cs_1 hq_1
  obtain ⟨l_1, hbb_1, hol_1⟩ := hq_1
  refine L_val (.slice A0 n0 c0) (by rfl) (by rfl) (gives_value _ fun _ => by rfl) ?_
  refine L_val (.int .i64 0) (by rfl) (by rfl) (gives_value _ fun _ => by rfl) ?_
  refine L_val (.int .i64 0) (by rfl) (by rfl) (gives_mul (k := .i64) 2 0 0 (by rfl) (by rfl) (by rfl)) ?_
  refine L_val (.int .i64 1) (by rfl) (by rfl) (gives_add (k := .i64) 0 1 1 (by rfl) (by rfl) (by rfl)) ?_
  refine L_freshX (vl := [.slice A0 n0 c0, .int .i64 1]) 5 (fun g cap => .slice (some ⟨g, 0, none⟩) 0 cap) (fun cap cs => ∃ l, BB cs cap 0 l ∧ Oct l) (by rfl) (by rfl) Want.none (by kernel_rfl) (by rfl)  (fun w h => part_0 A0 n0 c0 bs0 1 w ((hr0.below h.below).more h.below.size) ho0 hb0 h0 (by omega)) ?_; intro g6 cap_2 cs_2 hq_2
  obtain ⟨l_2, hbb_2, hol_2⟩ := hq_2
  refine L_freshY (vl := [.slice (some ⟨g5, 0, none⟩) 0 cap_1, .slice (some ⟨g6, 0, none⟩) 0 cap_2]) 100 100 (fun g cap g2 cap2 => .agg #[.slice (some ⟨g, 0, none⟩) 24 cap, .slice (some ⟨g2, 0, none⟩) 24 cap2]) (fun cap cs cap2 cs2 => WB cs cap 24 ((⟨Fp.n (num l_1), Fp.n (num l_2)⟩ : F2).a.val : Int) ∧ WB cs2 cap2 24 ((⟨Fp.n (num l_1), Fp.n (num l_2)⟩ : F2).b.val : Int)) (by rfl) (by rfl) Want.none (by kernel_rfl) (by rfl)  (fun w h => l5_of _ _ _ l_1 _ _ _ l_2 w (hbb_1.reads (h.blk 1 (by rfl))) hol_1 (hbb_2.reads (h.blk 0 (by rfl))) hol_2 (by omega) (by omega)) ?_; intro g7 cap_3 cs_3 g8 cap_3b cs_3b hq_3; obtain ⟨hwb_3, hwb_3b⟩ := hq_3
  refine L_val (.pointer (some ⟨g3, 0, none⟩)) (by rfl) (by rfl) (gives_value _ fun _ => by kernel_rfl) ?_
  refine L_storeA (t := 79) 5 g3 0 (joinA [#[.slice none 0 0, .slice none 0 0], #[.slice none 0 0, .slice none 0 0], #[.slice none 0 0, .slice none 0 0], #[.slice none 0 0, .slice none 0 0], #[.slice none 0 0, .slice none 0 0], #[.slice none 0 0, .slice none 0 0]]) #[.slice (some ⟨g7, 0, none⟩) 24 cap_3, .slice (some ⟨g8, 0, none⟩) 24 cap_3b] (joinA [#[.slice (some ⟨g7, 0, none⟩) 24 cap_3, .slice (some ⟨g8, 0, none⟩) 24 cap_3b], #[.slice none 0 0, .slice none 0 0], #[.slice none 0 0, .slice none 0 0], #[.slice none 0 0, .slice none 0 0], #[.slice none 0 0, .slice none 0 0], #[.slice none 0 0, .slice none 0 0]]) (by rfl) (by rfl) (by rfl) (by rfl) (by rfl) (hi_NN _ _) (by rw [joinC_size 2 _ (by simp)]; simp) (one_N (by rfl) (by rfl)) (spliceC' 2 _ (by simp) 0 _ (by rfl) (by simp) _ (by rfl) _ (by rfl)) ?_
  simp only [List.set_cons_zero, List.set_cons_succ]
  refine L_end ?_
  intro w6 hw6
  refine one_plain hw6 [0, 1, 2, 3, 4, 5, 6, 7, 8, 9, 10] (by rfl) ?_
  refine L_val (.int .i64 0) (by rfl) (by rfl) (gives_value _ fun _ => by rfl) ?_
  refine L_val (.int .i64 0) (by rfl) (by rfl) (gives_value _ fun _ => by rfl) ?_
  refine L_val (.pointer (some ⟨g3, 0, none⟩)) (by rfl) (by rfl) (gives_value _ fun _ => by kernel_rfl) ?_
  refine L_val (.agg #[.slice (some ⟨g7, 0, none⟩) 24 cap_3, .slice (some ⟨g8, 0, none⟩) 24 cap_3b]) (by rfl) (by rfl) (gives_load g3 0 79 (joinA [#[.slice (some ⟨g7, 0, none⟩) 24 cap_3, .slice (some ⟨g8, 0, none⟩) 24 cap_3b], #[.slice none 0 0, .slice none 0 0], #[.slice none 0 0, .slice none 0 0], #[.slice none 0 0, .slice none 0 0], #[.slice none 0 0, .slice none 0 0], #[.slice none 0 0, .slice none 0 0]]) #[.slice (some ⟨g7, 0, none⟩) 24 cap_3, .slice (some ⟨g8, 0, none⟩) 24 cap_3b] _ (by rfl) (fun _ h => h.blk 5 (by rfl)) (sl_joinC 2 _ (by simp) 0 _ (by rfl) _ (by rfl)) Tryd.underlying77 (by rfl) (hi_NN _ _)) ?_
  refine L_freshX (vl := [.agg #[.slice (some ⟨g7, 0, none⟩) 24 cap_3, .slice (some ⟨g8, 0, none⟩) 24 cap_3b]]) 5 (fun g cap => .slice (some ⟨g, 0, none⟩) (48 + 48) cap) (fun cap cs => BB cs cap (48 + 48) (lo ((⟨Fp.n (num l_1), Fp.n (num l_2)⟩ : F2).b.val : Int) 48 ++ lo ((⟨Fp.n (num l_1), Fp.n (num l_2)⟩ : F2).a.val : Int) 48)) (by rfl) (by rfl) Want.none (by kernel_rfl) (by rfl)  (fun w h => l5_bytes (⟨Fp.n (num l_1), Fp.n (num l_2)⟩ : F2) _ _ _ _ _ _ w (hwb_3.num (h.blk 0 (by rfl)) (fv_rng _) (by omega)) (hwb_3b.num (h.blk 1 (by rfl)) (fv_rng _) (by omega)) (by omega) (by omega)) ?_; intro g9 cap_4 cs_4 hq_4
  refine L_val (.tuple #[.agg (c2 (⟨Fp.n (num l_1), Fp.n (num l_2)⟩ : F2)), .int .i64 0]) (by rfl) (by rfl) (gives_call (vl := [.slice (some ⟨g9, 0, none⟩) (48 + 48) cap_4]) (by kernel_rfl) (by rfl) (fun w h => read5 (⟨Fp.n (num l_1), Fp.n (num l_2)⟩ : F2) _ _ w (hG.keep h.below) (hq_4.reads (h.blk 0 (by rfl))) (by have := hq_4.le; omega))) ?_
  refine L_val (.tuple #[.agg (c2 (⟨Fp.n (num l_1), Fp.n (num l_2)⟩ : F2)), .int .i64 0]) (by rfl) (by rfl) (gives_value _ fun _ => by rfl) ?_
  refine L_val (.agg (c2 (⟨Fp.n (num l_1), Fp.n (num l_2)⟩ : F2))) (by rfl) (by rfl) (gives_value _ fun _ => by kernel_rfl) ?_
  refine L_val (.int .i64 0) (by rfl) (by rfl) (gives_value _ fun _ => by kernel_rfl) ?_
  refine L_val (.pointer (some ⟨g4, 0, none⟩)) (by rfl) (by rfl) (gives_value _ fun _ => by kernel_rfl) ?_
  refine L_storeA (t := 137) 5 g4 0 (joinA [(c2 (0 : F2)), (c2 (0 : F2)), (c2 (0 : F2)), (c2 (0 : F2)), (c2 (0 : F2)), (c2 (0 : F2))]) (c2 (⟨Fp.n (num l_1), Fp.n (num l_2)⟩ : F2)) (joinA [(c2 (⟨Fp.n (num l_1), Fp.n (num l_2)⟩ : F2)), (c2 (0 : F2)), (c2 (0 : F2)), (c2 (0 : F2)), (c2 (0 : F2)), (c2 (0 : F2))]) (by rfl) (by rfl) (by rfl) (by rfl) (by rfl) (hi_2 _) (by rw [joinC_size 12 _ (by simp [c2_size]), c2_size]; simp) (c2_one _) (spliceC' 12 _ (by simp [c2_size]) 0 _ (c2_size _) (by simp) _ (by rfl) _ (by rfl)) ?_
  simp only [List.set_cons_zero, List.set_cons_succ]
  refine L_end ?_
  intro w7 hw7
  change Code.wp _ _ _ _ _
  refine one_plain hw7 [0, 1, 2] (by rfl) ?_
  refine L_val (.int .i64 0) (by rfl) (by rfl) (gives_value _ fun _ => by rfl) ?_
  refine L_val (.int .i64 1) (by rfl) (by rfl) (gives_add (k := .i64) 0 1 1 (by rfl) (by rfl) (by rfl)) ?_
  refine L_val (.int .i64 1) (by rfl) (by rfl) (gives_value _ fun _ => by rfl) ?_
  refine L_end ?_
  intro w8 hw8
  refine rounds_next ?_
  refine wp_seq ?_
  refine seq_plain hw8 [0, 1] (by rfl) ?_
  refine L_val (.int .i64 1) (by rfl) (by rfl) (gives_value _ fun _ => by rfl) ?_
  refine L_val (.bool true) (by rfl) (by rfl) (gives_lss (k := .i64) 1 6 true (by rfl) (by rfl) (by rfl)) ?_
  refine L_end ?_
  intro w9 hw9
  refine wp_cond_true (fr_at _ _ (by rfl) _) ?_
  refine wp_skip ?_
  change Code.wp _ _ _ _ _
  refine wp_seq ?_
  refine wp_block ?_
  refine seq_plain hw9 [0, 1, 2, 3, 4, 5, 6, 7, 8, 9, 10, 11, 12] (by rfl) ?_
  refine L_val (.int .i64 1) (by rfl) (by rfl) (gives_value _ fun _ => by rfl) ?_
  refine L_val (.slice A0 n0 c0) (by rfl) (by rfl) (gives_value _ fun _ => by rfl) ?_
  refine L_val (.int .i64 1) (by rfl) (by rfl) (gives_value _ fun _ => by rfl) ?_
  refine L_val (.int .i64 2) (by rfl) (by rfl) (gives_mul (k := .i64) 2 1 2 (by rfl) (by rfl) (by rfl)) ?_
  refine L_freshX (vl := [.slice A0 n0 c0, .int .i64 2]) 5 (fun g cap => .slice (some ⟨g, 0, none⟩) 0 cap) (fun cap cs => ∃ l, BB cs cap 0 l ∧ Oct l) (by rfl) (by rfl) Want.none (by kernel_rfl) (by rfl)  (fun w h => part_0 A0 n0 c0 bs0 2 w ((hr0.below h.below).more h.below.size) ho0 hb0 h0 (by omega)) ?_; intro g10 cap_5 cs_5 hq_5
  obtain ⟨l_5, hbb_5, hol_5⟩ := hq_5
  refine L_val (.slice A0 n0 c0) (by rfl) (by rfl) (gives_value _ fun _ => by rfl) ?_
  refine L_val (.int .i64 1) (by rfl) (by rfl) (gives_value _ fun _ => by rfl) ?_
  refine L_val (.int .i64 2) (by rfl) (by rfl) (gives_mul (k := .i64) 2 1 2 (by rfl) (by rfl) (by rfl)) ?_
  refine L_val (.int .i64 3) (by rfl) (by rfl) (gives_add (k := .i64) 2 1 3 (by rfl) (by rfl) (by rfl)) ?_
  refine L_freshX (vl := [.slice A0 n0 c0, .int .i64 3]) 5 (fun g cap => .slice (some ⟨g, 0, none⟩) 0 cap) (fun cap cs => ∃ l, BB cs cap 0 l ∧ Oct l) (by rfl) (by rfl) Want.none (by kernel_rfl) (by rfl)  (fun w h => part_0 A0 n0 c0 bs0 3 w ((hr0.below h.below).more h.below.size) ho0 hb0 h0 (by omega)) ?_; intro g11 cap_6 cs_6 hq_6
  obtain ⟨l_6, hbb_6, hol_6⟩ := hq_6
  refine L_freshY (vl := [.slice (some ⟨g10, 0, none⟩) 0 cap_5, .slice (some ⟨g11, 0, none⟩) 0 cap_6]) 100 100 (fun g cap g2 cap2 => .agg #[.slice (some ⟨g, 0, none⟩) 24 cap, .slice (some ⟨g2, 0, none⟩) 24 cap2]) (fun cap cs cap2 cs2 => WB cs cap 24 ((⟨Fp.n (num l_5), Fp.n (num l_6)⟩ : F2).a.val : Int) ∧ WB cs2 cap2 24 ((⟨Fp.n (num l_5), Fp.n (num l_6)⟩ : F2).b.val : Int)) (by rfl) (by rfl) Want.none (by kernel_rfl) (by rfl)  (fun w h => l5_of _ _ _ l_5 _ _ _ l_6 w (hbb_5.reads (h.blk 1 (by rfl))) hol_5 (hbb_6.reads (h.blk 0 (by rfl))) hol_6 (by omega) (by omega)) ?_; intro g12 cap_7 cs_7 g13 cap_7b cs_7b hq_7; obtain ⟨hwb_7, hwb_7b⟩ := hq_7
  refine L_val (.pointer (some ⟨g3, 2, none⟩)) (by rfl) (by rfl) (gives_value _ fun _ => by kernel_rfl) ?_
  refine L_storeA (t := 79) 10 g3 2 (joinA [#[.slice (some ⟨g7, 0, none⟩) 24 cap_3, .slice (some ⟨g8, 0, none⟩) 24 cap_3b], #[.slice none 0 0, .slice none 0 0], #[.slice none 0 0, .slice none 0 0], #[.slice none 0 0, .slice none 0 0], #[.slice none 0 0, .slice none 0 0], #[.slice none 0 0, .slice none 0 0]]) #[.slice (some ⟨g12, 0, none⟩) 24 cap_7, .slice (some ⟨g13, 0, none⟩) 24 cap_7b] (joinA [#[.slice (some ⟨g7, 0, none⟩) 24 cap_3, .slice (some ⟨g8, 0, none⟩) 24 cap_3b], #[.slice (some ⟨g12, 0, none⟩) 24 cap_7, .slice (some ⟨g13, 0, none⟩) 24 cap_7b], #[.slice none 0 0, .slice none 0 0], #[.slice none 0 0, .slice none 0 0], #[.slice none 0 0, .slice none 0 0], #[.slice none 0 0, .slice none 0 0]]) (by rfl) (by rfl) (by rfl) (by rfl) (by rfl) (hi_NN _ _) (by rw [joinC_size 2 _ (by simp)]; simp) (one_N (by rfl) (by rfl)) (spliceC' 2 _ (by simp) 1 _ (by rfl) (by simp) _ (by rfl) _ (by rfl)) ?_
  simp only [List.set_cons_zero, List.set_cons_succ]
  refine L_end ?_
  intro w10 hw10
  refine one_plain hw10 [0, 1, 2, 3, 4, 5, 6, 7, 8, 9, 10] (by rfl) ?_
  refine L_val (.int .i64 1) (by rfl) (by rfl) (gives_value _ fun _ => by rfl) ?_
  refine L_val (.int .i64 1) (by rfl) (by rfl) (gives_value _ fun _ => by rfl) ?_
  refine L_val (.pointer (some ⟨g3, 2, none⟩)) (by rfl) (by rfl) (gives_value _ fun _ => by kernel_rfl) ?_
  refine L_val (.agg #[.slice (some ⟨g12, 0, none⟩) 24 cap_7, .slice (some ⟨g13, 0, none⟩) 24 cap_7b]) (by rfl) (by rfl) (gives_load g3 2 79 (joinA [#[.slice (some ⟨g7, 0, none⟩) 24 cap_3, .slice (some ⟨g8, 0, none⟩) 24 cap_3b], #[.slice (some ⟨g12, 0, none⟩) 24 cap_7, .slice (some ⟨g13, 0, none⟩) 24 cap_7b], #[.slice none 0 0, .slice none 0 0], #[.slice none 0 0, .slice none 0 0], #[.slice none 0 0, .slice none 0 0], #[.slice none 0 0, .slice none 0 0]]) #[.slice (some ⟨g12, 0, none⟩) 24 cap_7, .slice (some ⟨g13, 0, none⟩) 24 cap_7b] _ (by rfl) (fun _ h => h.blk 10 (by rfl)) (sl_joinC 2 _ (by simp) 1 _ (by rfl) _ (by rfl)) Tryd.underlying77 (by rfl) (hi_NN _ _)) ?_
  refine L_freshX (vl := [.agg #[.slice (some ⟨g12, 0, none⟩) 24 cap_7, .slice (some ⟨g13, 0, none⟩) 24 cap_7b]]) 5 (fun g cap => .slice (some ⟨g, 0, none⟩) (48 + 48) cap) (fun cap cs => BB cs cap (48 + 48) (lo ((⟨Fp.n (num l_5), Fp.n (num l_6)⟩ : F2).b.val : Int) 48 ++ lo ((⟨Fp.n (num l_5), Fp.n (num l_6)⟩ : F2).a.val : Int) 48)) (by rfl) (by rfl) Want.none (by kernel_rfl) (by rfl)  (fun w h => l5_bytes (⟨Fp.n (num l_5), Fp.n (num l_6)⟩ : F2) _ _ _ _ _ _ w (hwb_7.num (h.blk 0 (by rfl)) (fv_rng _) (by omega)) (hwb_7b.num (h.blk 1 (by rfl)) (fv_rng _) (by omega)) (by omega) (by omega)) ?_; intro g14 cap_8 cs_8 hq_8
  refine L_val (.tuple #[.agg (c2 (⟨Fp.n (num l_5), Fp.n (num l_6)⟩ : F2)), .int .i64 0]) (by rfl) (by rfl) (gives_call (vl := [.slice (some ⟨g14, 0, none⟩) (48 + 48) cap_8]) (by kernel_rfl) (by rfl) (fun w h => read5 (⟨Fp.n (num l_5), Fp.n (num l_6)⟩ : F2) _ _ w (hG.keep h.below) (hq_8.reads (h.blk 0 (by rfl))) (by have := hq_8.le; omega))) ?_
  refine L_val (.tuple #[.agg (c2 (⟨Fp.n (num l_5), Fp.n (num l_6)⟩ : F2)), .int .i64 0]) (by rfl) (by rfl) (gives_value _ fun _ => by rfl) ?_
  refine L_val (.agg (c2 (⟨Fp.n (num l_5), Fp.n (num l_6)⟩ : F2))) (by rfl) (by rfl) (gives_value _ fun _ => by kernel_rfl) ?_
  refine L_val (.int .i64 0) (by rfl) (by rfl) (gives_value _ fun _ => by kernel_rfl) ?_
  refine L_val (.pointer (some ⟨g4, 12, none⟩)) (by rfl) (by rfl) (gives_value _ fun _ => by kernel_rfl) ?_
  refine L_storeA (t := 137) 10 g4 12 (joinA [(c2 (⟨Fp.n (num l_1), Fp.n (num l_2)⟩ : F2)), (c2 (0 : F2)), (c2 (0 : F2)), (c2 (0 : F2)), (c2 (0 : F2)), (c2 (0 : F2))]) (c2 (⟨Fp.n (num l_5), Fp.n (num l_6)⟩ : F2)) (joinA [(c2 (⟨Fp.n (num l_1), Fp.n (num l_2)⟩ : F2)), (c2 (⟨Fp.n (num l_5), Fp.n (num l_6)⟩ : F2)), (c2 (0 : F2)), (c2 (0 : F2)), (c2 (0 : F2)), (c2 (0 : F2))]) (by rfl) (by rfl) (by rfl) (by rfl) (by rfl) (hi_2 _) (by rw [joinC_size 12 _ (by simp [c2_size]), c2_size]; simp) (c2_one _) (spliceC' 12 _ (by simp [c2_size]) 1 _ (c2_size _) (by simp) _ (by rfl) _ (by rfl)) ?_
  simp only [List.set_cons_zero, List.set_cons_succ]
  refine L_end ?_
  intro w11 hw11
  change Code.wp _ _ _ _ _
  refine one_plain hw11 [0, 1, 2] (by rfl) ?_
  refine L_val (.int .i64 1) (by rfl) (by rfl) (gives_value _ fun _ => by rfl) ?_
  refine L_val (.int .i64 2) (by rfl) (by rfl) (gives_add (k := .i64) 1 1 2 (by rfl) (by rfl) (by rfl)) ?_
  refine L_val (.int .i64 2) (by rfl) (by rfl) (gives_value _ fun _ => by rfl) ?_
  refine L_end ?_
  intro w12 hw12
  refine rounds_next ?_
  refine wp_seq ?_
  refine seq_plain hw12 [0, 1] (by rfl) ?_
  refine L_val (.int .i64 2) (by rfl) (by rfl) (gives_value _ fun _ => by rfl) ?_
  refine L_val (.bool true) (by rfl) (by rfl) (gives_lss (k := .i64) 2 6 true (by rfl) (by rfl) (by rfl)) ?_
  refine L_end ?_
  intro w13 hw13
  refine wp_cond_true (fr_at _ _ (by rfl) _) ?_
  refine wp_skip ?_
  change Code.wp _ _ _ _ _
  refine wp_seq ?_
  refine wp_block ?_
  refine seq_plain hw13 [0, 1, 2, 3, 4, 5, 6, 7, 8, 9, 10, 11, 12] (by rfl) ?_
  refine L_val (.int .i64 2) (by rfl) (by rfl) (gives_value _ fun _ => by rfl) ?_
  refine L_val (.slice A0 n0 c0) (by rfl) (by rfl) (gives_value _ fun _ => by rfl) ?_
  refine L_val (.int .i64 2) (by rfl) (by rfl) (gives_value _ fun _ => by rfl) ?_
  refine L_val (.int .i64 4) (by rfl) (by rfl) (gives_mul (k := .i64) 2 2 4 (by rfl) (by rfl) (by rfl)) ?_
  refine L_freshX (vl := [.slice A0 n0 c0, .int .i64 4]) 5 (fun g cap => .slice (some ⟨g, 0, none⟩) 0 cap) (fun cap cs => ∃ l, BB cs cap 0 l ∧ Oct l) (by rfl) (by rfl) Want.none (by kernel_rfl) (by rfl)  (fun w h => part_0 A0 n0 c0 bs0 4 w ((hr0.below h.below).more h.below.size) ho0 hb0 h0 (by omega)) ?_; intro g15 cap_9 cs_9 hq_9
  obtain ⟨l_9, hbb_9, hol_9⟩ := hq_9
  refine L_val (.slice A0 n0 c0) (by rfl) (by rfl) (gives_value _ fun _ => by rfl) ?_
  refine L_val (.int .i64 2) (by rfl) (by rfl) (gives_value _ fun _ => by rfl) ?_
  refine L_val (.int .i64 4) (by rfl) (by rfl) (gives_mul (k := .i64) 2 2 4 (by rfl) (by rfl) (by rfl)) ?_
  refine L_val (.int .i64 5) (by rfl) (by rfl) (gives_add (k := .i64) 4 1 5 (by rfl) (by rfl) (by rfl)) ?_
  refine L_freshX (vl := [.slice A0 n0 c0, .int .i64 5]) 5 (fun g cap => .slice (some ⟨g, 0, none⟩) 0 cap) (fun cap cs => ∃ l, BB cs cap 0 l ∧ Oct l) (by rfl) (by rfl) Want.none (by kernel_rfl) (by rfl)  (fun w h => part_0 A0 n0 c0 bs0 5 w ((hr0.below h.below).more h.below.size) ho0 hb0 h0 (by omega)) ?_; intro g16 cap_10 cs_10 hq_10
  obtain ⟨l_10, hbb_10, hol_10⟩ := hq_10
  refine L_freshY (vl := [.slice (some ⟨g15, 0, none⟩) 0 cap_9, .slice (some ⟨g16, 0, none⟩) 0 cap_10]) 100 100 (fun g cap g2 cap2 => .agg #[.slice (some ⟨g, 0, none⟩) 24 cap, .slice (some ⟨g2, 0, none⟩) 24 cap2]) (fun cap cs cap2 cs2 => WB cs cap 24 ((⟨Fp.n (num l_9), Fp.n (num l_10)⟩ : F2).a.val : Int) ∧ WB cs2 cap2 24 ((⟨Fp.n (num l_9), Fp.n (num l_10)⟩ : F2).b.val : Int)) (by rfl) (by rfl) Want.none (by kernel_rfl) (by rfl)  (fun w h => l5_of _ _ _ l_9 _ _ _ l_10 w (hbb_9.reads (h.blk 1 (by rfl))) hol_9 (hbb_10.reads (h.blk 0 (by rfl))) hol_10 (by omega) (by omega)) ?_; intro g17 cap_11 cs_11 g18 cap_11b cs_11b hq_11; obtain ⟨hwb_11, hwb_11b⟩ := hq_11
  refine L_val (.pointer (some ⟨g3, 4, none⟩)) (by rfl) (by rfl) (gives_value _ fun _ => by kernel_rfl) ?_
  refine L_storeA (t := 79) 15 g3 4 (joinA [#[.slice (some ⟨g7, 0, none⟩) 24 cap_3, .slice (some ⟨g8, 0, none⟩) 24 cap_3b], #[.slice (some ⟨g12, 0, none⟩) 24 cap_7, .slice (some ⟨g13, 0, none⟩) 24 cap_7b], #[.slice none 0 0, .slice none 0 0], #[.slice none 0 0, .slice none 0 0], #[.slice none 0 0, .slice none 0 0], #[.slice none 0 0, .slice none 0 0]]) #[.slice (some ⟨g17, 0, none⟩) 24 cap_11, .slice (some ⟨g18, 0, none⟩) 24 cap_11b] (joinA [#[.slice (some ⟨g7, 0, none⟩) 24 cap_3, .slice (some ⟨g8, 0, none⟩) 24 cap_3b], #[.slice (some ⟨g12, 0, none⟩) 24 cap_7, .slice (some ⟨g13, 0, none⟩) 24 cap_7b], #[.slice (some ⟨g17, 0, none⟩) 24 cap_11, .slice (some ⟨g18, 0, none⟩) 24 cap_11b], #[.slice none 0 0, .slice none 0 0], #[.slice none 0 0, .slice none 0 0], #[.slice none 0 0, .slice none 0 0]]) (by rfl) (by rfl) (by rfl) (by rfl) (by rfl) (hi_NN _ _) (by rw [joinC_size 2 _ (by simp)]; simp) (one_N (by rfl) (by rfl)) (spliceC' 2 _ (by simp) 2 _ (by rfl) (by simp) _ (by rfl) _ (by rfl)) ?_
  simp only [List.set_cons_zero, List.set_cons_succ]
  refine L_end ?_
  intro w14 hw14
  refine one_plain hw14 [0, 1, 2, 3, 4, 5, 6, 7, 8, 9, 10] (by rfl) ?_
  refine L_val (.int .i64 2) (by rfl) (by rfl) (gives_value _ fun _ => by rfl) ?_
  refine L_val (.int .i64 2) (by rfl) (by rfl) (gives_value _ fun _ => by rfl) ?_
  refine L_val (.pointer (some ⟨g3, 4, none⟩)) (by rfl) (by rfl) (gives_value _ fun _ => by kernel_rfl) ?_
  refine L_val (.agg #[.slice (some ⟨g17, 0, none⟩) 24 cap_11, .slice (some ⟨g18, 0, none⟩) 24 cap_11b]) (by rfl) (by rfl) (gives_load g3 4 79 (joinA [#[.slice (some ⟨g7, 0, none⟩) 24 cap_3, .slice (some ⟨g8, 0, none⟩) 24 cap_3b], #[.slice (some ⟨g12, 0, none⟩) 24 cap_7, .slice (some ⟨g13, 0, none⟩) 24 cap_7b], #[.slice (some ⟨g17, 0, none⟩) 24 cap_11, .slice (some ⟨g18, 0, none⟩) 24 cap_11b], #[.slice none 0 0, .slice none 0 0], #[.slice none 0 0, .slice none 0 0], #[.slice none 0 0, .slice none 0 0]]) #[.slice (some ⟨g17, 0, none⟩) 24 cap_11, .slice (some ⟨g18, 0, none⟩) 24 cap_11b] _ (by rfl) (fun _ h => h.blk 15 (by rfl)) (sl_joinC 2 _ (by simp) 2 _ (by rfl) _ (by rfl)) Tryd.underlying77 (by rfl) (hi_NN _ _)) ?_
  refine L_freshX (vl := [.agg #[.slice (some ⟨g17, 0, none⟩) 24 cap_11, .slice (some ⟨g18, 0, none⟩) 24 cap_11b]]) 5 (fun g cap => .slice (some ⟨g, 0, none⟩) (48 + 48) cap) (fun cap cs => BB cs cap (48 + 48) (lo ((⟨Fp.n (num l_9), Fp.n (num l_10)⟩ : F2).b.val : Int) 48 ++ lo ((⟨Fp.n (num l_9), Fp.n (num l_10)⟩ : F2).a.val : Int) 48)) (by rfl) (by rfl) Want.none (by kernel_rfl) (by rfl)  (fun w h => l5_bytes (⟨Fp.n (num l_9), Fp.n (num l_10)⟩ : F2) _ _ _ _ _ _ w (hwb_11.num (h.blk 0 (by rfl)) (fv_rng _) (by omega)) (hwb_11b.num (h.blk 1 (by rfl)) (fv_rng _) (by omega)) (by omega) (by omega)) ?_; intro g19 cap_12 cs_12 hq_12
  refine L_val (.tuple #[.agg (c2 (⟨Fp.n (num l_9), Fp.n (num l_10)⟩ : F2)), .int .i64 0]) (by rfl) (by rfl) (gives_call (vl := [.slice (some ⟨g19, 0, none⟩) (48 + 48) cap_12]) (by kernel_rfl) (by rfl) (fun w h => read5 (⟨Fp.n (num l_9), Fp.n (num l_10)⟩ : F2) _ _ w (hG.keep h.below) (hq_12.reads (h.blk 0 (by rfl))) (by have := hq_12.le; omega))) ?_
  refine L_val (.tuple #[.agg (c2 (⟨Fp.n (num l_9), Fp.n (num l_10)⟩ : F2)), .int .i64 0]) (by rfl) (by rfl) (gives_value _ fun _ => by rfl) ?_
  refine L_val (.agg (c2 (⟨Fp.n (num l_9), Fp.n (num l_10)⟩ : F2))) (by rfl) (by rfl) (gives_value _ fun _ => by kernel_rfl) ?_
  refine L_val (.int .i64 0) (by rfl) (by rfl) (gives_value _ fun _ => by kernel_rfl) ?_
  refine L_val (.pointer (some ⟨g4, 24, none⟩)) (by rfl) (by rfl) (gives_value _ fun _ => by kernel_rfl) ?_
  refine L_storeA (t := 137) 15 g4 24 (joinA [(c2 (⟨Fp.n (num l_1), Fp.n (num l_2)⟩ : F2)), (c2 (⟨Fp.n (num l_5), Fp.n (num l_6)⟩ : F2)), (c2 (0 : F2)), (c2 (0 : F2)), (c2 (0 : F2)), (c2 (0 : F2))]) (c2 (⟨Fp.n (num l_9), Fp.n (num l_10)⟩ : F2)) (joinA [(c2 (⟨Fp.n (num l_1), Fp.n (num l_2)⟩ : F2)), (c2 (⟨Fp.n (num l_5), Fp.n (num l_6)⟩ : F2)), (c2 (⟨Fp.n (num l_9), Fp.n (num l_10)⟩ : F2)), (c2 (0 : F2)), (c2 (0 : F2)), (c2 (0 : F2))]) (by rfl) (by rfl) (by rfl) (by rfl) (by rfl) (hi_2 _) (by rw [joinC_size 12 _ (by simp [c2_size]), c2_size]; simp) (c2_one _) (spliceC' 12 _ (by simp [c2_size]) 2 _ (c2_size _) (by simp) _ (by rfl) _ (by rfl)) ?_
  simp only [List.set_cons_zero, List.set_cons_succ]
  refine L_end ?_
  intro w15 hw15
  change Code.wp _ _ _ _ _
  refine one_plain hw15 [0, 1, 2] (by rfl) ?_
  refine L_val (.int .i64 2) (by rfl) (by rfl) (gives_value _ fun _ => by rfl) ?_
  refine L_val (.int .i64 3) (by rfl) (by rfl) (gives_add (k := .i64) 2 1 3 (by rfl) (by rfl) (by rfl)) ?_
  refine L_val (.int .i64 3) (by rfl) (by rfl) (gives_value _ fun _ => by rfl) ?_
  refine L_end ?_
  intro w16 hw16
  refine rounds_next ?_
  refine wp_seq ?_
  refine seq_plain hw16 [0, 1] (by rfl) ?_
  refine L_val (.int .i64 3) (by rfl) (by rfl) (gives_value _ fun _ => by rfl) ?_
  refine L_val (.bool true) (by rfl) (by rfl) (gives_lss (k := .i64) 3 6 true (by rfl) (by rfl) (by rfl)) ?_
  refine L_end ?_
  intro w17 hw17
  refine wp_cond_true (fr_at _ _ (by rfl) _) ?_
  refine wp_skip ?_
  change Code.wp _ _ _ _ _
  refine wp_seq ?_
  refine wp_block ?_
  refine seq_plain hw17 [0, 1, 2, 3, 4, 5, 6, 7, 8, 9, 10, 11, 12] (by rfl) ?_
  refine L_val (.int .i64 3) (by rfl) (by rfl) (gives_value _ fun _ => by rfl) ?_
  refine L_val (.slice A0 n0 c0) (by rfl) (by rfl) (gives_value _ fun _ => by rfl) ?_
  refine L_val (.int .i64 3) (by rfl) (by rfl) (gives_value _ fun _ => by rfl) ?_
  refine L_val (.int .i64 6) (by rfl) (by rfl) (gives_mul (k := .i64) 2 3 6 (by rfl) (by rfl) (by rfl)) ?_
  refine L_freshX (vl := [.slice A0 n0 c0, .int .i64 6]) 5 (fun g cap => .slice (some ⟨g, 0, none⟩) 0 cap) (fun cap cs => ∃ l, BB cs cap 0 l ∧ Oct l) (by rfl) (by rfl) Want.none (by kernel_rfl) (by rfl)  (fun w h => part_0 A0 n0 c0 bs0 6 w ((hr0.below h.below).more h.below.size) ho0 hb0 h0 (by omega)) ?_; intro g20 cap_13 cs_13 hq_13
  obtain ⟨l_13, hbb_13, hol_13⟩ := hq_13
  refine L_val (.slice A0 n0 c0) (by rfl) (by rfl) (gives_value _ fun _ => by rfl) ?_
  refine L_val (.int .i64 3) (by rfl) (by rfl) (gives_value _ fun _ => by rfl) ?_
  refine L_val (.int .i64 6) (by rfl) (by rfl) (gives_mul (k := .i64) 2 3 6 (by rfl) (by rfl) (by rfl)) ?_
  refine L_val (.int .i64 7) (by rfl) (by rfl) (gives_add (k := .i64) 6 1 7 (by rfl) (by rfl) (by rfl)) ?_
  refine L_freshX (vl := [.slice A0 n0 c0, .int .i64 7]) 5 (fun g cap => .slice (some ⟨g, 0, none⟩) 0 cap) (fun cap cs => ∃ l, BB cs cap 0 l ∧ Oct l) (by rfl) (by rfl) Want.none (by kernel_rfl) (by rfl)  (fun w h => part_0 A0 n0 c0 bs0 7 w ((hr0.below h.below).more h.below.size) ho0 hb0 h0 (by omega)) ?_; intro g21 cap_14 cs_14 hq_14
  obtain ⟨l_14, hbb_14, hol_14⟩ := hq_14
  refine L_freshY (vl := [.slice (some ⟨g20, 0, none⟩) 0 cap_13, .slice (some ⟨g21, 0, none⟩) 0 cap_14]) 100 100 (fun g cap g2 cap2 => .agg #[.slice (some ⟨g, 0, none⟩) 24 cap, .slice (some ⟨g2, 0, none⟩) 24 cap2]) (fun cap cs cap2 cs2 => WB cs cap 24 ((⟨Fp.n (num l_13), Fp.n (num l_14)⟩ : F2).a.val : Int) ∧ WB cs2 cap2 24 ((⟨Fp.n (num l_13), Fp.n (num l_14)⟩ : F2).b.val : Int)) (by rfl) (by rfl) Want.none (by kernel_rfl) (by rfl)  (fun w h => l5_of _ _ _ l_13 _ _ _ l_14 w (hbb_13.reads (h.blk 1 (by rfl))) hol_13 (hbb_14.reads (h.blk 0 (by rfl))) hol_14 (by omega) (by omega)) ?_; intro g22 cap_15 cs_15 g23 cap_15b cs_15b hq_15; obtain ⟨hwb_15, hwb_15b⟩ := hq_15
  refine L_val (.pointer (some ⟨g3, 6, none⟩)) (by rfl) (by rfl) (gives_value _ fun _ => by kernel_rfl) ?_
  refine L_storeA (t := 79) 20 g3 6 (joinA [#[.slice (some ⟨g7, 0, none⟩) 24 cap_3, .slice (some ⟨g8, 0, none⟩) 24 cap_3b], #[.slice (some ⟨g12, 0, none⟩) 24 cap_7, .slice (some ⟨g13, 0, none⟩) 24 cap_7b], #[.slice (some ⟨g17, 0, none⟩) 24 cap_11, .slice (some ⟨g18, 0, none⟩) 24 cap_11b], #[.slice none 0 0, .slice none 0 0], #[.slice none 0 0, .slice none 0 0], #[.slice none 0 0, .slice none 0 0]]) #[.slice (some ⟨g22, 0, none⟩) 24 cap_15, .slice (some ⟨g23, 0, none⟩) 24 cap_15b] (joinA [#[.slice (some ⟨g7, 0, none⟩) 24 cap_3, .slice (some ⟨g8, 0, none⟩) 24 cap_3b], #[.slice (some ⟨g12, 0, none⟩) 24 cap_7, .slice (some ⟨g13, 0, none⟩) 24 cap_7b], #[.slice (some ⟨g17, 0, none⟩) 24 cap_11, .slice (some ⟨g18, 0, none⟩) 24 cap_11b], #[.slice (some ⟨g22, 0, none⟩) 24 cap_15, .slice (some ⟨g23, 0, none⟩) 24 cap_15b], #[.slice none 0 0, .slice none 0 0], #[.slice none 0 0, .slice none 0 0]]) (by rfl) (by rfl) (by rfl) (by rfl) (by rfl) (hi_NN _ _) (by rw [joinC_size 2 _ (by simp)]; simp) (one_N (by rfl) (by rfl)) (spliceC' 2 _ (by simp) 3 _ (by rfl) (by simp) _ (by rfl) _ (by rfl)) ?_
  simp only [List.set_cons_zero, List.set_cons_succ]
  refine L_end ?_
  intro w18 hw18
  refine one_plain hw18 [0, 1, 2, 3, 4, 5, 6, 7, 8, 9, 10] (by rfl) ?_
  refine L_val (.int .i64 3) (by rfl) (by rfl) (gives_value _ fun _ => by rfl) ?_
  refine L_val (.int .i64 3) (by rfl) (by rfl) (gives_value _ fun _ => by rfl) ?_
  refine L_val (.pointer (some ⟨g3, 6, none⟩)) (by rfl) (by rfl) (gives_value _ fun _ => by kernel_rfl) ?_
  refine L_val (.agg #[.slice (some ⟨g22, 0, none⟩) 24 cap_15, .slice (some ⟨g23, 0, none⟩) 24 cap_15b]) (by rfl) (by rfl) (gives_load g3 6 79 (joinA [#[.slice (some ⟨g7, 0, none⟩) 24 cap_3, .slice (some ⟨g8, 0, none⟩) 24 cap_3b], #[.slice (some ⟨g12, 0, none⟩) 24 cap_7, .slice (some ⟨g13, 0, none⟩) 24 cap_7b], #[.slice (some ⟨g17, 0, none⟩) 24 cap_11, .slice (some ⟨g18, 0, none⟩) 24 cap_11b], #[.slice (some ⟨g22, 0, none⟩) 24 cap_15, .slice (some ⟨g23, 0, none⟩) 24 cap_15b], #[.slice none 0 0, .slice none 0 0], #[.slice none 0 0, .slice none 0 0]]) #[.slice (some ⟨g22, 0, none⟩) 24 cap_15, .slice (some ⟨g23, 0, none⟩) 24 cap_15b] _ (by rfl) (fun _ h => h.blk 20 (by rfl)) (sl_joinC 2 _ (by simp) 3 _ (by rfl) _ (by rfl)) Tryd.underlying77 (by rfl) (hi_NN _ _)) ?_
  refine L_freshX (vl := [.agg #[.slice (some ⟨g22, 0, none⟩) 24 cap_15, .slice (some ⟨g23, 0, none⟩) 24 cap_15b]]) 5 (fun g cap => .slice (some ⟨g, 0, none⟩) (48 + 48) cap) (fun cap cs => BB cs cap (48 + 48) (lo ((⟨Fp.n (num l_13), Fp.n (num l_14)⟩ : F2).b.val : Int) 48 ++ lo ((⟨Fp.n (num l_13), Fp.n (num l_14)⟩ : F2).a.val : Int) 48)) (by rfl) (by rfl) Want.none (by kernel_rfl) (by rfl)  (fun w h => l5_bytes (⟨Fp.n (num l_13), Fp.n (num l_14)⟩ : F2) _ _ _ _ _ _ w (hwb_15.num (h.blk 0 (by rfl)) (fv_rng _) (by omega)) (hwb_15b.num (h.blk 1 (by rfl)) (fv_rng _) (by omega)) (by omega) (by omega)) ?_; intro g24 cap_16 cs_16 hq_16
  refine L_val (.tuple #[.agg (c2 (⟨Fp.n (num l_13), Fp.n (num l_14)⟩ : F2)), .int .i64 0]) (by rfl) (by rfl) (gives_call (vl := [.slice (some ⟨g24, 0, none⟩) (48 + 48) cap_16]) (by kernel_rfl) (by rfl) (fun w h => read5 (⟨Fp.n (num l_13), Fp.n (num l_14)⟩ : F2) _ _ w (hG.keep h.below) (hq_16.reads (h.blk 0 (by rfl))) (by have := hq_16.le; omega))) ?_
  refine L_val (.tuple #[.agg (c2 (⟨Fp.n (num l_13), Fp.n (num l_14)⟩ : F2)), .int .i64 0]) (by rfl) (by rfl) (gives_value _ fun _ => by rfl) ?_
  refine L_val (.agg (c2 (⟨Fp.n (num l_13), Fp.n (num l_14)⟩ : F2))) (by rfl) (by rfl) (gives_value _ fun _ => by kernel_rfl) ?_
  refine L_val (.int .i64 0) (by rfl) (by rfl) (gives_value _ fun _ => by kernel_rfl) ?_
  refine L_val (.pointer (some ⟨g4, 36, none⟩)) (by rfl) (by rfl) (gives_value _ fun _ => by kernel_rfl) ?_
  refine L_storeA (t := 137) 20 g4 36 (joinA [(c2 (⟨Fp.n (num l_1), Fp.n (num l_2)⟩ : F2)), (c2 (⟨Fp.n (num l_5), Fp.n (num l_6)⟩ : F2)), (c2 (⟨Fp.n (num l_9), Fp.n (num l_10)⟩ : F2)), (c2 (0 : F2)), (c2 (0 : F2)), (c2 (0 : F2))]) (c2 (⟨Fp.n (num l_13), Fp.n (num l_14)⟩ : F2)) (joinA [(c2 (⟨Fp.n (num l_1), Fp.n (num l_2)⟩ : F2)), (c2 (⟨Fp.n (num l_5), Fp.n (num l_6)⟩ : F2)), (c2 (⟨Fp.n (num l_9), Fp.n (num l_10)⟩ : F2)), (c2 (⟨Fp.n (num l_13), Fp.n (num l_14)⟩ : F2)), (c2 (0 : F2)), (c2 (0 : F2))]) (by rfl) (by rfl) (by rfl) (by rfl) (by rfl) (hi_2 _) (by rw [joinC_size 12 _ (by simp [c2_size]), c2_size]; simp) (c2_one _) (spliceC' 12 _ (by simp [c2_size]) 3 _ (c2_size _) (by simp) _ (by rfl) _ (by rfl)) ?_
  simp only [List.set_cons_zero, List.set_cons_succ]
  refine L_end ?_
  intro w19 hw19
  change Code.wp _ _ _ _ _
  refine one_plain hw19 [0, 1, 2] (by rfl) ?_
  refine L_val (.int .i64 3) (by rfl) (by rfl) (gives_value _ fun _ => by rfl) ?_
  refine L_val (.int .i64 4) (by rfl) (by rfl) (gives_add (k := .i64) 3 1 4 (by rfl) (by rfl) (by rfl)) ?_
  refine L_val (.int .i64 4) (by rfl) (by rfl) (gives_value _ fun _ => by rfl) ?_
  refine L_end ?_
  intro w20 hw20
  refine rounds_next ?_
  refine wp_seq ?_
  refine seq_plain hw20 [0, 1] (by rfl) ?_
  refine L_val (.int .i64 4) (by rfl) (by rfl) (gives_value _ fun _ => by rfl) ?_
  refine L_val (.bool true) (by rfl) (by rfl) (gives_lss (k := .i64) 4 6 true (by rfl) (by rfl) (by rfl)) ?_
  refine L_end ?_
  intro w21 hw21
  refine wp_cond_true (fr_at _ _ (by rfl) _) ?_
  refine wp_skip ?_
  change Code.wp _ _ _ _ _
  refine wp_seq ?_
  refine wp_block ?_
  refine seq_plain hw21 [0, 1, 2, 3, 4, 5, 6, 7, 8, 9, 10, 11, 12] (by rfl) ?_
  refine L_val (.int .i64 4) (by rfl) (by rfl) (gives_value _ fun _ => by rfl) ?_
  refine L_val (.slice A0 n0 c0) (by rfl) (by rfl) (gives_value _ fun _ => by rfl) ?_
  refine L_val (.int .i64 4) (by rfl) (by rfl) (gives_value _ fun _ => by rfl) ?_
  refine L_val (.int .i64 8) (by rfl) (by rfl) (gives_mul (k := .i64) 2 4 8 (by rfl) (by rfl) (by rfl)) ?_
  refine L_freshX (vl := [.slice A0 n0 c0, .int .i64 8]) 5 (fun g cap => .slice (some ⟨g, 0, none⟩) 0 cap) (fun cap cs => ∃ l, BB cs cap 0 l ∧ Oct l) (by rfl) (by rfl) Want.none (by kernel_rfl) (by rfl)  (fun w h => part_0 A0 n0 c0 bs0 8 w ((hr0.below h.below).more h.below.size) ho0 hb0 h0 (by omega)) ?_; intro g25 cap_17 cs_17 hq_17
  obtain ⟨l_17, hbb_17, hol_17⟩ := hq_17
  refine L_val (.slice A0 n0 c0) (by rfl) (by rfl) (gives_value _ fun _ => by rfl) ?_
  refine L_val (.int .i64 4) (by rfl) (by rfl) (gives_value _ fun _ => by rfl) ?_
  refine L_val (.int .i64 8) (by rfl) (by rfl) (gives_mul (k := .i64) 2 4 8 (by rfl) (by rfl) (by rfl)) ?_
  refine L_val (.int .i64 9) (by rfl) (by rfl) (gives_add (k := .i64) 8 1 9 (by rfl) (by rfl) (by rfl)) ?_
  refine L_freshX (vl := [.slice A0 n0 c0, .int .i64 9]) 5 (fun g cap => .slice (some ⟨g, 0, none⟩) 0 cap) (fun cap cs => ∃ l, BB cs cap 0 l ∧ Oct l) (by rfl) (by rfl) Want.none (by kernel_rfl) (by rfl)  (fun w h => part_0 A0 n0 c0 bs0 9 w ((hr0.below h.below).more h.below.size) ho0 hb0 h0 (by omega)) ?_; intro g26 cap_18 cs_18 hq_18
  obtain ⟨l_18, hbb_18, hol_18⟩ := hq_18
  refine L_freshY (vl := [.slice (some ⟨g25, 0, none⟩) 0 cap_17, .slice (some ⟨g26, 0, none⟩) 0 cap_18]) 100 100 (fun g cap g2 cap2 => .agg #[.slice (some ⟨g, 0, none⟩) 24 cap, .slice (some ⟨g2, 0, none⟩) 24 cap2]) (fun cap cs cap2 cs2 => WB cs cap 24 ((⟨Fp.n (num l_17), Fp.n (num l_18)⟩ : F2).a.val : Int) ∧ WB cs2 cap2 24 ((⟨Fp.n (num l_17), Fp.n (num l_18)⟩ : F2).b.val : Int)) (by rfl) (by rfl) Want.none (by kernel_rfl) (by rfl)  (fun w h => l5_of _ _ _ l_17 _ _ _ l_18 w (hbb_17.reads (h.blk 1 (by rfl))) hol_17 (hbb_18.reads (h.blk 0 (by rfl))) hol_18 (by omega) (by omega)) ?_; intro g27 cap_19 cs_19 g28 cap_19b cs_19b hq_19; obtain ⟨hwb_19, hwb_19b⟩ := hq_19
  refine L_val (.pointer (some ⟨g3, 8, none⟩)) (by rfl) (by rfl) (gives_value _ fun _ => by kernel_rfl) ?_
  refine L_storeA (t := 79) 25 g3 8 (joinA [#[.slice (some ⟨g7, 0, none⟩) 24 cap_3, .slice (some ⟨g8, 0, none⟩) 24 cap_3b], #[.slice (some ⟨g12, 0, none⟩) 24 cap_7, .slice (some ⟨g13, 0, none⟩) 24 cap_7b], #[.slice (some ⟨g17, 0, none⟩) 24 cap_11, .slice (some ⟨g18, 0, none⟩) 24 cap_11b], #[.slice (some ⟨g22, 0, none⟩) 24 cap_15, .slice (some ⟨g23, 0, none⟩) 24 cap_15b], #[.slice none 0 0, .slice none 0 0], #[.slice none 0 0, .slice none 0 0]]) #[.slice (some ⟨g27, 0, none⟩) 24 cap_19, .slice (some ⟨g28, 0, none⟩) 24 cap_19b] (joinA [#[.slice (some ⟨g7, 0, none⟩) 24 cap_3, .slice (some ⟨g8, 0, none⟩) 24 cap_3b], #[.slice (some ⟨g12, 0, none⟩) 24 cap_7, .slice (some ⟨g13, 0, none⟩) 24 cap_7b], #[.slice (some ⟨g17, 0, none⟩) 24 cap_11, .slice (some ⟨g18, 0, none⟩) 24 cap_11b], #[.slice (some ⟨g22, 0, none⟩) 24 cap_15, .slice (some ⟨g23, 0, none⟩) 24 cap_15b], #[.slice (some ⟨g27, 0, none⟩) 24 cap_19, .slice (some ⟨g28, 0, none⟩) 24 cap_19b], #[.slice none 0 0, .slice none 0 0]]) (by rfl) (by rfl) (by rfl) (by rfl) (by rfl) (hi_NN _ _) (by rw [joinC_size 2 _ (by simp)]; simp) (one_N (by rfl) (by rfl)) (spliceC' 2 _ (by simp) 4 _ (by rfl) (by simp) _ (by rfl) _ (by rfl)) ?_
  simp only [List.set_cons_zero, List.set_cons_succ]
  refine L_end ?_
  intro w22 hw22
  refine one_plain hw22 [0, 1, 2, 3, 4, 5, 6, 7, 8, 9, 10] (by rfl) ?_
  refine L_val (.int .i64 4) (by rfl) (by rfl) (gives_value _ fun _ => by rfl) ?_
  refine L_val (.int .i64 4) (by rfl) (by rfl) (gives_value _ fun _ => by rfl) ?_
  refine L_val (.pointer (some ⟨g3, 8, none⟩)) (by rfl) (by rfl) (gives_value _ fun _ => by kernel_rfl) ?_
  refine L_val (.agg #[.slice (some ⟨g27, 0, none⟩) 24 cap_19, .slice (some ⟨g28, 0, none⟩) 24 cap_19b]) (by rfl) (by rfl) (gives_load g3 8 79 (joinA [#[.slice (some ⟨g7, 0, none⟩) 24 cap_3, .slice (some ⟨g8, 0, none⟩) 24 cap_3b], #[.slice (some ⟨g12, 0, none⟩) 24 cap_7, .slice (some ⟨g13, 0, none⟩) 24 cap_7b], #[.slice (some ⟨g17, 0, none⟩) 24 cap_11, .slice (some ⟨g18, 0, none⟩) 24 cap_11b], #[.slice (some ⟨g22, 0, none⟩) 24 cap_15, .slice (some ⟨g23, 0, none⟩) 24 cap_15b], #[.slice (some ⟨g27, 0, none⟩) 24 cap_19, .slice (some ⟨g28, 0, none⟩) 24 cap_19b], #[.slice none 0 0, .slice none 0 0]]) #[.slice (some ⟨g27, 0, none⟩) 24 cap_19, .slice (some ⟨g28, 0, none⟩) 24 cap_19b] _ (by rfl) (fun _ h => h.blk 25 (by rfl)) (sl_joinC 2 _ (by simp) 4 _ (by rfl) _ (by rfl)) Tryd.underlying77 (by rfl) (hi_NN _ _)) ?_
  refine L_freshX (vl := [.agg #[.slice (some ⟨g27, 0, none⟩) 24 cap_19, .slice (some ⟨g28, 0, none⟩) 24 cap_19b]]) 5 (fun g cap => .slice (some ⟨g, 0, none⟩) (48 + 48) cap) (fun cap cs => BB cs cap (48 + 48) (lo ((⟨Fp.n (num l_17), Fp.n (num l_18)⟩ : F2).b.val : Int) 48 ++ lo ((⟨Fp.n (num l_17), Fp.n (num l_18)⟩ : F2).a.val : Int) 48)) (by rfl) (by rfl) Want.none (by kernel_rfl) (by rfl)  (fun w h => l5_bytes (⟨Fp.n (num l_17), Fp.n (num l_18)⟩ : F2) _ _ _ _ _ _ w (hwb_19.num (h.blk 0 (by rfl)) (fv_rng _) (by omega)) (hwb_19b.num (h.blk 1 (by rfl)) (fv_rng _) (by omega)) (by omega) (by omega)) ?_; intro g29 cap_20 cs_20 hq_20
  refine L_val (.tuple #[.agg (c2 (⟨Fp.n (num l_17), Fp.n (num l_18)⟩ : F2)), .int .i64 0]) (by rfl) (by rfl) (gives_call (vl := [.slice (some ⟨g29, 0, none⟩) (48 + 48) cap_20]) (by kernel_rfl) (by rfl) (fun w h => read5 (⟨Fp.n (num l_17), Fp.n (num l_18)⟩ : F2) _ _ w (hG.keep h.below) (hq_20.reads (h.blk 0 (by rfl))) (by have := hq_20.le; omega))) ?_
  refine L_val (.tuple #[.agg (c2 (⟨Fp.n (num l_17), Fp.n (num l_18)⟩ : F2)), .int .i64 0]) (by rfl) (by rfl) (gives_value _ fun _ => by rfl) ?_
  refine L_val (.agg (c2 (⟨Fp.n (num l_17), Fp.n (num l_18)⟩ : F2))) (by rfl) (by rfl) (gives_value _ fun _ => by kernel_rfl) ?_
  refine L_val (.int .i64 0) (by rfl) (by rfl) (gives_value _ fun _ => by kernel_rfl) ?_
  refine L_val (.pointer (some ⟨g4, 48, none⟩)) (by rfl) (by rfl) (gives_value _ fun _ => by kernel_rfl) ?_
  refine L_storeA (t := 137) 25 g4 48 (joinA [(c2 (⟨Fp.n (num l_1), Fp.n (num l_2)⟩ : F2)), (c2 (⟨Fp.n (num l_5), Fp.n (num l_6)⟩ : F2)), (c2 (⟨Fp.n (num l_9), Fp.n (num l_10)⟩ : F2)), (c2 (⟨Fp.n (num l_13), Fp.n (num l_14)⟩ : F2)), (c2 (0 : F2)), (c2 (0 : F2))]) (c2 (⟨Fp.n (num l_17), Fp.n (num l_18)⟩ : F2)) (joinA [(c2 (⟨Fp.n (num l_1), Fp.n (num l_2)⟩ : F2)), (c2 (⟨Fp.n (num l_5), Fp.n (num l_6)⟩ : F2)), (c2 (⟨Fp.n (num l_9), Fp.n (num l_10)⟩ : F2)), (c2 (⟨Fp.n (num l_13), Fp.n (num l_14)⟩ : F2)), (c2 (⟨Fp.n (num l_17), Fp.n (num l_18)⟩ : F2)), (c2 (0 : F2))]) (by rfl) (by rfl) (by rfl) (by rfl) (by rfl) (hi_2 _) (by rw [joinC_size 12 _ (by simp [c2_size]), c2_size]; simp) (c2_one _) (spliceC' 12 _ (by simp [c2_size]) 4 _ (c2_size _) (by simp) _ (by rfl) _ (by rfl)) ?_
  simp only [List.set_cons_zero, List.set_cons_succ]
  refine L_end ?_
  intro w23 hw23
  change Code.wp _ _ _ _ _
  refine one_plain hw23 [0, 1, 2] (by rfl) ?_
  refine L_val (.int .i64 4) (by rfl) (by rfl) (gives_value _ fun _ => by rfl) ?_
  refine L_val (.int .i64 5) (by rfl) (by rfl) (gives_add (k := .i64) 4 1 5 (by rfl) (by rfl) (by rfl)) ?_
  refine L_val (.int .i64 5) (by rfl) (by rfl) (gives_value _ fun _ => by rfl) ?_
  refine L_end ?_
  intro w24 hw24
  refine rounds_next ?_
  refine wp_seq ?_
  refine seq_plain hw24 [0, 1] (by rfl) ?_
  refine L_val (.int .i64 5) (by rfl) (by rfl) (gives_value _ fun _ => by rfl) ?_
  refine L_val (.bool true) (by rfl) (by rfl) (gives_lss (k := .i64) 5 6 true (by rfl) (by rfl) (by rfl)) ?_
  refine L_end ?_
  intro w25 hw25
  refine wp_cond_true (fr_at _ _ (by rfl) _) ?_
  refine wp_skip ?_
  change Code.wp _ _ _ _ _
  refine wp_seq ?_
  refine wp_block ?_
  refine seq_plain hw25 [0, 1, 2, 3, 4, 5, 6, 7, 8, 9, 10, 11, 12] (by rfl) ?_
  refine L_val (.int .i64 5) (by rfl) (by rfl) (gives_value _ fun _ => by rfl) ?_
  refine L_val (.slice A0 n0 c0) (by rfl) (by rfl) (gives_value _ fun _ => by rfl) ?_
  refine L_val (.int .i64 5) (by rfl) (by rfl) (gives_value _ fun _ => by rfl) ?_
  refine L_val (.int .i64 10) (by rfl) (by rfl) (gives_mul (k := .i64) 2 5 10 (by rfl) (by rfl) (by rfl)) ?_
  refine L_freshX (vl := [.slice A0 n0 c0, .int .i64 10]) 5 (fun g cap => .slice (some ⟨g, 0, none⟩) 0 cap) (fun cap cs => ∃ l, BB cs cap 0 l ∧ Oct l) (by rfl) (by rfl) Want.none (by kernel_rfl) (by rfl)  (fun w h => part_0 A0 n0 c0 bs0 10 w ((hr0.below h.below).more h.below.size) ho0 hb0 h0 (by omega)) ?_; intro g30 cap_21 cs_21 hq_21
  obtain ⟨l_21, hbb_21, hol_21⟩ := hq_21
  refine L_val (.slice A0 n0 c0) (by rfl) (by rfl) (gives_value _ fun _ => by rfl) ?_
  refine L_val (.int .i64 5) (by rfl) (by rfl) (gives_value _ fun _ => by rfl) ?_
  refine L_val (.int .i64 10) (by rfl) (by rfl) (gives_mul (k := .i64) 2 5 10 (by rfl) (by rfl) (by rfl)) ?_
  refine L_val (.int .i64 11) (by rfl) (by rfl) (gives_add (k := .i64) 10 1 11 (by rfl) (by rfl) (by rfl)) ?_
  refine L_freshX (vl := [.slice A0 n0 c0, .int .i64 11]) 5 (fun g cap => .slice (some ⟨g, 0, none⟩) 0 cap) (fun cap cs => ∃ l, BB cs cap 0 l ∧ Oct l) (by rfl) (by rfl) Want.none (by kernel_rfl) (by rfl)  (fun w h => part_0 A0 n0 c0 bs0 11 w ((hr0.below h.below).more h.below.size) ho0 hb0 h0 (by omega)) ?_; intro g31 cap_22 cs_22 hq_22
  obtain ⟨l_22, hbb_22, hol_22⟩ := hq_22
  refine L_freshY (vl := [.slice (some ⟨g30, 0, none⟩) 0 cap_21, .slice (some ⟨g31, 0, none⟩) 0 cap_22]) 100 100 (fun g cap g2 cap2 => .agg #[.slice (some ⟨g, 0, none⟩) 24 cap, .slice (some ⟨g2, 0, none⟩) 24 cap2]) (fun cap cs cap2 cs2 => WB cs cap 24 ((⟨Fp.n (num l_21), Fp.n (num l_22)⟩ : F2).a.val : Int) ∧ WB cs2 cap2 24 ((⟨Fp.n (num l_21), Fp.n (num l_22)⟩ : F2).b.val : Int)) (by rfl) (by rfl) Want.none (by kernel_rfl) (by rfl)  (fun w h => l5_of _ _ _ l_21 _ _ _ l_22 w (hbb_21.reads (h.blk 1 (by rfl))) hol_21 (hbb_22.reads (h.blk 0 (by rfl))) hol_22 (by omega) (by omega)) ?_; intro g32 cap_23 cs_23 g33 cap_23b cs_23b hq_23; obtain ⟨hwb_23, hwb_23b⟩ := hq_23
  refine L_val (.pointer (some ⟨g3, 10, none⟩)) (by rfl) (by rfl) (gives_value _ fun _ => by kernel_rfl) ?_
  refine L_storeA (t := 79) 30 g3 10 (joinA [#[.slice (some ⟨g7, 0, none⟩) 24 cap_3, .slice (some ⟨g8, 0, none⟩) 24 cap_3b], #[.slice (some ⟨g12, 0, none⟩) 24 cap_7, .slice (some ⟨g13, 0, none⟩) 24 cap_7b], #[.slice (some ⟨g17, 0, none⟩) 24 cap_11, .slice (some ⟨g18, 0, none⟩) 24 cap_11b], #[.slice (some ⟨g22, 0, none⟩) 24 cap_15, .slice (some ⟨g23, 0, none⟩) 24 cap_15b], #[.slice (some ⟨g27, 0, none⟩) 24 cap_19, .slice (some ⟨g28, 0, none⟩) 24 cap_19b], #[.slice none 0 0, .slice none 0 0]]) #[.slice (some ⟨g32, 0, none⟩) 24 cap_23, .slice (some ⟨g33, 0, none⟩) 24 cap_23b] (joinA [#[.slice (some ⟨g7, 0, none⟩) 24 cap_3, .slice (some ⟨g8, 0, none⟩) 24 cap_3b], #[.slice (some ⟨g12, 0, none⟩) 24 cap_7, .slice (some ⟨g13, 0, none⟩) 24 cap_7b], #[.slice (some ⟨g17, 0, none⟩) 24 cap_11, .slice (some ⟨g18, 0, none⟩) 24 cap_11b], #[.slice (some ⟨g22, 0, none⟩) 24 cap_15, .slice (some ⟨g23, 0, none⟩) 24 cap_15b], #[.slice (some ⟨g27, 0, none⟩) 24 cap_19, .slice (some ⟨g28, 0, none⟩) 24 cap_19b], #[.slice (some ⟨g32, 0, none⟩) 24 cap_23, .slice (some ⟨g33, 0, none⟩) 24 cap_23b]]) (by rfl) (by rfl) (by rfl) (by rfl) (by rfl) (hi_NN _ _) (by rw [joinC_size 2 _ (by simp)]; simp) (one_N (by rfl) (by rfl)) (spliceC' 2 _ (by simp) 5 _ (by rfl) (by simp) _ (by rfl) _ (by rfl)) ?_
  simp only [List.set_cons_zero, List.set_cons_succ]
  refine L_end ?_
  intro w26 hw26
  refine one_plain hw26 [0, 1, 2, 3, 4, 5, 6, 7, 8, 9, 10] (by rfl) ?_
  refine L_val (.int .i64 5) (by rfl) (by rfl) (gives_value _ fun _ => by rfl) ?_
  refine L_val (.int .i64 5) (by rfl) (by rfl) (gives_value _ fun _ => by rfl) ?_
  refine L_val (.pointer (some ⟨g3, 10, none⟩)) (by rfl) (by rfl) (gives_value _ fun _ => by kernel_rfl) ?_
  refine L_val (.agg #[.slice (some ⟨g32, 0, none⟩) 24 cap_23, .slice (some ⟨g33, 0, none⟩) 24 cap_23b]) (by rfl) (by rfl) (gives_load g3 10 79 (joinA [#[.slice (some ⟨g7, 0, none⟩) 24 cap_3, .slice (some ⟨g8, 0, none⟩) 24 cap_3b], #[.slice (some ⟨g12, 0, none⟩) 24 cap_7, .slice (some ⟨g13, 0, none⟩) 24 cap_7b], #[.slice (some ⟨g17, 0, none⟩) 24 cap_11, .slice (some ⟨g18, 0, none⟩) 24 cap_11b], #[.slice (some ⟨g22, 0, none⟩) 24 cap_15, .slice (some ⟨g23, 0, none⟩) 24 cap_15b], #[.slice (some ⟨g27, 0, none⟩) 24 cap_19, .slice (some ⟨g28, 0, none⟩) 24 cap_19b], #[.slice (some ⟨g32, 0, none⟩) 24 cap_23, .slice (some ⟨g33, 0, none⟩) 24 cap_23b]]) #[.slice (some ⟨g32, 0, none⟩) 24 cap_23, .slice (some ⟨g33, 0, none⟩) 24 cap_23b] _ (by rfl) (fun _ h => h.blk 30 (by rfl)) (sl_joinC 2 _ (by simp) 5 _ (by rfl) _ (by rfl)) Tryd.underlying77 (by rfl) (hi_NN _ _)) ?_
  refine L_freshX (vl := [.agg #[.slice (some ⟨g32, 0, none⟩) 24 cap_23, .slice (some ⟨g33, 0, none⟩) 24 cap_23b]]) 5 (fun g cap => .slice (some ⟨g, 0, none⟩) (48 + 48) cap) (fun cap cs => BB cs cap (48 + 48) (lo ((⟨Fp.n (num l_21), Fp.n (num l_22)⟩ : F2).b.val : Int) 48 ++ lo ((⟨Fp.n (num l_21), Fp.n (num l_22)⟩ : F2).a.val : Int) 48)) (by rfl) (by rfl) Want.none (by kernel_rfl) (by rfl)  (fun w h => l5_bytes (⟨Fp.n (num l_21), Fp.n (num l_22)⟩ : F2) _ _ _ _ _ _ w (hwb_23.num (h.blk 0 (by rfl)) (fv_rng _) (by omega)) (hwb_23b.num (h.blk 1 (by rfl)) (fv_rng _) (by omega)) (by omega) (by omega)) ?_; intro g34 cap_24 cs_24 hq_24
  refine L_val (.tuple #[.agg (c2 (⟨Fp.n (num l_21), Fp.n (num l_22)⟩ : F2)), .int .i64 0]) (by rfl) (by rfl) (gives_call (vl := [.slice (some ⟨g34, 0, none⟩) (48 + 48) cap_24]) (by kernel_rfl) (by rfl) (fun w h => read5 (⟨Fp.n (num l_21), Fp.n (num l_22)⟩ : F2) _ _ w (hG.keep h.below) (hq_24.reads (h.blk 0 (by rfl))) (by have := hq_24.le; omega))) ?_
  refine L_val (.tuple #[.agg (c2 (⟨Fp.n (num l_21), Fp.n (num l_22)⟩ : F2)), .int .i64 0]) (by rfl) (by rfl) (gives_value _ fun _ => by rfl) ?_
  refine L_val (.agg (c2 (⟨Fp.n (num l_21), Fp.n (num l_22)⟩ : F2))) (by rfl) (by rfl) (gives_value _ fun _ => by kernel_rfl) ?_
  refine L_val (.int .i64 0) (by rfl) (by rfl) (gives_value _ fun _ => by kernel_rfl) ?_
  refine L_val (.pointer (some ⟨g4, 60, none⟩)) (by rfl) (by rfl) (gives_value _ fun _ => by kernel_rfl) ?_
  refine L_storeA (t := 137) 30 g4 60 (joinA [(c2 (⟨Fp.n (num l_1), Fp.n (num l_2)⟩ : F2)), (c2 (⟨Fp.n (num l_5), Fp.n (num l_6)⟩ : F2)), (c2 (⟨Fp.n (num l_9), Fp.n (num l_10)⟩ : F2)), (c2 (⟨Fp.n (num l_13), Fp.n (num l_14)⟩ : F2)), (c2 (⟨Fp.n (num l_17), Fp.n (num l_18)⟩ : F2)), (c2 (0 : F2))]) (c2 (⟨Fp.n (num l_21), Fp.n (num l_22)⟩ : F2)) (joinA [(c2 (⟨Fp.n (num l_1), Fp.n (num l_2)⟩ : F2)), (c2 (⟨Fp.n (num l_5), Fp.n (num l_6)⟩ : F2)), (c2 (⟨Fp.n (num l_9), Fp.n (num l_10)⟩ : F2)), (c2 (⟨Fp.n (num l_13), Fp.n (num l_14)⟩ : F2)), (c2 (⟨Fp.n (num l_17), Fp.n (num l_18)⟩ : F2)), (c2 (⟨Fp.n (num l_21), Fp.n (num l_22)⟩ : F2))]) (by rfl) (by rfl) (by rfl) (by rfl) (by rfl) (hi_2 _) (by rw [joinC_size 12 _ (by simp [c2_size]), c2_size]; simp) (c2_one _) (spliceC' 12 _ (by simp [c2_size]) 5 _ (c2_size _) (by simp) _ (by rfl) _ (by rfl)) ?_
  simp only [List.set_cons_zero, List.set_cons_succ]
  refine L_end ?_
  intro w27 hw27
  change Code.wp _ _ _ _ _
  refine one_plain hw27 [0, 1, 2] (by rfl) ?_
  refine L_val (.int .i64 5) (by rfl) (by rfl) (gives_value _ fun _ => by rfl) ?_
  refine L_val (.int .i64 6) (by rfl) (by rfl) (gives_add (k := .i64) 5 1 6 (by rfl) (by rfl) (by rfl)) ?_
  refine L_val (.int .i64 6) (by rfl) (by rfl) (gives_value _ fun _ => by rfl) ?_
  refine L_end ?_
  intro w28 hw28
  refine rounds_next ?_
  refine wp_seq ?_
  refine seq_plain hw28 [0, 1] (by rfl) ?_
  refine L_val (.int .i64 6) (by rfl) (by rfl) (gives_value _ fun _ => by rfl) ?_
  refine L_val (.bool false) (by rfl) (by rfl) (gives_lss (k := .i64) 6 6 false (by rfl) (by rfl) (by rfl)) ?_
  refine L_end ?_
  intro w29 hw29
  refine wp_cond_false (fr_at _ _ (by rfl) _) ?_
  refine wp_exit ?_
  change Code.wp _ _ _ _ _
  change Code.wp _ _ _ _ _
  refine seq_flow (by kernel_rfl) hw29 [] [(g34, 5, cs_24), (g32, 100, cs_23), (g33, 100, cs_23b), (g31, 5, cs_22), (g30, 5, cs_21), (g29, 5, cs_20), (g27, 100, cs_19), (g28, 100, cs_19b), (g26, 5, cs_18), (g25, 5, cs_17), (g24, 5, cs_16), (g22, 100, cs_15), (g23, 100, cs_15b), (g21, 5, cs_14), (g20, 5, cs_13), (g19, 5, cs_12), (g17, 100, cs_11), (g18, 100, cs_11b), (g16, 5, cs_10), (g15, 5, cs_9), (g14, 5, cs_8), (g12, 100, cs_7), (g13, 100, cs_7b), (g11, 5, cs_6), (g10, 5, cs_5), (g9, 5, cs_4), (g7, 100, cs_3), (g8, 100, cs_3b), (g6, 5, cs_2), (g5, 5, cs_1), (g4, 137, (joinA [(c2 (⟨Fp.n (num l_1), Fp.n (num l_2)⟩ : F2)), (c2 (⟨Fp.n (num l_5), Fp.n (num l_6)⟩ : F2)), (c2 (⟨Fp.n (num l_9), Fp.n (num l_10)⟩ : F2)), (c2 (⟨Fp.n (num l_13), Fp.n (num l_14)⟩ : F2)), (c2 (⟨Fp.n (num l_17), Fp.n (num l_18)⟩ : F2)), (c2 (⟨Fp.n (num l_21), Fp.n (num l_22)⟩ : F2))])), (g3, 79, (joinA [#[.slice (some ⟨g7, 0, none⟩) 24 cap_3, .slice (some ⟨g8, 0, none⟩) 24 cap_3b], #[.slice (some ⟨g12, 0, none⟩) 24 cap_7, .slice (some ⟨g13, 0, none⟩) 24 cap_7b], #[.slice (some ⟨g17, 0, none⟩) 24 cap_11, .slice (some ⟨g18, 0, none⟩) 24 cap_11b], #[.slice (some ⟨g22, 0, none⟩) 24 cap_15, .slice (some ⟨g23, 0, none⟩) 24 cap_15b], #[.slice (some ⟨g27, 0, none⟩) 24 cap_19, .slice (some ⟨g28, 0, none⟩) 24 cap_19b], #[.slice (some ⟨g32, 0, none⟩) 24 cap_23, .slice (some ⟨g33, 0, none⟩) 24 cap_23b]]))] 18 (by rfl) ?_
  refine flow_take (i := 0) (.agg (joinA [#[.slice (some ⟨g7, 0, none⟩) 24 cap_3, .slice (some ⟨g8, 0, none⟩) 24 cap_3b], #[.slice (some ⟨g12, 0, none⟩) 24 cap_7, .slice (some ⟨g13, 0, none⟩) 24 cap_7b], #[.slice (some ⟨g17, 0, none⟩) 24 cap_11, .slice (some ⟨g18, 0, none⟩) 24 cap_11b], #[.slice (some ⟨g22, 0, none⟩) 24 cap_15, .slice (some ⟨g23, 0, none⟩) 24 cap_15b], #[.slice (some ⟨g27, 0, none⟩) 24 cap_19, .slice (some ⟨g28, 0, none⟩) 24 cap_19b], #[.slice (some ⟨g32, 0, none⟩) 24 cap_23, .slice (some ⟨g33, 0, none⟩) 24 cap_23b]])) (by rfl) (by kernel_rfl) (by kernel_rfl) (by kernel_rfl) (by rfl) (by kernel_rfl) (List.Sublist.cons_cons _ (List.Sublist.cons_cons _ (List.Sublist.cons_cons _ (List.Sublist.cons_cons _ (List.Sublist.cons_cons _ (List.Sublist.cons_cons _ (List.Sublist.cons_cons _ (List.Sublist.cons_cons _ (List.Sublist.cons_cons _ (List.Sublist.cons_cons _ (List.Sublist.cons_cons _ (List.Sublist.cons_cons _ (List.Sublist.cons_cons _ (List.Sublist.cons_cons _ (List.Sublist.cons_cons _ (List.Sublist.cons_cons _ (List.Sublist.cons_cons _ (List.Sublist.cons_cons _ (List.Sublist.cons_cons _ (List.Sublist.cons_cons _ (List.Sublist.cons_cons _ (List.Sublist.cons_cons _ (List.Sublist.cons_cons _ (List.Sublist.cons_cons _ (List.Sublist.cons_cons _ (List.Sublist.cons_cons _ (List.Sublist.cons_cons _ (List.Sublist.cons_cons _ (List.Sublist.cons_cons _ (List.Sublist.cons_cons _ (List.Sublist.cons_cons _ (List.Sublist.cons_cons _ (List.Sublist.cons _ (List.Sublist.cons _ (List.Sublist.refl _))))))))))))))))))))))))))))))))))) (gives_load g3 0 79 (joinA [#[.slice (some ⟨g7, 0, none⟩) 24 cap_3, .slice (some ⟨g8, 0, none⟩) 24 cap_3b], #[.slice (some ⟨g12, 0, none⟩) 24 cap_7, .slice (some ⟨g13, 0, none⟩) 24 cap_7b], #[.slice (some ⟨g17, 0, none⟩) 24 cap_11, .slice (some ⟨g18, 0, none⟩) 24 cap_11b], #[.slice (some ⟨g22, 0, none⟩) 24 cap_15, .slice (some ⟨g23, 0, none⟩) 24 cap_15b], #[.slice (some ⟨g27, 0, none⟩) 24 cap_19, .slice (some ⟨g28, 0, none⟩) 24 cap_19b], #[.slice (some ⟨g32, 0, none⟩) 24 cap_23, .slice (some ⟨g33, 0, none⟩) 24 cap_23b]]) (joinA [#[.slice (some ⟨g7, 0, none⟩) 24 cap_3, .slice (some ⟨g8, 0, none⟩) 24 cap_3b], #[.slice (some ⟨g12, 0, none⟩) 24 cap_7, .slice (some ⟨g13, 0, none⟩) 24 cap_7b], #[.slice (some ⟨g17, 0, none⟩) 24 cap_11, .slice (some ⟨g18, 0, none⟩) 24 cap_11b], #[.slice (some ⟨g22, 0, none⟩) 24 cap_15, .slice (some ⟨g23, 0, none⟩) 24 cap_15b], #[.slice (some ⟨g27, 0, none⟩) 24 cap_19, .slice (some ⟨g28, 0, none⟩) 24 cap_19b], #[.slice (some ⟨g32, 0, none⟩) 24 cap_23, .slice (some ⟨g33, 0, none⟩) 24 cap_23b]]) _ (by rfl) (fun _ h => h.blk 31 (by rfl)) (Sl.refl _) Tryd.underlying79 (by rfl) (hi_a 2 _ _ (by kernel_rfl) (by simp) rfl)) ?_
  refine flow_take (i := 1) (.pointer (some ⟨g4, 0, none⟩)) (by rfl) (by kernel_rfl) (by kernel_rfl) (by kernel_rfl) (by rfl) (by kernel_rfl) (List.Sublist.cons_cons _ (List.Sublist.cons_cons _ (List.Sublist.cons_cons _ (List.Sublist.cons_cons _ (List.Sublist.cons_cons _ (List.Sublist.cons_cons _ (List.Sublist.cons_cons _ (List.Sublist.cons_cons _ (List.Sublist.cons_cons _ (List.Sublist.cons_cons _ (List.Sublist.cons_cons _ (List.Sublist.cons_cons _ (List.Sublist.cons_cons _ (List.Sublist.cons_cons _ (List.Sublist.cons_cons _ (List.Sublist.cons_cons _ (List.Sublist.cons_cons _ (List.Sublist.cons_cons _ (List.Sublist.cons_cons _ (List.Sublist.cons_cons _ (List.Sublist.cons_cons _ (List.Sublist.cons_cons _ (List.Sublist.cons_cons _ (List.Sublist.cons_cons _ (List.Sublist.cons_cons _ (List.Sublist.cons_cons _ (List.Sublist.cons_cons _ (List.Sublist.cons_cons _ (List.Sublist.cons_cons _ (List.Sublist.cons_cons _ (List.Sublist.cons_cons _ (List.Sublist.cons_cons _ (List.Sublist.cons _ (List.Sublist.cons _ (List.Sublist.refl _))))))))))))))))))))))))))))))))))) (gives_value _ fun _ => by kernel_rfl) ?_
  refine flow_take (i := 2) (.agg (c2 (⟨Fp.n (num l_1), Fp.n (num l_2)⟩ : F2))) (by rfl) (by kernel_rfl) (by kernel_rfl) (by kernel_rfl) (by rfl) (by kernel_rfl) (List.Sublist.cons_cons _ (List.Sublist.cons_cons _ (List.Sublist.cons_cons _ (List.Sublist.cons_cons _ (List.Sublist.cons_cons _ (List.Sublist.cons_cons _ (List.Sublist.cons_cons _ (List.Sublist.cons_cons _ (List.Sublist.cons_cons _ (List.Sublist.cons_cons _ (List.Sublist.cons_cons _ (List.Sublist.cons_cons _ (List.Sublist.cons_cons _ (List.Sublist.cons_cons _ (List.Sublist.cons_cons _ (List.Sublist.cons_cons _ (List.Sublist.cons_cons _ (List.Sublist.cons_cons _ (List.Sublist.cons_cons _ (List.Sublist.cons_cons _ (List.Sublist.cons_cons _ (List.Sublist.cons_cons _ (List.Sublist.cons_cons _ (List.Sublist.cons_cons _ (List.Sublist.cons_cons _ (List.Sublist.cons_cons _ (List.Sublist.cons_cons _ (List.Sublist.cons_cons _ (List.Sublist.cons_cons _ (List.Sublist.cons_cons _ (List.Sublist.cons_cons _ (List.Sublist.cons_cons _ (List.Sublist.cons _ (List.Sublist.cons _ (List.Sublist.refl _))))))))))))))))))))))))))))))))))) (gives_load g4 0 137 (joinA [(c2 (⟨Fp.n (num l_1), Fp.n (num l_2)⟩ : F2)), (c2 (⟨Fp.n (num l_5), Fp.n (num l_6)⟩ : F2)), (c2 (⟨Fp.n (num l_9), Fp.n (num l_10)⟩ : F2)), (c2 (⟨Fp.n (num l_13), Fp.n (num l_14)⟩ : F2)), (c2 (⟨Fp.n (num l_17), Fp.n (num l_18)⟩ : F2)), (c2 (⟨Fp.n (num l_21), Fp.n (num l_22)⟩ : F2))]) (c2 (⟨Fp.n (num l_1), Fp.n (num l_2)⟩ : F2)) _ (by rfl) (fun _ h => h.blk 30 (by rfl)) (sl_joinC 12 _ (by simp [c2_size]) 0 _ (by rfl) _ (by rfl)) Tryd.underlying37 (by rfl) (hi_2 _)) ?_
  refine flow_take (i := 3) (.pointer (some ⟨g4, 24, none⟩)) (by rfl) (by kernel_rfl) (by kernel_rfl) (by kernel_rfl) (by rfl) (by kernel_rfl) (List.Sublist.cons_cons _ (List.Sublist.cons_cons _ (List.Sublist.cons_cons _ (List.Sublist.cons_cons _ (List.Sublist.cons_cons _ (List.Sublist.cons_cons _ (List.Sublist.cons_cons _ (List.Sublist.cons_cons _ (List.Sublist.cons_cons _ (List.Sublist.cons_cons _ (List.Sublist.cons_cons _ (List.Sublist.cons_cons _ (List.Sublist.cons_cons _ (List.Sublist.cons_cons _ (List.Sublist.cons_cons _ (List.Sublist.cons_cons _ (List.Sublist.cons_cons _ (List.Sublist.cons_cons _ (List.Sublist.cons_cons _ (List.Sublist.cons_cons _ (List.Sublist.cons_cons _ (List.Sublist.cons_cons _ (List.Sublist.cons_cons _ (List.Sublist.cons_cons _ (List.Sublist.cons_cons _ (List.Sublist.cons_cons _ (List.Sublist.cons_cons _ (List.Sublist.cons_cons _ (List.Sublist.cons_cons _ (List.Sublist.cons_cons _ (List.Sublist.cons_cons _ (List.Sublist.cons_cons _ (List.Sublist.cons _ (List.Sublist.cons _ (List.Sublist.refl _))))))))))))))))))))))))))))))))))) (gives_value _ fun _ => by kernel_rfl) ?_
  refine flow_take (i := 4) (.agg (c2 (⟨Fp.n (num l_9), Fp.n (num l_10)⟩ : F2))) (by rfl) (by kernel_rfl) (by kernel_rfl) (by kernel_rfl) (by rfl) (by kernel_rfl) (List.Sublist.cons_cons _ (List.Sublist.cons_cons _ (List.Sublist.cons_cons _ (List.Sublist.cons_cons _ (List.Sublist.cons_cons _ (List.Sublist.cons_cons _ (List.Sublist.cons_cons _ (List.Sublist.cons_cons _ (List.Sublist.cons_cons _ (List.Sublist.cons_cons _ (List.Sublist.cons_cons _ (List.Sublist.cons_cons _ (List.Sublist.cons_cons _ (List.Sublist.cons_cons _ (List.Sublist.cons_cons _ (List.Sublist.cons_cons _ (List.Sublist.cons_cons _ (List.Sublist.cons_cons _ (List.Sublist.cons_cons _ (List.Sublist.cons_cons _ (List.Sublist.cons_cons _ (List.Sublist.cons_cons _ (List.Sublist.cons_cons _ (List.Sublist.cons_cons _ (List.Sublist.cons_cons _ (List.Sublist.cons_cons _ (List.Sublist.cons_cons _ (List.Sublist.cons_cons _ (List.Sublist.cons_cons _ (List.Sublist.cons_cons _ (List.Sublist.cons_cons _ (List.Sublist.cons_cons _ (List.Sublist.cons _ (List.Sublist.cons _ (List.Sublist.refl _))))))))))))))))))))))))))))))))))) (gives_load g4 24 137 (joinA [(c2 (⟨Fp.n (num l_1), Fp.n (num l_2)⟩ : F2)), (c2 (⟨Fp.n (num l_5), Fp.n (num l_6)⟩ : F2)), (c2 (⟨Fp.n (num l_9), Fp.n (num l_10)⟩ : F2)), (c2 (⟨Fp.n (num l_13), Fp.n (num l_14)⟩ : F2)), (c2 (⟨Fp.n (num l_17), Fp.n (num l_18)⟩ : F2)), (c2 (⟨Fp.n (num l_21), Fp.n (num l_22)⟩ : F2))]) (c2 (⟨Fp.n (num l_9), Fp.n (num l_10)⟩ : F2)) _ (by rfl) (fun _ h => h.blk 30 (by rfl)) (sl_joinC 12 _ (by simp [c2_size]) 2 _ (by rfl) _ (by rfl)) Tryd.underlying37 (by rfl) (hi_2 _)) ?_
  refine flow_take (i := 5) (.pointer (some ⟨g4, 48, none⟩)) (by rfl) (by kernel_rfl) (by kernel_rfl) (by kernel_rfl) (by rfl) (by kernel_rfl) (List.Sublist.cons_cons _ (List.Sublist.cons_cons _ (List.Sublist.cons_cons _ (List.Sublist.cons_cons _ (List.Sublist.cons_cons _ (List.Sublist.cons_cons _ (List.Sublist.cons_cons _ (List.Sublist.cons_cons _ (List.Sublist.cons_cons _ (List.Sublist.cons_cons _ (List.Sublist.cons_cons _ (List.Sublist.cons_cons _ (List.Sublist.cons_cons _ (List.Sublist.cons_cons _ (List.Sublist.cons_cons _ (List.Sublist.cons_cons _ (List.Sublist.cons_cons _ (List.Sublist.cons_cons _ (List.Sublist.cons_cons _ (List.Sublist.cons_cons _ (List.Sublist.cons_cons _ (List.Sublist.cons_cons _ (List.Sublist.cons_cons _ (List.Sublist.cons_cons _ (List.Sublist.cons_cons _ (List.Sublist.cons_cons _ (List.Sublist.cons_cons _ (List.Sublist.cons_cons _ (List.Sublist.cons_cons _ (List.Sublist.cons_cons _ (List.Sublist.cons_cons _ (List.Sublist.cons_cons _ (List.Sublist.cons _ (List.Sublist.cons _ (List.Sublist.refl _))))))))))))))))))))))))))))))))))) (gives_value _ fun _ => by kernel_rfl) ?_
  refine flow_take (i := 6) (.agg (c2 (⟨Fp.n (num l_17), Fp.n (num l_18)⟩ : F2))) (by rfl) (by kernel_rfl) (by kernel_rfl) (by kernel_rfl) (by rfl) (by kernel_rfl) (List.Sublist.cons_cons _ (List.Sublist.cons_cons _ (List.Sublist.cons_cons _ (List.Sublist.cons_cons _ (List.Sublist.cons_cons _ (List.Sublist.cons_cons _ (List.Sublist.cons_cons _ (List.Sublist.cons_cons _ (List.Sublist.cons_cons _ (List.Sublist.cons_cons _ (List.Sublist.cons_cons _ (List.Sublist.cons_cons _ (List.Sublist.cons_cons _ (List.Sublist.cons_cons _ (List.Sublist.cons_cons _ (List.Sublist.cons_cons _ (List.Sublist.cons_cons _ (List.Sublist.cons_cons _ (List.Sublist.cons_cons _ (List.Sublist.cons_cons _ (List.Sublist.cons_cons _ (List.Sublist.cons_cons _ (List.Sublist.cons_cons _ (List.Sublist.cons_cons _ (List.Sublist.cons_cons _ (List.Sublist.cons_cons _ (List.Sublist.cons_cons _ (List.Sublist.cons_cons _ (List.Sublist.cons_cons _ (List.Sublist.cons_cons _ (List.Sublist.cons_cons _ (List.Sublist.cons_cons _ (List.Sublist.cons _ (List.Sublist.cons _ (List.Sublist.refl _))))))))))))))))))))))))))))))))))) (gives_load g4 48 137 (joinA [(c2 (⟨Fp.n (num l_1), Fp.n (num l_2)⟩ : F2)), (c2 (⟨Fp.n (num l_5), Fp.n (num l_6)⟩ : F2)), (c2 (⟨Fp.n (num l_9), Fp.n (num l_10)⟩ : F2)), (c2 (⟨Fp.n (num l_13), Fp.n (num l_14)⟩ : F2)), (c2 (⟨Fp.n (num l_17), Fp.n (num l_18)⟩ : F2)), (c2 (⟨Fp.n (num l_21), Fp.n (num l_22)⟩ : F2))]) (c2 (⟨Fp.n (num l_17), Fp.n (num l_18)⟩ : F2)) _ (by rfl) (fun _ h => h.blk 30 (by rfl)) (sl_joinC 12 _ (by simp [c2_size]) 4 _ (by rfl) _ (by rfl)) Tryd.underlying37 (by rfl) (hi_2 _)) ?_
  refine flow_take (i := 7) (.agg (c3 (⟨(⟨Fp.n (num l_1), Fp.n (num l_2)⟩ : F2), (⟨Fp.n (num l_9), Fp.n (num l_10)⟩ : F2), (⟨Fp.n (num l_17), Fp.n (num l_18)⟩ : F2)⟩ : C3))) (by rfl) (by kernel_rfl) (by kernel_rfl) (by kernel_rfl) (by rfl) (by kernel_rfl) (List.Sublist.cons_cons _ (List.Sublist.cons_cons _ (List.Sublist.cons_cons _ (List.Sublist.cons_cons _ (List.Sublist.cons_cons _ (List.Sublist.cons_cons _ (List.Sublist.cons_cons _ (List.Sublist.cons_cons _ (List.Sublist.cons_cons _ (List.Sublist.cons_cons _ (List.Sublist.cons_cons _ (List.Sublist.cons_cons _ (List.Sublist.cons_cons _ (List.Sublist.cons_cons _ (List.Sublist.cons_cons _ (List.Sublist.cons_cons _ (List.Sublist.cons_cons _ (List.Sublist.cons_cons _ (List.Sublist.cons_cons _ (List.Sublist.cons_cons _ (List.Sublist.cons_cons _ (List.Sublist.cons_cons _ (List.Sublist.cons_cons _ (List.Sublist.cons_cons _ (List.Sublist.cons_cons _ (List.Sublist.cons_cons _ (List.Sublist.cons_cons _ (List.Sublist.cons_cons _ (List.Sublist.cons_cons _ (List.Sublist.cons_cons _ (List.Sublist.cons_cons _ (List.Sublist.cons_cons _ (List.Sublist.cons _ (List.Sublist.cons _ (List.Sublist.refl _))))))))))))))))))))))))))))))))))) (gb_cubic [(0, (c2 (⟨Fp.n (num l_1), Fp.n (num l_2)⟩ : F2))), (1, (c2 (⟨Fp.n (num l_9), Fp.n (num l_10)⟩ : F2))), (2, (c2 (⟨Fp.n (num l_17), Fp.n (num l_18)⟩ : F2)))] ⟨congrArg some (c2_size _).symm, congrArg some (c2_size _).symm, congrArg some (c2_size _).symm, trivial⟩ (by rfl) (c3 (⟨(⟨Fp.n (num l_1), Fp.n (num l_2)⟩ : F2), (⟨Fp.n (num l_9), Fp.n (num l_10)⟩ : F2), (⟨Fp.n (num l_17), Fp.n (num l_18)⟩ : F2)⟩ : C3)) (by rfl)) ?_
  refine flow_take (i := 8) (.pointer (some ⟨g4, 12, none⟩)) (by rfl) (by kernel_rfl) (by kernel_rfl) (by kernel_rfl) (by rfl) (by kernel_rfl) (List.Sublist.cons_cons _ (List.Sublist.cons_cons _ (List.Sublist.cons_cons _ (List.Sublist.cons_cons _ (List.Sublist.cons_cons _ (List.Sublist.cons_cons _ (List.Sublist.cons_cons _ (List.Sublist.cons_cons _ (List.Sublist.cons_cons _ (List.Sublist.cons_cons _ (List.Sublist.cons_cons _ (List.Sublist.cons_cons _ (List.Sublist.cons_cons _ (List.Sublist.cons_cons _ (List.Sublist.cons_cons _ (List.Sublist.cons_cons _ (List.Sublist.cons_cons _ (List.Sublist.cons_cons _ (List.Sublist.cons_cons _ (List.Sublist.cons_cons _ (List.Sublist.cons_cons _ (List.Sublist.cons_cons _ (List.Sublist.cons_cons _ (List.Sublist.cons_cons _ (List.Sublist.cons_cons _ (List.Sublist.cons_cons _ (List.Sublist.cons_cons _ (List.Sublist.cons_cons _ (List.Sublist.cons_cons _ (List.Sublist.cons_cons _ (List.Sublist.cons_cons _ (List.Sublist.cons_cons _ (List.Sublist.cons _ (List.Sublist.cons _ (List.Sublist.refl _))))))))))))))))))))))))))))))))))) (gives_value _ fun _ => by kernel_rfl) ?_
  refine flow_take (i := 9) (.agg (c2 (⟨Fp.n (num l_5), Fp.n (num l_6)⟩ : F2))) (by rfl) (by kernel_rfl) (by kernel_rfl) (by kernel_rfl) (by rfl) (by kernel_rfl) (List.Sublist.cons_cons _ (List.Sublist.cons_cons _ (List.Sublist.cons_cons _ (List.Sublist.cons_cons _ (List.Sublist.cons_cons _ (List.Sublist.cons_cons _ (List.Sublist.cons_cons _ (List.Sublist.cons_cons _ (List.Sublist.cons_cons _ (List.Sublist.cons_cons _ (List.Sublist.cons_cons _ (List.Sublist.cons_cons _ (List.Sublist.cons_cons _ (List.Sublist.cons_cons _ (List.Sublist.cons_cons _ (List.Sublist.cons_cons _ (List.Sublist.cons_cons _ (List.Sublist.cons_cons _ (List.Sublist.cons_cons _ (List.Sublist.cons_cons _ (List.Sublist.cons_cons _ (List.Sublist.cons_cons _ (List.Sublist.cons_cons _ (List.Sublist.cons_cons _ (List.Sublist.cons_cons _ (List.Sublist.cons_cons _ (List.Sublist.cons_cons _ (List.Sublist.cons_cons _ (List.Sublist.cons_cons _ (List.Sublist.cons_cons _ (List.Sublist.cons_cons _ (List.Sublist.cons_cons _ (List.Sublist.cons _ (List.Sublist.cons _ (List.Sublist.refl _))))))))))))))))))))))))))))))))))) (gives_load g4 12 137 (joinA [(c2 (⟨Fp.n (num l_1), Fp.n (num l_2)⟩ : F2)), (c2 (⟨Fp.n (num l_5), Fp.n (num l_6)⟩ : F2)), (c2 (⟨Fp.n (num l_9), Fp.n (num l_10)⟩ : F2)), (c2 (⟨Fp.n (num l_13), Fp.n (num l_14)⟩ : F2)), (c2 (⟨Fp.n (num l_17), Fp.n (num l_18)⟩ : F2)), (c2 (⟨Fp.n (num l_21), Fp.n (num l_22)⟩ : F2))]) (c2 (⟨Fp.n (num l_5), Fp.n (num l_6)⟩ : F2)) _ (by rfl) (fun _ h => h.blk 30 (by rfl)) (sl_joinC 12 _ (by simp [c2_size]) 1 _ (by rfl) _ (by rfl)) Tryd.underlying37 (by rfl) (hi_2 _)) ?_
  refine flow_take (i := 10) (.pointer (some ⟨g4, 36, none⟩)) (by rfl) (by kernel_rfl) (by kernel_rfl) (by kernel_rfl) (by rfl) (by kernel_rfl) (List.Sublist.cons_cons _ (List.Sublist.cons_cons _ (List.Sublist.cons_cons _ (List.Sublist.cons_cons _ (List.Sublist.cons_cons _ (List.Sublist.cons_cons _ (List.Sublist.cons_cons _ (List.Sublist.cons_cons _ (List.Sublist.cons_cons _ (List.Sublist.cons_cons _ (List.Sublist.cons_cons _ (List.Sublist.cons_cons _ (List.Sublist.cons_cons _ (List.Sublist.cons_cons _ (List.Sublist.cons_cons _ (List.Sublist.cons_cons _ (List.Sublist.cons_cons _ (List.Sublist.cons_cons _ (List.Sublist.cons_cons _ (List.Sublist.cons_cons _ (List.Sublist.cons_cons _ (List.Sublist.cons_cons _ (List.Sublist.cons_cons _ (List.Sublist.cons_cons _ (List.Sublist.cons_cons _ (List.Sublist.cons_cons _ (List.Sublist.cons_cons _ (List.Sublist.cons_cons _ (List.Sublist.cons_cons _ (List.Sublist.cons_cons _ (List.Sublist.cons_cons _ (List.Sublist.cons_cons _ (List.Sublist.cons _ (List.Sublist.cons _ (List.Sublist.refl _))))))))))))))))))))))))))))))))))) (gives_value _ fun _ => by kernel_rfl) ?_
  refine flow_take (i := 11) (.agg (c2 (⟨Fp.n (num l_13), Fp.n (num l_14)⟩ : F2))) (by rfl) (by kernel_rfl) (by kernel_rfl) (by kernel_rfl) (by rfl) (by kernel_rfl) (List.Sublist.cons_cons _ (List.Sublist.cons_cons _ (List.Sublist.cons_cons _ (List.Sublist.cons_cons _ (List.Sublist.cons_cons _ (List.Sublist.cons_cons _ (List.Sublist.cons_cons _ (List.Sublist.cons_cons _ (List.Sublist.cons_cons _ (List.Sublist.cons_cons _ (List.Sublist.cons_cons _ (List.Sublist.cons_cons _ (List.Sublist.cons_cons _ (List.Sublist.cons_cons _ (List.Sublist.cons_cons _ (List.Sublist.cons_cons _ (List.Sublist.cons_cons _ (List.Sublist.cons_cons _ (List.Sublist.cons_cons _ (List.Sublist.cons_cons _ (List.Sublist.cons_cons _ (List.Sublist.cons_cons _ (List.Sublist.cons_cons _ (List.Sublist.cons_cons _ (List.Sublist.cons_cons _ (List.Sublist.cons_cons _ (List.Sublist.cons_cons _ (List.Sublist.cons_cons _ (List.Sublist.cons_cons _ (List.Sublist.cons_cons _ (List.Sublist.cons_cons _ (List.Sublist.cons_cons _ (List.Sublist.cons _ (List.Sublist.cons _ (List.Sublist.refl _))))))))))))))))))))))))))))))))))) (gives_load g4 36 137 (joinA [(c2 (⟨Fp.n (num l_1), Fp.n (num l_2)⟩ : F2)), (c2 (⟨Fp.n (num l_5), Fp.n (num l_6)⟩ : F2)), (c2 (⟨Fp.n (num l_9), Fp.n (num l_10)⟩ : F2)), (c2 (⟨Fp.n (num l_13), Fp.n (num l_14)⟩ : F2)), (c2 (⟨Fp.n (num l_17), Fp.n (num l_18)⟩ : F2)), (c2 (⟨Fp.n (num l_21), Fp.n (num l_22)⟩ : F2))]) (c2 (⟨Fp.n (num l_13), Fp.n (num l_14)⟩ : F2)) _ (by rfl) (fun _ h => h.blk 30 (by rfl)) (sl_joinC 12 _ (by simp [c2_size]) 3 _ (by rfl) _ (by rfl)) Tryd.underlying37 (by rfl) (hi_2 _)) ?_
  refine flow_take (i := 12) (.pointer (some ⟨g4, 60, none⟩)) (by rfl) (by kernel_rfl) (by kernel_rfl) (by kernel_rfl) (by rfl) (by kernel_rfl) (List.Sublist.cons_cons _ (List.Sublist.cons_cons _ (List.Sublist.cons_cons _ (List.Sublist.cons_cons _ (List.Sublist.cons_cons _ (List.Sublist.cons_cons _ (List.Sublist.cons_cons _ (List.Sublist.cons_cons _ (List.Sublist.cons_cons _ (List.Sublist.cons_cons _ (List.Sublist.cons_cons _ (List.Sublist.cons_cons _ (List.Sublist.cons_cons _ (List.Sublist.cons_cons _ (List.Sublist.cons_cons _ (List.Sublist.cons_cons _ (List.Sublist.cons_cons _ (List.Sublist.cons_cons _ (List.Sublist.cons_cons _ (List.Sublist.cons_cons _ (List.Sublist.cons_cons _ (List.Sublist.cons_cons _ (List.Sublist.cons_cons _ (List.Sublist.cons_cons _ (List.Sublist.cons_cons _ (List.Sublist.cons_cons _ (List.Sublist.cons_cons _ (List.Sublist.cons_cons _ (List.Sublist.cons_cons _ (List.Sublist.cons_cons _ (List.Sublist.cons_cons _ (List.Sublist.cons_cons _ (List.Sublist.cons _ (List.Sublist.cons _ (List.Sublist.refl _))))))))))))))))))))))))))))))))))) (gives_value _ fun _ => by kernel_rfl) ?_
  refine flow_take (i := 13) (.agg (c2 (⟨Fp.n (num l_21), Fp.n (num l_22)⟩ : F2))) (by rfl) (by kernel_rfl) (by kernel_rfl) (by kernel_rfl) (by rfl) (by kernel_rfl) (List.Sublist.cons_cons _ (List.Sublist.cons_cons _ (List.Sublist.cons_cons _ (List.Sublist.cons_cons _ (List.Sublist.cons_cons _ (List.Sublist.cons_cons _ (List.Sublist.cons_cons _ (List.Sublist.cons_cons _ (List.Sublist.cons_cons _ (List.Sublist.cons_cons _ (List.Sublist.cons_cons _ (List.Sublist.cons_cons _ (List.Sublist.cons_cons _ (List.Sublist.cons_cons _ (List.Sublist.cons_cons _ (List.Sublist.cons_cons _ (List.Sublist.cons_cons _ (List.Sublist.cons_cons _ (List.Sublist.cons_cons _ (List.Sublist.cons_cons _ (List.Sublist.cons_cons _ (List.Sublist.cons_cons _ (List.Sublist.cons_cons _ (List.Sublist.cons_cons _ (List.Sublist.cons_cons _ (List.Sublist.cons_cons _ (List.Sublist.cons_cons _ (List.Sublist.cons_cons _ (List.Sublist.cons_cons _ (List.Sublist.cons_cons _ (List.Sublist.cons_cons _ (List.Sublist.cons_cons _ (List.Sublist.cons _ (List.Sublist.cons _ (List.Sublist.refl _))))))))))))))))))))))))))))))))))) (gives_load g4 60 137 (joinA [(c2 (⟨Fp.n (num l_1), Fp.n (num l_2)⟩ : F2)), (c2 (⟨Fp.n (num l_5), Fp.n (num l_6)⟩ : F2)), (c2 (⟨Fp.n (num l_9), Fp.n (num l_10)⟩ : F2)), (c2 (⟨Fp.n (num l_13), Fp.n (num l_14)⟩ : F2)), (c2 (⟨Fp.n (num l_17), Fp.n (num l_18)⟩ : F2)), (c2 (⟨Fp.n (num l_21), Fp.n (num l_22)⟩ : F2))]) (c2 (⟨Fp.n (num l_21), Fp.n (num l_22)⟩ : F2)) _ (by rfl) (fun _ h => h.blk 30 (by rfl)) (sl_joinC 12 _ (by simp [c2_size]) 5 _ (by rfl) _ (by rfl)) Tryd.underlying37 (by rfl) (hi_2 _)) ?_
  refine flow_take (i := 14) (.agg (c3 (⟨(⟨Fp.n (num l_5), Fp.n (num l_6)⟩ : F2), (⟨Fp.n (num l_13), Fp.n (num l_14)⟩ : F2), (⟨Fp.n (num l_21), Fp.n (num l_22)⟩ : F2)⟩ : C3))) (by rfl) (by kernel_rfl) (by kernel_rfl) (by kernel_rfl) (by rfl) (by kernel_rfl) (List.Sublist.cons_cons _ (List.Sublist.cons_cons _ (List.Sublist.cons_cons _ (List.Sublist.cons_cons _ (List.Sublist.cons_cons _ (List.Sublist.cons_cons _ (List.Sublist.cons_cons _ (List.Sublist.cons_cons _ (List.Sublist.cons_cons _ (List.Sublist.cons_cons _ (List.Sublist.cons_cons _ (List.Sublist.cons_cons _ (List.Sublist.cons_cons _ (List.Sublist.cons_cons _ (List.Sublist.cons_cons _ (List.Sublist.cons_cons _ (List.Sublist.cons_cons _ (List.Sublist.cons_cons _ (List.Sublist.cons_cons _ (List.Sublist.cons_cons _ (List.Sublist.cons_cons _ (List.Sublist.cons_cons _ (List.Sublist.cons_cons _ (List.Sublist.cons_cons _ (List.Sublist.cons_cons _ (List.Sublist.cons_cons _ (List.Sublist.cons_cons _ (List.Sublist.cons_cons _ (List.Sublist.cons_cons _ (List.Sublist.cons_cons _ (List.Sublist.cons_cons _ (List.Sublist.cons_cons _ (List.Sublist.cons _ (List.Sublist.cons _ (List.Sublist.refl _))))))))))))))))))))))))))))))))))) (gb_cubic [(0, (c2 (⟨Fp.n (num l_5), Fp.n (num l_6)⟩ : F2))), (1, (c2 (⟨Fp.n (num l_13), Fp.n (num l_14)⟩ : F2))), (2, (c2 (⟨Fp.n (num l_21), Fp.n (num l_22)⟩ : F2)))] ⟨congrArg some (c2_size _).symm, congrArg some (c2_size _).symm, congrArg some (c2_size _).symm, trivial⟩ (by rfl) (c3 (⟨(⟨Fp.n (num l_5), Fp.n (num l_6)⟩ : F2), (⟨Fp.n (num l_13), Fp.n (num l_14)⟩ : F2), (⟨Fp.n (num l_21), Fp.n (num l_22)⟩ : F2)⟩ : C3)) (by rfl)) ?_
  refine flow_take (i := 15) (.agg (c12 (⟨(⟨(⟨Fp.n (num l_1), Fp.n (num l_2)⟩ : F2), (⟨Fp.n (num l_9), Fp.n (num l_10)⟩ : F2), (⟨Fp.n (num l_17), Fp.n (num l_18)⟩ : F2)⟩ : C3), (⟨(⟨Fp.n (num l_5), Fp.n (num l_6)⟩ : F2), (⟨Fp.n (num l_13), Fp.n (num l_14)⟩ : F2), (⟨Fp.n (num l_21), Fp.n (num l_22)⟩ : F2)⟩ : C3)⟩ : T12))) (by rfl) (by kernel_rfl) (by kernel_rfl) (by kernel_rfl) (by rfl) (by kernel_rfl) (List.Sublist.cons_cons _ (List.Sublist.cons_cons _ (List.Sublist.cons_cons _ (List.Sublist.cons_cons _ (List.Sublist.cons_cons _ (List.Sublist.cons_cons _ (List.Sublist.cons_cons _ (List.Sublist.cons_cons _ (List.Sublist.cons_cons _ (List.Sublist.cons_cons _ (List.Sublist.cons_cons _ (List.Sublist.cons_cons _ (List.Sublist.cons_cons _ (List.Sublist.cons_cons _ (List.Sublist.cons_cons _ (List.Sublist.cons_cons _ (List.Sublist.cons_cons _ (List.Sublist.cons_cons _ (List.Sublist.cons_cons _ (List.Sublist.cons_cons _ (List.Sublist.cons_cons _ (List.Sublist.cons_cons _ (List.Sublist.cons_cons _ (List.Sublist.cons_cons _ (List.Sublist.cons_cons _ (List.Sublist.cons_cons _ (List.Sublist.cons_cons _ (List.Sublist.cons_cons _ (List.Sublist.cons_cons _ (List.Sublist.cons_cons _ (List.Sublist.cons_cons _ (List.Sublist.cons_cons _ (List.Sublist.cons _ (List.Sublist.cons _ (List.Sublist.refl _))))))))))))))))))))))))))))))))))) (gb_tower [(0, (c3 (⟨(⟨Fp.n (num l_1), Fp.n (num l_2)⟩ : F2), (⟨Fp.n (num l_9), Fp.n (num l_10)⟩ : F2), (⟨Fp.n (num l_17), Fp.n (num l_18)⟩ : F2)⟩ : C3))), (1, (c3 (⟨(⟨Fp.n (num l_5), Fp.n (num l_6)⟩ : F2), (⟨Fp.n (num l_13), Fp.n (num l_14)⟩ : F2), (⟨Fp.n (num l_21), Fp.n (num l_22)⟩ : F2)⟩ : C3)))] ⟨congrArg some (c3_size _).symm, congrArg some (c3_size _).symm, trivial⟩ (by rfl) (c12 (⟨(⟨(⟨Fp.n (num l_1), Fp.n (num l_2)⟩ : F2), (⟨Fp.n (num l_9), Fp.n (num l_10)⟩ : F2), (⟨Fp.n (num l_17), Fp.n (num l_18)⟩ : F2)⟩ : C3), (⟨(⟨Fp.n (num l_5), Fp.n (num l_6)⟩ : F2), (⟨Fp.n (num l_13), Fp.n (num l_14)⟩ : F2), (⟨Fp.n (num l_21), Fp.n (num l_22)⟩ : F2)⟩ : C3)⟩ : T12)) (by rfl)) ?_
  refine flow_one 16 (by kernel_rfl) ?_
  refine F_store (t := 79) 33 g1 (joinA [#[.slice none 0 0, .slice none 0 0], #[.slice none 0 0, .slice none 0 0], #[.slice none 0 0, .slice none 0 0], #[.slice none 0 0, .slice none 0 0], #[.slice none 0 0, .slice none 0 0], #[.slice none 0 0, .slice none 0 0]]) (joinA [#[.slice (some ⟨g7, 0, none⟩) 24 cap_3, .slice (some ⟨g8, 0, none⟩) 24 cap_3b], #[.slice (some ⟨g12, 0, none⟩) 24 cap_7, .slice (some ⟨g13, 0, none⟩) 24 cap_7b], #[.slice (some ⟨g17, 0, none⟩) 24 cap_11, .slice (some ⟨g18, 0, none⟩) 24 cap_11b], #[.slice (some ⟨g22, 0, none⟩) 24 cap_15, .slice (some ⟨g23, 0, none⟩) 24 cap_15b], #[.slice (some ⟨g27, 0, none⟩) 24 cap_19, .slice (some ⟨g28, 0, none⟩) 24 cap_19b], #[.slice (some ⟨g32, 0, none⟩) 24 cap_23, .slice (some ⟨g33, 0, none⟩) 24 cap_23b]]) (by rfl) (by rfl) (by rfl) (by rfl) (by rfl) (hi_a 2 _ _ (by kernel_rfl) (by simp) rfl) (sz_aa 2 _ _ (by simp) (by simp) rfl) (one_join _ (by intro a ha; simp only [List.mem_cons, List.not_mem_nil, or_false] at ha; rcases ha with rfl | rfl | rfl | rfl | rfl | rfl <;> exact one_N (by rfl) (by rfl))) (.inr (List.Sublist.cons_cons _ (List.Sublist.cons_cons _ (List.Sublist.cons_cons _ (List.Sublist.cons_cons _ (List.Sublist.cons_cons _ (List.Sublist.cons_cons _ (List.Sublist.cons_cons _ (List.Sublist.cons_cons _ (List.Sublist.cons_cons _ (List.Sublist.cons_cons _ (List.Sublist.cons_cons _ (List.Sublist.cons_cons _ (List.Sublist.cons_cons _ (List.Sublist.cons_cons _ (List.Sublist.cons_cons _ (List.Sublist.cons_cons _ (List.Sublist.cons_cons _ (List.Sublist.cons_cons _ (List.Sublist.cons_cons _ (List.Sublist.cons_cons _ (List.Sublist.cons_cons _ (List.Sublist.cons_cons _ (List.Sublist.cons_cons _ (List.Sublist.cons_cons _ (List.Sublist.cons_cons _ (List.Sublist.cons_cons _ (List.Sublist.cons_cons _ (List.Sublist.cons_cons _ (List.Sublist.cons_cons _ (List.Sublist.cons_cons _ (List.Sublist.cons_cons _ (List.Sublist.cons_cons _ (List.Sublist.cons _ (List.Sublist.cons _ (List.Sublist.refl _)))))))))))))))))))))))))))))))))))) ?_
  simp only [List.set_cons_zero, List.set_cons_succ]
  refine flow_one 17 (by kernel_rfl) ?_
  refine F_store (t := 83) 32 g2 (c12 (0 : T12)) (c12 (⟨(⟨(⟨Fp.n (num l_1), Fp.n (num l_2)⟩ : F2), (⟨Fp.n (num l_9), Fp.n (num l_10)⟩ : F2), (⟨Fp.n (num l_17), Fp.n (num l_18)⟩ : F2)⟩ : C3), (⟨(⟨Fp.n (num l_5), Fp.n (num l_6)⟩ : F2), (⟨Fp.n (num l_13), Fp.n (num l_14)⟩ : F2), (⟨Fp.n (num l_21), Fp.n (num l_22)⟩ : F2)⟩ : C3)⟩ : T12)) (by rfl) (by rfl) (by rfl) (by rfl) (by rfl) (hi_12 _) ((c12_size _).trans (c12_size _).symm) (c12_one _) (.inr (List.Sublist.cons_cons _ (List.Sublist.cons_cons _ (List.Sublist.cons_cons _ (List.Sublist.cons_cons _ (List.Sublist.cons_cons _ (List.Sublist.cons_cons _ (List.Sublist.cons_cons _ (List.Sublist.cons_cons _ (List.Sublist.cons_cons _ (List.Sublist.cons_cons _ (List.Sublist.cons_cons _ (List.Sublist.cons_cons _ (List.Sublist.cons_cons _ (List.Sublist.cons_cons _ (List.Sublist.cons_cons _ (List.Sublist.cons_cons _ (List.Sublist.cons_cons _ (List.Sublist.cons_cons _ (List.Sublist.cons_cons _ (List.Sublist.cons_cons _ (List.Sublist.cons_cons _ (List.Sublist.cons_cons _ (List.Sublist.cons_cons _ (List.Sublist.cons_cons _ (List.Sublist.cons_cons _ (List.Sublist.cons_cons _ (List.Sublist.cons_cons _ (List.Sublist.cons_cons _ (List.Sublist.cons_cons _ (List.Sublist.cons_cons _ (List.Sublist.cons_cons _ (List.Sublist.cons_cons _ (List.Sublist.cons _ (List.Sublist.cons _ (List.Sublist.refl _)))))))))))))))))))))))))))))))))))) ?_
  simp only [List.set_cons_zero, List.set_cons_succ]
  refine flow_done (by kernel_rfl) ?_
  intro w30 hw30
  refine wp_ret ?_
  change bodyPost _ _ _ Exit.ret _ _
  refine (ret_cell_cell (by rfl) (by rfl) (by rfl) (by rfl) (hw30.blk 33 (by rfl)) (hw30.blk 32 (by rfl)) Tryd.underlying79 (by rfl) (hi_a 2 _ _ (by kernel_rfl) (by simp [mk6]) rfl) Tryd.underlying83 (by rfl) (hi_12 _) ⟨_, _, rfl, ⟨mk6 (#[.slice (some ⟨g7, 0, none⟩) 24 cap_3, .slice (some ⟨g8, 0, none⟩) 24 cap_3b]) (#[.slice (some ⟨g12, 0, none⟩) 24 cap_7, .slice (some ⟨g13, 0, none⟩) 24 cap_7b]) (#[.slice (some ⟨g17, 0, none⟩) 24 cap_11, .slice (some ⟨g18, 0, none⟩) 24 cap_11b]) (#[.slice (some ⟨g22, 0, none⟩) 24 cap_15, .slice (some ⟨g23, 0, none⟩) 24 cap_15b]) (#[.slice (some ⟨g27, 0, none⟩) 24 cap_19, .slice (some ⟨g28, 0, none⟩) 24 cap_19b]) (#[.slice (some ⟨g32, 0, none⟩) 24 cap_23, .slice (some ⟨g33, 0, none⟩) 24 cap_23b]), (⟨(⟨(⟨Fp.n (num l_1), Fp.n (num l_2)⟩ : F2), (⟨Fp.n (num l_9), Fp.n (num l_10)⟩ : F2), (⟨Fp.n (num l_17), Fp.n (num l_18)⟩ : F2)⟩ : C3), (⟨(⟨Fp.n (num l_5), Fp.n (num l_6)⟩ : F2), (⟨Fp.n (num l_13), Fp.n (num l_14)⟩ : F2), (⟨Fp.n (num l_21), Fp.n (num l_22)⟩ : F2)⟩ : C3)⟩ : T12), rfl, mk6_in (PIn.two 10 11 (by rfl) (by rfl) hwb_3 hwb_3b) (PIn.two 8 9 (by rfl) (by rfl) hwb_7 hwb_7b) (PIn.two 6 7 (by rfl) (by rfl) hwb_11 hwb_11b) (PIn.two 4 5 (by rfl) (by rfl) hwb_15 hwb_15b) (PIn.two 2 3 (by rfl) (by rfl) hwb_19 hwb_19b) (PIn.two 0 1 (by rfl) (by rfl) hwb_23 hwb_23b)⟩, hw30.sub (List.Sublist.cons _ (List.Sublist.cons_cons _ (List.Sublist.cons_cons _ (List.Sublist.cons _ (List.Sublist.cons _ (List.Sublist.cons _ (List.Sublist.cons_cons _ (List.Sublist.cons_cons _ (List.Sublist.cons _ (List.Sublist.cons _ (List.Sublist.cons _ (List.Sublist.cons_cons _ (List.Sublist.cons_cons _ (List.Sublist.cons _ (List.Sublist.cons _ (List.Sublist.cons _ (List.Sublist.cons_cons _ (List.Sublist.cons_cons _ (List.Sublist.cons _ (List.Sublist.cons _ (List.Sublist.cons _ (List.Sublist.cons_cons _ (List.Sublist.cons_cons _ (List.Sublist.cons _ (List.Sublist.cons _ (List.Sublist.cons _ (List.Sublist.cons_cons _ (List.Sublist.cons_cons _ (List.nil_sublist _)))))))))))))))))))))))))))))⟩)
theorem number6_any (A0 : Option Addr) (n0 c0 : Nat) (bs0 : List Int) (v : World) (hG : Glo v) (hr0 : Reads v v.heap.size A0 n0 (bs0.map (Value.int .u8))) (ho0 : Oct bs0) (hb0 : n0 ≤ 1099511627776) : RetsM QN 44 #[.slice A0 n0 c0] v := by
  by_cases h : n0 = 0
  · exact number6_0 A0 n0 c0 bs0 v hG hr0 ho0 hb0 h
  · exact number6_n A0 n0 c0 bs0 v hG hr0 ho0 hb0 (by omega)
set_option maxRecDepth 100000 in
set_option maxHeartbeats 4000000 in
theorem is6 (x : T12) (co : Nat → Array Value) (v : World) (hG : Glo v) (hc : SixAt v co (comp x)) : Rets 45 #[.agg (c12 x), .agg (six co)] v (.bool true) := by
  refine calls_fr2 Tryd.func45 rfl (by rfl : _ = 42) (by rfl) ?_
  have hw := Hbl.nil v
  refine seq_plain hw [0, 1, 2] (by rfl) ?_
  refine L_box (.agg (c12 (x))) (by rfl) (by rfl) (by rfl) (c12 (x)) (by rfl) ?_; intro g1
  refine L_box (.agg (six co)) (by rfl) (by rfl) (by rfl) (six co) (by rfl) ?_; intro g2
  refine L_val (.bool false) (by rfl) (by rfl) (gives_value _ fun _ => by rfl) ?_
  refine L_end ?_
  intro w1 hw1
  refine seq_plain hw1 [0, 1, 2, 3, 4, 5, 6, 7, 8, 9, 10, 11, 12, 13, 14, 15, 16, 17, 18, 19, 20] (by rfl) ?_
  refine L_val (.pointer (some ⟨g1, 0, none⟩)) (by rfl) (by rfl) (gives_value _ fun _ => by kernel_rfl) ?_
  refine L_val (.pointer (some ⟨g1, 0, none⟩)) (by rfl) (by rfl) (gives_value _ fun _ => by kernel_rfl) ?_
  refine L_val (.agg (c2 (((x).a).a))) (by rfl) (by rfl) (gives_load g1 0 83 (c12 (x)) (c2 (((x).a).a)) _ (by rfl) (fun _ h => h.blk 1 (by rfl)) (sl_3a ((x).a) _ _ (sl_12a (x) _ _ (Sl.refl _))) Tryd.underlying37 (by rfl) (hi_2 _)) ?_
  refine L_val (.pointer (some ⟨g1, 36, none⟩)) (by rfl) (by rfl) (gives_value _ fun _ => by kernel_rfl) ?_
  refine L_val (.pointer (some ⟨g1, 36, none⟩)) (by rfl) (by rfl) (gives_value _ fun _ => by kernel_rfl) ?_
  refine L_val (.agg (c2 (((x).b).a))) (by rfl) (by rfl) (gives_load g1 36 83 (c12 (x)) (c2 (((x).b).a)) _ (by rfl) (fun _ h => h.blk 1 (by rfl)) (sl_3a ((x).b) _ _ (sl_12b (x) _ _ 36 (Sl.refl _) (by rfl))) Tryd.underlying37 (by rfl) (hi_2 _)) ?_
  refine L_val (.pointer (some ⟨g1, 0, none⟩)) (by rfl) (by rfl) (gives_value _ fun _ => by kernel_rfl) ?_
  refine L_val (.pointer (some ⟨g1, 12, none⟩)) (by rfl) (by rfl) (gives_value _ fun _ => by kernel_rfl) ?_
  refine L_val (.agg (c2 (((x).a).b))) (by rfl) (by rfl) (gives_load g1 12 83 (c12 (x)) (c2 (((x).a).b)) _ (by rfl) (fun _ h => h.blk 1 (by rfl)) (sl_3b ((x).a) _ _ 12 (sl_12a (x) _ _ (Sl.refl _)) (by rfl)) Tryd.underlying37 (by rfl) (hi_2 _)) ?_
  refine L_val (.pointer (some ⟨g1, 36, none⟩)) (by rfl) (by rfl) (gives_value _ fun _ => by kernel_rfl) ?_
  refine L_val (.pointer (some ⟨g1, 48, none⟩)) (by rfl) (by rfl) (gives_value _ fun _ => by kernel_rfl) ?_
  refine L_val (.agg (c2 (((x).b).b))) (by rfl) (by rfl) (gives_load g1 48 83 (c12 (x)) (c2 (((x).b).b)) _ (by rfl) (fun _ h => h.blk 1 (by rfl)) (sl_3b ((x).b) _ _ 48 (sl_12b (x) _ _ 36 (Sl.refl _) (by rfl)) (by rfl)) Tryd.underlying37 (by rfl) (hi_2 _)) ?_
  refine L_val (.pointer (some ⟨g1, 0, none⟩)) (by rfl) (by rfl) (gives_value _ fun _ => by kernel_rfl) ?_
  refine L_val (.pointer (some ⟨g1, 24, none⟩)) (by rfl) (by rfl) (gives_value _ fun _ => by kernel_rfl) ?_
  refine L_val (.agg (c2 (((x).a).c))) (by rfl) (by rfl) (gives_load g1 24 83 (c12 (x)) (c2 (((x).a).c)) _ (by rfl) (fun _ h => h.blk 1 (by rfl)) (sl_3c ((x).a) _ _ 24 (sl_12a (x) _ _ (Sl.refl _)) (by rfl)) Tryd.underlying37 (by rfl) (hi_2 _)) ?_
  refine L_val (.pointer (some ⟨g1, 36, none⟩)) (by rfl) (by rfl) (gives_value _ fun _ => by kernel_rfl) ?_
  refine L_val (.pointer (some ⟨g1, 60, none⟩)) (by rfl) (by rfl) (gives_value _ fun _ => by kernel_rfl) ?_
  refine L_val (.agg (c2 (((x).b).c))) (by rfl) (by rfl) (gives_load g1 60 83 (c12 (x)) (c2 (((x).b).c)) _ (by rfl) (fun _ h => h.blk 1 (by rfl)) (sl_3c ((x).b) _ _ 60 (sl_12b (x) _ _ 36 (Sl.refl _) (by rfl)) (by rfl)) Tryd.underlying37 (by rfl) (hi_2 _)) ?_
  refine L_val (.agg (joinA [(c2 (((x).a).a)), (c2 (((x).b).a)), (c2 (((x).a).b)), (c2 (((x).b).b)), (c2 (((x).a).c)), (c2 (((x).b).c))])) (by rfl) (by rfl) (gives_buildA 6 12 _ Tryd.underlying137 z_a2 (by kernel_rfl) [c2 0, c2 0, c2 0, c2 0, c2 0, c2 0] (by simp [c2_size]) rfl [(0, (c2 (((x).a).a))), (1, (c2 (((x).b).a))), (2, (c2 (((x).a).b))), (3, (c2 (((x).b).b))), (4, (c2 (((x).a).c))), (5, (c2 (((x).b).c)))] (by simp [fits, c2_size]) (by rfl) (joinA [(c2 (((x).a).a)), (c2 (((x).b).a)), (c2 (((x).a).b)), (c2 (((x).b).b)), (c2 (((x).a).c)), (c2 (((x).b).c))]) (by rfl)) ?_
  refine L_alloc _ (by rfl) (by rfl) z_a2 (joinA [(c2 (0 : F2)), (c2 (0 : F2)), (c2 (0 : F2)), (c2 (0 : F2)), (c2 (0 : F2)), (c2 (0 : F2))]) rfl ?_; intro g3
  refine L_store (t := 137) 0 g3 (joinA [(c2 (0 : F2)), (c2 (0 : F2)), (c2 (0 : F2)), (c2 (0 : F2)), (c2 (0 : F2)), (c2 (0 : F2))]) (joinA [(c2 (((x).a).a)), (c2 (((x).b).a)), (c2 (((x).a).b)), (c2 (((x).b).b)), (c2 (((x).a).c)), (c2 (((x).b).c))]) (by rfl) (by rfl) (by rfl) (by rfl) (by rfl) (hi_a2 _ _ _ _ _ _) (sz_a2 _ _ _ _ _ _ _ _ _ _ _ _) (one_a2 _ _ _ _ _ _) ?_
  simp only [List.set_cons_zero, List.set_cons_succ]
  refine L_end ?_
  intro w2 hw2
  refine wp_seq ?_
  refine seq_plain hw2 [0] (by rfl) ?_
  refine L_val (.int .i64 0) (by rfl) (by rfl) (gives_value _ fun _ => by rfl) ?_
  refine L_end ?_
  intro w3 hw3
  refine wp_block ?_
  refine rounds_first 6 ?_
  refine seq_plain hw3 [0] (by rfl) ?_
  refine L_val (.bool true) (by rfl) (by rfl) (gives_lss (k := .i64) 0 6 true (by rfl) (by rfl) (by rfl)) ?_
  refine L_end ?_
  intro w4 hw4
  refine wp_seq ?_
  refine wp_cond_true (fr_at _ _ (by rfl) _) ?_
  refine wp_skip ?_
  change Code.wp _ _ _ _ _
  refine wp_seq ?_
  refine wp_block ?_
  refine seq_plain hw4 [0, 1] (by rfl) ?_
  refine L_val (.int .i64 0) (by rfl) (by rfl) (gives_value _ fun _ => by rfl) ?_
  refine L_val (.int .i64 0) (by rfl) (by rfl) (gives_value _ fun _ => by rfl) ?_
  refine L_end ?_
  intro w5 hw5
  refine seq_plain hw5 [0, 1, 2, 3, 4, 5] (by rfl) ?_
  refine L_val (.int .i64 0) (by rfl) (by rfl) (gives_value _ fun _ => by rfl) ?_
  refine L_val (.pointer (some ⟨g3, 0, none⟩)) (by rfl) (by rfl) (gives_value _ fun _ => by kernel_rfl) ?_
  refine L_val (.agg (c2 (((x).a).a))) (by rfl) (by rfl) (gives_load g3 0 137 (joinA [(c2 (((x).a).a)), (c2 (((x).b).a)), (c2 (((x).a).b)), (c2 (((x).b).b)), (c2 (((x).a).c)), (c2 (((x).b).c))]) (c2 (((x).a).a)) _ (by rfl) (fun _ h => h.blk 0 (by rfl)) (sl_joinC 12 _ (by simp [c2_size]) 0 _ (by rfl) _ (by rfl)) Tryd.underlying37 (by rfl) (hi_2 _)) ?_
  refine L_val (.agg (b96c (((x).a).a))) (by rfl) (by rfl) (gives_call (vl := [.agg (c2 (((x).a).a))]) (by kernel_rfl) (by rfl) (fun w h => q_bytes _ w (hG.keep h.below))) ?_
  refine L_alloc _ (by rfl) (by rfl) z_b96 (b96c (0 : F2)) rfl ?_; intro g4
  refine L_store (t := 126) 0 g4 (b96c (0 : F2)) (b96c (((x).a).a)) (by rfl) (by rfl) (by rfl) (by rfl) (by rfl) (hi_b96 _) ((b96c_size _).trans (b96c_size _).symm) (b96c_one _) ?_
  simp only [List.set_cons_zero, List.set_cons_succ]
  refine L_end ?_
  intro w6 hw6
  refine seq_flow (by kernel_rfl) hw6 [] ((g4, 126, (b96c (((x).a).a))) :: (g3, 137, (joinA [(c2 (((x).a).a)), (c2 (((x).b).a)), (c2 (((x).a).b)), (c2 (((x).b).b)), (c2 (((x).a).c)), (c2 (((x).b).c))])) :: (g2, 79, (six co)) :: (g1, 83, (c12 (x))) :: []) 7 (by rfl) ?_
  refine flow_take (i := 0) (.slice (some ⟨g4, 0, none⟩) 96 96) (by rfl) (by kernel_rfl) (by kernel_rfl) (by kernel_rfl) (by rfl) (by kernel_rfl) (List.Sublist.refl _) (gives_slice_arr g4 96 1 (by rfl) und_b96 u8_sz) ?_
  refine flow_take (i := 1) (.int .i64 0) (by rfl) (by kernel_rfl) (by kernel_rfl) (by kernel_rfl) (by rfl) (by kernel_rfl) (List.Sublist.refl _) (gives_value _ fun _ => by rfl) ?_
  refine flow_take (i := 2) (.pointer (some ⟨g2, 0, none⟩)) (by rfl) (by kernel_rfl) (by kernel_rfl) (by kernel_rfl) (by rfl) (by kernel_rfl) (List.Sublist.refl _) (gives_value _ fun _ => by kernel_rfl) ?_
  refine flow_take (i := 3) (.agg (co 0)) (by rfl) (by kernel_rfl) (by kernel_rfl) (by kernel_rfl) (by rfl) (by kernel_rfl) (List.Sublist.refl _) (gives_load g2 (0) 79 (six co) (co 0) _ (by rfl) (fun _ h => h.blk 2 (by rfl)) (six_at co hc.siz 0 (by omega)) Tryd.underlying77 (by rfl) (hi_P (hc.siz 0 (by omega)))) ?_
  refine flow_one 4 (by kernel_rfl) ?_
  refine F_freshX (vl := [.agg (co 0)]) 5 (fun g cap => .slice (some ⟨g, 0, none⟩) (48 + 48) cap) (fun cap cs => BB cs cap (48 + 48) (lo ((comp x 0).b.val : Int) 48 ++ lo ((comp x 0).a.val : Int) 48)) (by rfl) (by rfl) Want.none (by kernel_rfl) (by rfl) (List.Sublist.refl _) (fun w h => m5_bytes (comp x 0) _ w ((hc 0 (by omega)).of h)) ?_; intro g5 cap_1 cs_1 hq_1
  refine flow_one 5 (by kernel_rfl) ?_
  refine F_val (vl := [.slice (some ⟨g4, 0, none⟩) 96 96, .slice (some ⟨g5, 0, none⟩) (48 + 48) cap_1]) (.bool true) (by rfl) (by rfl) Want.none (by kernel_rfl) (by rfl) (List.Sublist.cons _ (List.Sublist.cons_cons _ (List.Sublist.cons_cons _ (List.Sublist.cons_cons _ (List.Sublist.cons_cons _ (List.Sublist.refl _)))))) (fun w h => n_same w _ _ _ _ _ _ (_) (lo ((comp x 0).b.val : Int) 48 ++ lo ((comp x 0).a.val : Int) 48) (all_reads (h.blk 1 (by rfl))) (hq_1.reads (h.blk 0 (by rfl))) (by omega) (by omega) rfl) ?_
  refine flow_take (i := 6) (.bool false) (by rfl) (by kernel_rfl) (by kernel_rfl) (by kernel_rfl) (by rfl) (by kernel_rfl) (List.Sublist.cons _ (List.Sublist.cons_cons _ (List.Sublist.cons_cons _ (List.Sublist.cons_cons _ (List.Sublist.cons_cons _ (List.Sublist.refl _)))))) (gives_value _ fun _ => by rfl) ?_
  refine flow_done (by kernel_rfl) ?_
  intro w7 hw7
  refine wp_cond_false (fr_at _ _ (by rfl) _) ?_
  refine wp_skip ?_
  change Code.wp _ _ _ _ _
  refine one_plain hw7 [0, 1] (by rfl) ?_
  refine L_val (.int .i64 1) (by rfl) (by rfl) (gives_add (k := .i64) 0 1 1 (by rfl) (by rfl) (by rfl)) ?_
  refine L_val (.int .i64 1) (by rfl) (by rfl) (gives_value _ fun _ => by rfl) ?_
  refine L_end ?_
  intro w8 hw8
  refine rounds_next ?_
  refine seq_plain hw8 [0] (by rfl) ?_
  refine L_val (.bool true) (by rfl) (by rfl) (gives_lss (k := .i64) 1 6 true (by rfl) (by rfl) (by rfl)) ?_
  refine L_end ?_
  intro w9 hw9
  refine wp_seq ?_
  refine wp_cond_true (fr_at _ _ (by rfl) _) ?_
  refine wp_skip ?_
  change Code.wp _ _ _ _ _
  refine wp_seq ?_
  refine wp_block ?_
  refine seq_plain hw9 [0, 1] (by rfl) ?_
  refine L_val (.int .i64 1) (by rfl) (by rfl) (gives_value _ fun _ => by rfl) ?_
  refine L_val (.int .i64 1) (by rfl) (by rfl) (gives_value _ fun _ => by rfl) ?_
  refine L_end ?_
  intro w10 hw10
  refine seq_plain hw10 [0, 1, 2, 3, 4, 5] (by rfl) ?_
  refine L_val (.int .i64 1) (by rfl) (by rfl) (gives_value _ fun _ => by rfl) ?_
  refine L_val (.pointer (some ⟨g3, 12, none⟩)) (by rfl) (by rfl) (gives_value _ fun _ => by kernel_rfl) ?_
  refine L_val (.agg (c2 (((x).b).a))) (by rfl) (by rfl) (gives_load g3 12 137 (joinA [(c2 (((x).a).a)), (c2 (((x).b).a)), (c2 (((x).a).b)), (c2 (((x).b).b)), (c2 (((x).a).c)), (c2 (((x).b).c))]) (c2 (((x).b).a)) _ (by rfl) (fun _ h => h.blk 2 (by rfl)) (sl_joinC 12 _ (by simp [c2_size]) 1 _ (by rfl) _ (by rfl)) Tryd.underlying37 (by rfl) (hi_2 _)) ?_
  refine L_val (.agg (b96c (((x).b).a))) (by rfl) (by rfl) (gives_call (vl := [.agg (c2 (((x).b).a))]) (by kernel_rfl) (by rfl) (fun w h => q_bytes _ w (hG.keep h.below))) ?_
  refine L_alloc _ (by rfl) (by rfl) z_b96 (b96c (0 : F2)) rfl ?_; intro g6
  refine L_store (t := 126) 0 g6 (b96c (0 : F2)) (b96c (((x).b).a)) (by rfl) (by rfl) (by rfl) (by rfl) (by rfl) (hi_b96 _) ((b96c_size _).trans (b96c_size _).symm) (b96c_one _) ?_
  simp only [List.set_cons_zero, List.set_cons_succ]
  refine L_end ?_
  intro w11 hw11
  refine seq_flow (by kernel_rfl) hw11 [] ((g6, 126, (b96c (((x).b).a))) :: (g5, 5, cs_1) :: (g4, 126, (b96c (((x).a).a))) :: (g3, 137, (joinA [(c2 (((x).a).a)), (c2 (((x).b).a)), (c2 (((x).a).b)), (c2 (((x).b).b)), (c2 (((x).a).c)), (c2 (((x).b).c))])) :: (g2, 79, (six co)) :: (g1, 83, (c12 (x))) :: []) 7 (by rfl) ?_
  refine flow_take (i := 0) (.slice (some ⟨g6, 0, none⟩) 96 96) (by rfl) (by kernel_rfl) (by kernel_rfl) (by kernel_rfl) (by rfl) (by kernel_rfl) (List.Sublist.refl _) (gives_slice_arr g6 96 1 (by rfl) und_b96 u8_sz) ?_
  refine flow_take (i := 1) (.int .i64 1) (by rfl) (by kernel_rfl) (by kernel_rfl) (by kernel_rfl) (by rfl) (by kernel_rfl) (List.Sublist.refl _) (gives_value _ fun _ => by rfl) ?_
  refine flow_take (i := 2) (.pointer (some ⟨g2, 2, none⟩)) (by rfl) (by kernel_rfl) (by kernel_rfl) (by kernel_rfl) (by rfl) (by kernel_rfl) (List.Sublist.refl _) (gives_value _ fun _ => by kernel_rfl) ?_
  refine flow_take (i := 3) (.agg (co 1)) (by rfl) (by kernel_rfl) (by kernel_rfl) (by kernel_rfl) (by rfl) (by kernel_rfl) (List.Sublist.refl _) (gives_load g2 (2) 79 (six co) (co 1) _ (by rfl) (fun _ h => h.blk 4 (by rfl)) (six_at co hc.siz 1 (by omega)) Tryd.underlying77 (by rfl) (hi_P (hc.siz 1 (by omega)))) ?_
  refine flow_one 4 (by kernel_rfl) ?_
  refine F_freshX (vl := [.agg (co 1)]) 5 (fun g cap => .slice (some ⟨g, 0, none⟩) (48 + 48) cap) (fun cap cs => BB cs cap (48 + 48) (lo ((comp x 1).b.val : Int) 48 ++ lo ((comp x 1).a.val : Int) 48)) (by rfl) (by rfl) Want.none (by kernel_rfl) (by rfl) (List.Sublist.refl _) (fun w h => m5_bytes (comp x 1) _ w ((hc 1 (by omega)).of h)) ?_; intro g7 cap_2 cs_2 hq_2
  refine flow_one 5 (by kernel_rfl) ?_
  refine F_val (vl := [.slice (some ⟨g6, 0, none⟩) 96 96, .slice (some ⟨g7, 0, none⟩) (48 + 48) cap_2]) (.bool true) (by rfl) (by rfl) Want.none (by kernel_rfl) (by rfl) (List.Sublist.cons _ (List.Sublist.cons_cons _ (List.Sublist.cons_cons _ (List.Sublist.cons_cons _ (List.Sublist.cons_cons _ (List.Sublist.cons_cons _ (List.Sublist.cons_cons _ (List.Sublist.refl _)))))))) (fun w h => n_same w _ _ _ _ _ _ (_) (lo ((comp x 1).b.val : Int) 48 ++ lo ((comp x 1).a.val : Int) 48) (all_reads (h.blk 1 (by rfl))) (hq_2.reads (h.blk 0 (by rfl))) (by omega) (by omega) rfl) ?_
  refine flow_take (i := 6) (.bool false) (by rfl) (by kernel_rfl) (by kernel_rfl) (by kernel_rfl) (by rfl) (by kernel_rfl) (List.Sublist.cons _ (List.Sublist.cons_cons _ (List.Sublist.cons_cons _ (List.Sublist.cons_cons _ (List.Sublist.cons_cons _ (List.Sublist.cons_cons _ (List.Sublist.cons_cons _ (List.Sublist.refl _)))))))) (gives_value _ fun _ => by rfl) ?_
  refine flow_done (by kernel_rfl) ?_
  intro w12 hw12
  refine wp_cond_false (fr_at _ _ (by rfl) _) ?_
  refine wp_skip ?_
  change Code.wp _ _ _ _ _
  refine one_plain hw12 [0, 1] (by rfl) ?_
  refine L_val (.int .i64 2) (by rfl) (by rfl) (gives_add (k := .i64) 1 1 2 (by rfl) (by rfl) (by rfl)) ?_
  refine L_val (.int .i64 2) (by rfl) (by rfl) (gives_value _ fun _ => by rfl) ?_
  refine L_end ?_
  intro w13 hw13
  refine rounds_next ?_
  refine seq_plain hw13 [0] (by rfl) ?_
  refine L_val (.bool true) (by rfl) (by rfl) (gives_lss (k := .i64) 2 6 true (by rfl) (by rfl) (by rfl)) ?_
  refine L_end ?_
  intro w14 hw14
  refine wp_seq ?_
  refine wp_cond_true (fr_at _ _ (by rfl) _) ?_
  refine wp_skip ?_
  change Code.wp _ _ _ _ _
  refine wp_seq ?_
  refine wp_block ?_
  refine seq_plain hw14 [0, 1] (by rfl) ?_
  refine L_val (.int .i64 2) (by rfl) (by rfl) (gives_value _ fun _ => by rfl) ?_
  refine L_val (.int .i64 2) (by rfl) (by rfl) (gives_value _ fun _ => by rfl) ?_
  refine L_end ?_
  intro w15 hw15
  refine seq_plain hw15 [0, 1, 2, 3, 4, 5] (by rfl) ?_
  refine L_val (.int .i64 2) (by rfl) (by rfl) (gives_value _ fun _ => by rfl) ?_
  refine L_val (.pointer (some ⟨g3, 24, none⟩)) (by rfl) (by rfl) (gives_value _ fun _ => by kernel_rfl) ?_
  refine L_val (.agg (c2 (((x).a).b))) (by rfl) (by rfl) (gives_load g3 24 137 (joinA [(c2 (((x).a).a)), (c2 (((x).b).a)), (c2 (((x).a).b)), (c2 (((x).b).b)), (c2 (((x).a).c)), (c2 (((x).b).c))]) (c2 (((x).a).b)) _ (by rfl) (fun _ h => h.blk 4 (by rfl)) (sl_joinC 12 _ (by simp [c2_size]) 2 _ (by rfl) _ (by rfl)) Tryd.underlying37 (by rfl) (hi_2 _)) ?_
  refine L_val (.agg (b96c (((x).a).b))) (by rfl) (by rfl) (gives_call (vl := [.agg (c2 (((x).a).b))]) (by kernel_rfl) (by rfl) (fun w h => q_bytes _ w (hG.keep h.below))) ?_
  refine L_alloc _ (by rfl) (by rfl) z_b96 (b96c (0 : F2)) rfl ?_; intro g8
  refine L_store (t := 126) 0 g8 (b96c (0 : F2)) (b96c (((x).a).b)) (by rfl) (by rfl) (by rfl) (by rfl) (by rfl) (hi_b96 _) ((b96c_size _).trans (b96c_size _).symm) (b96c_one _) ?_
  simp only [List.set_cons_zero, List.set_cons_succ]
  refine L_end ?_
  intro w16 hw16
  refine seq_flow (by kernel_rfl) hw16 [] ((g8, 126, (b96c (((x).a).b))) :: (g7, 5, cs_2) :: (g6, 126, (b96c (((x).b).a))) :: (g5, 5, cs_1) :: (g4, 126, (b96c (((x).a).a))) :: (g3, 137, (joinA [(c2 (((x).a).a)), (c2 (((x).b).a)), (c2 (((x).a).b)), (c2 (((x).b).b)), (c2 (((x).a).c)), (c2 (((x).b).c))])) :: (g2, 79, (six co)) :: (g1, 83, (c12 (x))) :: []) 7 (by rfl) ?_
  refine flow_take (i := 0) (.slice (some ⟨g8, 0, none⟩) 96 96) (by rfl) (by kernel_rfl) (by kernel_rfl) (by kernel_rfl) (by rfl) (by kernel_rfl) (List.Sublist.refl _) (gives_slice_arr g8 96 1 (by rfl) und_b96 u8_sz) ?_
  refine flow_take (i := 1) (.int .i64 2) (by rfl) (by kernel_rfl) (by kernel_rfl) (by kernel_rfl) (by rfl) (by kernel_rfl) (List.Sublist.refl _) (gives_value _ fun _ => by rfl) ?_
  refine flow_take (i := 2) (.pointer (some ⟨g2, 4, none⟩)) (by rfl) (by kernel_rfl) (by kernel_rfl) (by kernel_rfl) (by rfl) (by kernel_rfl) (List.Sublist.refl _) (gives_value _ fun _ => by kernel_rfl) ?_
  refine flow_take (i := 3) (.agg (co 2)) (by rfl) (by kernel_rfl) (by kernel_rfl) (by kernel_rfl) (by rfl) (by kernel_rfl) (List.Sublist.refl _) (gives_load g2 (4) 79 (six co) (co 2) _ (by rfl) (fun _ h => h.blk 6 (by rfl)) (six_at co hc.siz 2 (by omega)) Tryd.underlying77 (by rfl) (hi_P (hc.siz 2 (by omega)))) ?_
  refine flow_one 4 (by kernel_rfl) ?_
  refine F_freshX (vl := [.agg (co 2)]) 5 (fun g cap => .slice (some ⟨g, 0, none⟩) (48 + 48) cap) (fun cap cs => BB cs cap (48 + 48) (lo ((comp x 2).b.val : Int) 48 ++ lo ((comp x 2).a.val : Int) 48)) (by rfl) (by rfl) Want.none (by kernel_rfl) (by rfl) (List.Sublist.refl _) (fun w h => m5_bytes (comp x 2) _ w ((hc 2 (by omega)).of h)) ?_; intro g9 cap_3 cs_3 hq_3
  refine flow_one 5 (by kernel_rfl) ?_
  refine F_val (vl := [.slice (some ⟨g8, 0, none⟩) 96 96, .slice (some ⟨g9, 0, none⟩) (48 + 48) cap_3]) (.bool true) (by rfl) (by rfl) Want.none (by kernel_rfl) (by rfl) (List.Sublist.cons _ (List.Sublist.cons_cons _ (List.Sublist.cons_cons _ (List.Sublist.cons_cons _ (List.Sublist.cons_cons _ (List.Sublist.cons_cons _ (List.Sublist.cons_cons _ (List.Sublist.cons_cons _ (List.Sublist.cons_cons _ (List.Sublist.refl _)))))))))) (fun w h => n_same w _ _ _ _ _ _ (_) (lo ((comp x 2).b.val : Int) 48 ++ lo ((comp x 2).a.val : Int) 48) (all_reads (h.blk 1 (by rfl))) (hq_3.reads (h.blk 0 (by rfl))) (by omega) (by omega) rfl) ?_
  refine flow_take (i := 6) (.bool false) (by rfl) (by kernel_rfl) (by kernel_rfl) (by kernel_rfl) (by rfl) (by kernel_rfl) (List.Sublist.cons _ (List.Sublist.cons_cons _ (List.Sublist.cons_cons _ (List.Sublist.cons_cons _ (List.Sublist.cons_cons _ (List.Sublist.cons_cons _ (List.Sublist.cons_cons _ (List.Sublist.cons_cons _ (List.Sublist.cons_cons _ (List.Sublist.refl _)))))))))) (gives_value _ fun _ => by rfl) ?_
  refine flow_done (by kernel_rfl) ?_
  intro w17 hw17
  refine wp_cond_false (fr_at _ _ (by rfl) _) ?_
  refine wp_skip ?_
  change Code.wp _ _ _ _ _
  refine one_plain hw17 [0, 1] (by rfl) ?_
  refine L_val (.int .i64 3) (by rfl) (by rfl) (gives_add (k := .i64) 2 1 3 (by rfl) (by rfl) (by rfl)) ?_
  refine L_val (.int .i64 3) (by rfl) (by rfl) (gives_value _ fun _ => by rfl) ?_
  refine L_end ?_
  intro w18 hw18
  refine rounds_next ?_
  refine seq_plain hw18 [0] (by rfl) ?_
  refine L_val (.bool true) (by rfl) (by rfl) (gives_lss (k := .i64) 3 6 true (by rfl) (by rfl) (by rfl)) ?_
  refine L_end ?_
  intro w19 hw19
  refine wp_seq ?_
  refine wp_cond_true (fr_at _ _ (by rfl) _) ?_
  refine wp_skip ?_
  change Code.wp _ _ _ _ _
  refine wp_seq ?_
  refine wp_block ?_
  refine seq_plain hw19 [0, 1] (by rfl) ?_
  refine L_val (.int .i64 3) (by rfl) (by rfl) (gives_value _ fun _ => by rfl) ?_
  refine L_val (.int .i64 3) (by rfl) (by rfl) (gives_value _ fun _ => by rfl) ?_
  refine L_end ?_
  intro w20 hw20
  refine seq_plain hw20 [0, 1, 2, 3, 4, 5] (by rfl) ?_
  refine L_val (.int .i64 3) (by rfl) (by rfl) (gives_value _ fun _ => by rfl) ?_
  refine L_val (.pointer (some ⟨g3, 36, none⟩)) (by rfl) (by rfl) (gives_value _ fun _ => by kernel_rfl) ?_
  refine L_val (.agg (c2 (((x).b).b))) (by rfl) (by rfl) (gives_load g3 36 137 (joinA [(c2 (((x).a).a)), (c2 (((x).b).a)), (c2 (((x).a).b)), (c2 (((x).b).b)), (c2 (((x).a).c)), (c2 (((x).b).c))]) (c2 (((x).b).b)) _ (by rfl) (fun _ h => h.blk 6 (by rfl)) (sl_joinC 12 _ (by simp [c2_size]) 3 _ (by rfl) _ (by rfl)) Tryd.underlying37 (by rfl) (hi_2 _)) ?_
  refine L_val (.agg (b96c (((x).b).b))) (by rfl) (by rfl) (gives_call (vl := [.agg (c2 (((x).b).b))]) (by kernel_rfl) (by rfl) (fun w h => q_bytes _ w (hG.keep h.below))) ?_
  refine L_alloc _ (by rfl) (by rfl) z_b96 (b96c (0 : F2)) rfl ?_; intro g10
  refine L_store (t := 126) 0 g10 (b96c (0 : F2)) (b96c (((x).b).b)) (by rfl) (by rfl) (by rfl) (by rfl) (by rfl) (hi_b96 _) ((b96c_size _).trans (b96c_size _).symm) (b96c_one _) ?_
  simp only [List.set_cons_zero, List.set_cons_succ]
  refine L_end ?_
  intro w21 hw21
  refine seq_flow (by kernel_rfl) hw21 [] ((g10, 126, (b96c (((x).b).b))) :: (g9, 5, cs_3) :: (g8, 126, (b96c (((x).a).b))) :: (g7, 5, cs_2) :: (g6, 126, (b96c (((x).b).a))) :: (g5, 5, cs_1) :: (g4, 126, (b96c (((x).a).a))) :: (g3, 137, (joinA [(c2 (((x).a).a)), (c2 (((x).b).a)), (c2 (((x).a).b)), (c2 (((x).b).b)), (c2 (((x).a).c)), (c2 (((x).b).c))])) :: (g2, 79, (six co)) :: (g1, 83, (c12 (x))) :: []) 7 (by rfl) ?_
  refine flow_take (i := 0) (.slice (some ⟨g10, 0, none⟩) 96 96) (by rfl) (by kernel_rfl) (by kernel_rfl) (by kernel_rfl) (by rfl) (by kernel_rfl) (List.Sublist.refl _) (gives_slice_arr g10 96 1 (by rfl) und_b96 u8_sz) ?_
  refine flow_take (i := 1) (.int .i64 3) (by rfl) (by kernel_rfl) (by kernel_rfl) (by kernel_rfl) (by rfl) (by kernel_rfl) (List.Sublist.refl _) (gives_value _ fun _ => by rfl) ?_
  refine flow_take (i := 2) (.pointer (some ⟨g2, 6, none⟩)) (by rfl) (by kernel_rfl) (by kernel_rfl) (by kernel_rfl) (by rfl) (by kernel_rfl) (List.Sublist.refl _) (gives_value _ fun _ => by kernel_rfl) ?_
  refine flow_take (i := 3) (.agg (co 3)) (by rfl) (by kernel_rfl) (by kernel_rfl) (by kernel_rfl) (by rfl) (by kernel_rfl) (List.Sublist.refl _) (gives_load g2 (6) 79 (six co) (co 3) _ (by rfl) (fun _ h => h.blk 8 (by rfl)) (six_at co hc.siz 3 (by omega)) Tryd.underlying77 (by rfl) (hi_P (hc.siz 3 (by omega)))) ?_
  refine flow_one 4 (by kernel_rfl) ?_
  refine F_freshX (vl := [.agg (co 3)]) 5 (fun g cap => .slice (some ⟨g, 0, none⟩) (48 + 48) cap) (fun cap cs => BB cs cap (48 + 48) (lo ((comp x 3).b.val : Int) 48 ++ lo ((comp x 3).a.val : Int) 48)) (by rfl) (by rfl) Want.none (by kernel_rfl) (by rfl) (List.Sublist.refl _) (fun w h => m5_bytes (comp x 3) _ w ((hc 3 (by omega)).of h)) ?_; intro g11 cap_4 cs_4 hq_4
  refine flow_one 5 (by kernel_rfl) ?_
  refine F_val (vl := [.slice (some ⟨g10, 0, none⟩) 96 96, .slice (some ⟨g11, 0, none⟩) (48 + 48) cap_4]) (.bool true) (by rfl) (by rfl) Want.none (by kernel_rfl) (by rfl) (List.Sublist.cons _ (List.Sublist.cons_cons _ (List.Sublist.cons_cons _ (List.Sublist.cons_cons _ (List.Sublist.cons_cons _ (List.Sublist.cons_cons _ (List.Sublist.cons_cons _ (List.Sublist.cons_cons _ (List.Sublist.cons_cons _ (List.Sublist.cons_cons _ (List.Sublist.cons_cons _ (List.Sublist.refl _)))))))))))) (fun w h => n_same w _ _ _ _ _ _ (_) (lo ((comp x 3).b.val : Int) 48 ++ lo ((comp x 3).a.val : Int) 48) (all_reads (h.blk 1 (by rfl))) (hq_4.reads (h.blk 0 (by rfl))) (by omega) (by omega) rfl) ?_
  refine flow_take (i := 6) (.bool false) (by rfl) (by kernel_rfl) (by kernel_rfl) (by kernel_rfl) (by rfl) (by kernel_rfl) (List.Sublist.cons _ (List.Sublist.cons_cons _ (List.Sublist.cons_cons _ (List.Sublist.cons_cons _ (List.Sublist.cons_cons _ (List.Sublist.cons_cons _ (List.Sublist.cons_cons _ (List.Sublist.cons_cons _ (List.Sublist.cons_cons _ (List.Sublist.cons_cons _ (List.Sublist.cons_cons _ (List.Sublist.refl _)))))))))))) (gives_value _ fun _ => by rfl) ?_
  refine flow_done (by kernel_rfl) ?_
  intro w22 hw22
  refine wp_cond_false (fr_at _ _ (by rfl) _) ?_
  refine wp_skip ?_
  change Code.wp _ _ _ _ _
  refine one_plain hw22 [0, 1] (by rfl) ?_
  refine L_val (.int .i64 4) (by rfl) (by rfl) (gives_add (k := .i64) 3 1 4 (by rfl) (by rfl) (by rfl)) ?_
  refine L_val (.int .i64 4) (by rfl) (by rfl) (gives_value _ fun _ => by rfl) ?_
  refine L_end ?_
  intro w23 hw23
  refine rounds_next ?_
  refine seq_plain hw23 [0] (by rfl) ?_
  refine L_val (.bool true) (by rfl) (by rfl) (gives_lss (k := .i64) 4 6 true (by rfl) (by rfl) (by rfl)) ?_
  refine L_end ?_
  intro w24 hw24
  refine wp_seq ?_
  refine wp_cond_true (fr_at _ _ (by rfl) _) ?_
  refine wp_skip ?_
  change Code.wp _ _ _ _ _
  refine wp_seq ?_
  refine wp_block ?_
  refine seq_plain hw24 [0, 1] (by rfl) ?_
  refine L_val (.int .i64 4) (by rfl) (by rfl) (gives_value _ fun _ => by rfl) ?_
  refine L_val (.int .i64 4) (by rfl) (by rfl) (gives_value _ fun _ => by rfl) ?_
  refine L_end ?_
  intro w25 hw25
  refine seq_plain hw25 [0, 1, 2, 3, 4, 5] (by rfl) ?_
  refine L_val (.int .i64 4) (by rfl) (by rfl) (gives_value _ fun _ => by rfl) ?_
  refine L_val (.pointer (some ⟨g3, 48, none⟩)) (by rfl) (by rfl) (gives_value _ fun _ => by kernel_rfl) ?_
  refine L_val (.agg (c2 (((x).a).c))) (by rfl) (by rfl) (gives_load g3 48 137 (joinA [(c2 (((x).a).a)), (c2 (((x).b).a)), (c2 (((x).a).b)), (c2 (((x).b).b)), (c2 (((x).a).c)), (c2 (((x).b).c))]) (c2 (((x).a).c)) _ (by rfl) (fun _ h => h.blk 8 (by rfl)) (sl_joinC 12 _ (by simp [c2_size]) 4 _ (by rfl) _ (by rfl)) Tryd.underlying37 (by rfl) (hi_2 _)) ?_
  refine L_val (.agg (b96c (((x).a).c))) (by rfl) (by rfl) (gives_call (vl := [.agg (c2 (((x).a).c))]) (by kernel_rfl) (by rfl) (fun w h => q_bytes _ w (hG.keep h.below))) ?_
  refine L_alloc _ (by rfl) (by rfl) z_b96 (b96c (0 : F2)) rfl ?_; intro g12
  refine L_store (t := 126) 0 g12 (b96c (0 : F2)) (b96c (((x).a).c)) (by rfl) (by rfl) (by rfl) (by rfl) (by rfl) (hi_b96 _) ((b96c_size _).trans (b96c_size _).symm) (b96c_one _) ?_
  simp only [List.set_cons_zero, List.set_cons_succ]
  refine L_end ?_
  intro w26 hw26
  refine seq_flow (by kernel_rfl) hw26 [] ((g12, 126, (b96c (((x).a).c))) :: (g11, 5, cs_4) :: (g10, 126, (b96c (((x).b).b))) :: (g9, 5, cs_3) :: (g8, 126, (b96c (((x).a).b))) :: (g7, 5, cs_2) :: (g6, 126, (b96c (((x).b).a))) :: (g5, 5, cs_1) :: (g4, 126, (b96c (((x).a).a))) :: (g3, 137, (joinA [(c2 (((x).a).a)), (c2 (((x).b).a)), (c2 (((x).a).b)), (c2 (((x).b).b)), (c2 (((x).a).c)), (c2 (((x).b).c))])) :: (g2, 79, (six co)) :: (g1, 83, (c12 (x))) :: []) 7 (by rfl) ?_
  refine flow_take (i := 0) (.slice (some ⟨g12, 0, none⟩) 96 96) (by rfl) (by kernel_rfl) (by kernel_rfl) (by kernel_rfl) (by rfl) (by kernel_rfl) (List.Sublist.refl _) (gives_slice_arr g12 96 1 (by rfl) und_b96 u8_sz) ?_
  refine flow_take (i := 1) (.int .i64 4) (by rfl) (by kernel_rfl) (by kernel_rfl) (by kernel_rfl) (by rfl) (by kernel_rfl) (List.Sublist.refl _) (gives_value _ fun _ => by rfl) ?_
  refine flow_take (i := 2) (.pointer (some ⟨g2, 8, none⟩)) (by rfl) (by kernel_rfl) (by kernel_rfl) (by kernel_rfl) (by rfl) (by kernel_rfl) (List.Sublist.refl _) (gives_value _ fun _ => by kernel_rfl) ?_
  refine flow_take (i := 3) (.agg (co 4)) (by rfl) (by kernel_rfl) (by kernel_rfl) (by kernel_rfl) (by rfl) (by kernel_rfl) (List.Sublist.refl _) (gives_load g2 (8) 79 (six co) (co 4) _ (by rfl) (fun _ h => h.blk 10 (by rfl)) (six_at co hc.siz 4 (by omega)) Tryd.underlying77 (by rfl) (hi_P (hc.siz 4 (by omega)))) ?_
  refine flow_one 4 (by kernel_rfl) ?_
  refine F_freshX (vl := [.agg (co 4)]) 5 (fun g cap => .slice (some ⟨g, 0, none⟩) (48 + 48) cap) (fun cap cs => BB cs cap (48 + 48) (lo ((comp x 4).b.val : Int) 48 ++ lo ((comp x 4).a.val : Int) 48)) (by rfl) (by rfl) Want.none (by kernel_rfl) (by rfl) (List.Sublist.refl _) (fun w h => m5_bytes (comp x 4) _ w ((hc 4 (by omega)).of h)) ?_; intro g13 cap_5 cs_5 hq_5
  refine flow_one 5 (by kernel_rfl) ?_
  refine F_val (vl := [.slice (some ⟨g12, 0, none⟩) 96 96, .slice (some ⟨g13, 0, none⟩) (48 + 48) cap_5]) (.bool true) (by rfl) (by rfl) Want.none (by kernel_rfl) (by rfl) (List.Sublist.cons _ (List.Sublist.cons_cons _ (List.Sublist.cons_cons _ (List.Sublist.cons_cons _ (List.Sublist.cons_cons _ (List.Sublist.cons_cons _ (List.Sublist.cons_cons _ (List.Sublist.cons_cons _ (List.Sublist.cons_cons _ (List.Sublist.cons_cons _ (List.Sublist.cons_cons _ (List.Sublist.cons_cons _ (List.Sublist.cons_cons _ (List.Sublist.refl _)))))))))))))) (fun w h => n_same w _ _ _ _ _ _ (_) (lo ((comp x 4).b.val : Int) 48 ++ lo ((comp x 4).a.val : Int) 48) (all_reads (h.blk 1 (by rfl))) (hq_5.reads (h.blk 0 (by rfl))) (by omega) (by omega) rfl) ?_
  refine flow_take (i := 6) (.bool false) (by rfl) (by kernel_rfl) (by kernel_rfl) (by kernel_rfl) (by rfl) (by kernel_rfl) (List.Sublist.cons _ (List.Sublist.cons_cons _ (List.Sublist.cons_cons _ (List.Sublist.cons_cons _ (List.Sublist.cons_cons _ (List.Sublist.cons_cons _ (List.Sublist.cons_cons _ (List.Sublist.cons_cons _ (List.Sublist.cons_cons _ (List.Sublist.cons_cons _ (List.Sublist.cons_cons _ (List.Sublist.cons_cons _ (List.Sublist.cons_cons _ (List.Sublist.refl _)))))))))))))) (gives_value _ fun _ => by rfl) ?_
  refine flow_done (by kernel_rfl) ?_
  intro w27 hw27
  refine wp_cond_false (fr_at _ _ (by rfl) _) ?_
  refine wp_skip ?_
  change Code.wp _ _ _ _ _
  refine one_plain hw27 [0, 1] (by rfl) ?_
  refine L_val (.int .i64 5) (by rfl) (by rfl) (gives_add (k := .i64) 4 1 5 (by rfl) (by rfl) (by rfl)) ?_
  refine L_val (.int .i64 5) (by rfl) (by rfl) (gives_value _ fun _ => by rfl) ?_
  refine L_end ?_
  intro w28 hw28
  refine rounds_next ?_
  refine seq_plain hw28 [0] (by rfl) ?_
  refine L_val (.bool true) (by rfl) (by rfl) (gives_lss (k := .i64) 5 6 true (by rfl) (by rfl) (by rfl)) ?_
  refine L_end ?_
  intro w29 hw29
  refine wp_seq ?_
  refine wp_cond_true (fr_at _ _ (by rfl) _) ?_
  refine wp_skip ?_
  change Code.wp _ _ _ _ _
  refine wp_seq ?_
  refine wp_block ?_
  refine seq_plain hw29 [0, 1] (by rfl) ?_
  refine L_val (.int .i64 5) (by rfl) (by rfl) (gives_value _ fun _ => by rfl) ?_
  refine L_val (.int .i64 5) (by rfl) (by rfl) (gives_value _ fun _ => by rfl) ?_
  refine L_end ?_
  intro w30 hw30
  refine seq_plain hw30 [0, 1, 2, 3, 4, 5] (by rfl) ?_
  refine L_val (.int .i64 5) (by rfl) (by rfl) (gives_value _ fun _ => by rfl) ?_
  refine L_val (.pointer (some ⟨g3, 60, none⟩)) (by rfl) (by rfl) (gives_value _ fun _ => by kernel_rfl) ?_
  refine L_val (.agg (c2 (((x).b).c))) (by rfl) (by rfl) (gives_load g3 60 137 (joinA [(c2 (((x).a).a)), (c2 (((x).b).a)), (c2 (((x).a).b)), (c2 (((x).b).b)), (c2 (((x).a).c)), (c2 (((x).b).c))]) (c2 (((x).b).c)) _ (by rfl) (fun _ h => h.blk 10 (by rfl)) (sl_joinC 12 _ (by simp [c2_size]) 5 _ (by rfl) _ (by rfl)) Tryd.underlying37 (by rfl) (hi_2 _)) ?_
  refine L_val (.agg (b96c (((x).b).c))) (by rfl) (by rfl) (gives_call (vl := [.agg (c2 (((x).b).c))]) (by kernel_rfl) (by rfl) (fun w h => q_bytes _ w (hG.keep h.below))) ?_
  refine L_alloc _ (by rfl) (by rfl) z_b96 (b96c (0 : F2)) rfl ?_; intro g14
  refine L_store (t := 126) 0 g14 (b96c (0 : F2)) (b96c (((x).b).c)) (by rfl) (by rfl) (by rfl) (by rfl) (by rfl) (hi_b96 _) ((b96c_size _).trans (b96c_size _).symm) (b96c_one _) ?_
  simp only [List.set_cons_zero, List.set_cons_succ]
  refine L_end ?_
  intro w31 hw31
  refine seq_flow (by kernel_rfl) hw31 [] ((g14, 126, (b96c (((x).b).c))) :: (g13, 5, cs_5) :: (g12, 126, (b96c (((x).a).c))) :: (g11, 5, cs_4) :: (g10, 126, (b96c (((x).b).b))) :: (g9, 5, cs_3) :: (g8, 126, (b96c (((x).a).b))) :: (g7, 5, cs_2) :: (g6, 126, (b96c (((x).b).a))) :: (g5, 5, cs_1) :: (g4, 126, (b96c (((x).a).a))) :: (g3, 137, (joinA [(c2 (((x).a).a)), (c2 (((x).b).a)), (c2 (((x).a).b)), (c2 (((x).b).b)), (c2 (((x).a).c)), (c2 (((x).b).c))])) :: (g2, 79, (six co)) :: (g1, 83, (c12 (x))) :: []) 7 (by rfl) ?_
  refine flow_take (i := 0) (.slice (some ⟨g14, 0, none⟩) 96 96) (by rfl) (by kernel_rfl) (by kernel_rfl) (by kernel_rfl) (by rfl) (by kernel_rfl) (List.Sublist.refl _) (gives_slice_arr g14 96 1 (by rfl) und_b96 u8_sz) ?_
  refine flow_take (i := 1) (.int .i64 5) (by rfl) (by kernel_rfl) (by kernel_rfl) (by kernel_rfl) (by rfl) (by kernel_rfl) (List.Sublist.refl _) (gives_value _ fun _ => by rfl) ?_
  refine flow_take (i := 2) (.pointer (some ⟨g2, 10, none⟩)) (by rfl) (by kernel_rfl) (by kernel_rfl) (by kernel_rfl) (by rfl) (by kernel_rfl) (List.Sublist.refl _) (gives_value _ fun _ => by kernel_rfl) ?_
  refine flow_take (i := 3) (.agg (co 5)) (by rfl) (by kernel_rfl) (by kernel_rfl) (by kernel_rfl) (by rfl) (by kernel_rfl) (List.Sublist.refl _) (gives_load g2 (10) 79 (six co) (co 5) _ (by rfl) (fun _ h => h.blk 12 (by rfl)) (six_at co hc.siz 5 (by omega)) Tryd.underlying77 (by rfl) (hi_P (hc.siz 5 (by omega)))) ?_
  refine flow_one 4 (by kernel_rfl) ?_
  refine F_freshX (vl := [.agg (co 5)]) 5 (fun g cap => .slice (some ⟨g, 0, none⟩) (48 + 48) cap) (fun cap cs => BB cs cap (48 + 48) (lo ((comp x 5).b.val : Int) 48 ++ lo ((comp x 5).a.val : Int) 48)) (by rfl) (by rfl) Want.none (by kernel_rfl) (by rfl) (List.Sublist.refl _) (fun w h => m5_bytes (comp x 5) _ w ((hc 5 (by omega)).of h)) ?_; intro g15 cap_6 cs_6 hq_6
  refine flow_one 5 (by kernel_rfl) ?_
  refine F_val (vl := [.slice (some ⟨g14, 0, none⟩) 96 96, .slice (some ⟨g15, 0, none⟩) (48 + 48) cap_6]) (.bool true) (by rfl) (by rfl) Want.none (by kernel_rfl) (by rfl) (List.Sublist.cons _ (List.Sublist.cons_cons _ (List.Sublist.cons_cons _ (List.Sublist.cons_cons _ (List.Sublist.cons_cons _ (List.Sublist.cons_cons _ (List.Sublist.cons_cons _ (List.Sublist.cons_cons _ (List.Sublist.cons_cons _ (List.Sublist.cons_cons _ (List.Sublist.cons_cons _ (List.Sublist.cons_cons _ (List.Sublist.cons_cons _ (List.Sublist.cons_cons _ (List.Sublist.cons_cons _ (List.Sublist.refl _)))))))))))))))) (fun w h => n_same w _ _ _ _ _ _ (_) (lo ((comp x 5).b.val : Int) 48 ++ lo ((comp x 5).a.val : Int) 48) (all_reads (h.blk 1 (by rfl))) (hq_6.reads (h.blk 0 (by rfl))) (by omega) (by omega) rfl) ?_
  refine flow_take (i := 6) (.bool false) (by rfl) (by kernel_rfl) (by kernel_rfl) (by kernel_rfl) (by rfl) (by kernel_rfl) (List.Sublist.cons _ (List.Sublist.cons_cons _ (List.Sublist.cons_cons _ (List.Sublist.cons_cons _ (List.Sublist.cons_cons _ (List.Sublist.cons_cons _ (List.Sublist.cons_cons _ (List.Sublist.cons_cons _ (List.Sublist.cons_cons _ (List.Sublist.cons_cons _ (List.Sublist.cons_cons _ (List.Sublist.cons_cons _ (List.Sublist.cons_cons _ (List.Sublist.cons_cons _ (List.Sublist.cons_cons _ (List.Sublist.refl _)))))))))))))))) (gives_value _ fun _ => by rfl) ?_
  refine flow_done (by kernel_rfl) ?_
  intro w32 hw32
  refine wp_cond_false (fr_at _ _ (by rfl) _) ?_
  refine wp_skip ?_
  change Code.wp _ _ _ _ _
  refine one_plain hw32 [0, 1] (by rfl) ?_
  refine L_val (.int .i64 6) (by rfl) (by rfl) (gives_add (k := .i64) 5 1 6 (by rfl) (by rfl) (by rfl)) ?_
  refine L_val (.int .i64 6) (by rfl) (by rfl) (gives_value _ fun _ => by rfl) ?_
  refine L_end ?_
  intro w33 hw33
  refine rounds_next ?_
  refine seq_plain hw33 [0] (by rfl) ?_
  refine L_val (.bool false) (by rfl) (by rfl) (gives_lss (k := .i64) 6 6 false (by rfl) (by rfl) (by rfl)) ?_
  refine L_end ?_
  intro w34 hw34
  refine wp_seq ?_
  refine wp_cond_false (fr_at _ _ (by rfl) _) ?_
  refine wp_exit ?_
  change Code.wp _ _ _ _ _
  change Code.wp _ _ _ _ _
  refine seq_plain hw34 [0] (by rfl) ?_
  refine L_val (.bool true) (by rfl) (by rfl) (gives_value _ fun _ => by rfl) ?_
  refine L_end ?_
  intro w35 hw35
  refine wp_ret ?_
  change bodyPost _ _ _ Exit.ret _ _
  refine (ret_tmp (by rfl) (by rfl) (by rfl) ⟨rfl, hw35.below⟩)
end Go.Proofs.YtialfoccalobpaaDoor
