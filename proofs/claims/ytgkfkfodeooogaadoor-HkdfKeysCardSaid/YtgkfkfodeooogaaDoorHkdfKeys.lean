/-
  HkdfKeys: the walk.
-/
import Derived.Test.YtgkfkfodeooogaaDoorShD
namespace Go.Proofs.YtgkfkfodeooogaaDoor
set_option linter.unusedSimpArgs false
set_option linter.unusedVariables false
open Go.RowKit
attribute [local irreducible] wpL wpF fr Code.wp bodyPost
set_option maxRecDepth 100000 in
set_option maxHeartbeats 4000000 in
theorem c_extract (A0 : Option Addr) (n0 c0 : Nat) (bs0 : List Int) (A1 : Option Addr) (n1 c1 : Nat) (bs1 : List Int) (v : World) (hr0 : Reads v v.heap.size A0 n0 (bs0.map (Value.int .u8))) (hnc0 : n0 ≤ c0) (hn0 : n0 ≤ 1000000) (hr1 : Reads v v.heap.size A1 n1 (bs1.map (Value.int .u8))) (hnc1 : n1 ≤ c1) (hn1 : n1 ≤ 1000000) (hgl : Glob v) (h2 : 2 ≤ v.heap.size) : Rets 25 #[.slice A0 n0 c0, .slice A1 n1 c1] v (.agg (agg8 (mac bs0 bs1))) := by
  refine calls_fr2 Tryd.func25 rfl (by rfl : _ = 9) (by rfl) ?_
  have hw := Hbl.nil v
  refine seq_plain hw [0] (by rfl) ?_
  refine L_alloc _ (by rfl) (by rfl) z_d32 (agg8 (List.replicate 32 (0 : Int))) rfl ?_; intro g1
  refine L_end ?_
  intro w1 hw1
  refine seq_plain hw1 [0, 1, 2, 3, 4] (by rfl) ?_
  refine L_val (.slice A0 n0 c0) (by rfl) (by rfl) (gives_value _ fun _ => by rfl) ?_
  refine L_val (.slice A1 n1 c1) (by rfl) (by rfl) (gives_value _ fun _ => by rfl) ?_
  refine L_buildV 1 (.slice none 0 0) [.slice A1 n1 c1] (by rfl) (by rfl) Want.none und_pss slice_zs (by rfl) (by rfl) (by rfl) (by intro u hu; simp only [List.mem_cons, List.not_mem_nil, or_false] at hu; rcases hu with rfl <;> rfl) (by rfl) (by rfl) ?_; intro g2
  refine L_val (.agg (agg8 (mac bs0 bs1))) (by rfl) (by rfl) (gives_call (vl := [.slice A0 n0 c0, .slice (some ⟨g2, 0, none⟩) 1 1]) (by kernel_rfl) (by rfl) (fun w h => c_mac w _ _ _ _ _ _ _ [bs1] (bs1) (by simp) ((hr0.below h.below).more h.below.size) hnc0 (pieces_lit (ps := [bs1]) (h.blk 0 (by rfl)) (pvc (piece_of ((hr1.below h.below).more h.below.size) hnc1) pvn) rfl) (hgl.below h.below h2) (Nat.le_trans h2 h.below.size) (by omega) (by omega) (by rw [show bs1.length = n1 by simpa using hr1.1]; omega))) ?_
  refine L_store (t := 27) 1 g1 (agg8 (List.replicate 32 (0 : Int))) (agg8 (mac bs0 bs1)) (by rfl) (by rfl) (by rfl) (by rfl) (by rfl) (hi_d32 _ (mac_len _ _)) (by rw [agg8_size, agg8_size, show (mac bs0 bs1).length = 32 from (mac_len _ _), show (List.replicate 32 (0 : Int)).length = 32 from (by simp)]) (agg8_one _) ?_
  simp only [List.set_cons_zero, List.set_cons_succ]
  refine L_end ?_
  intro w2 hw2
  refine wp_ret ?_
  change bodyPost _ _ _ Exit.ret _ _
  refine (ret_cell (by rfl) (by rfl) (by rfl) (hw2.blk 1 (by rfl)) Tryd.underlying27 (by rfl) (hi_d32 _ (mac_len _ _)) ⟨rfl, hw2.below⟩)
set_option maxRecDepth 100000 in
set_option maxHeartbeats 4000000 in
theorem refexp_neg (A0 : Option Addr) (n0 c0 : Nat) (A1 : Option Addr) (n1 c1 : Nat) (N : Int) (v : World) (hN : N < 0) : Rets 27 #[.slice A0 n0 c0, .slice A1 n1 c1, .int .i64 N] v (.slice none 0 0) := by
  refine calls_fr3 Tryd.func27 rfl (by rfl : _ = 42) (by rfl) ?_
  have hw := Hbl.nil v
  refine seq_plain hw [0] (by rfl) ?_
  refine L_val (.slice none 0 0) (by rfl) (by rfl) (gives_value _ fun _ => by rfl) ?_
  refine L_end ?_
  intro w1 hw1
  refine wp_seq ?_
  refine seq_plain hw1 [0, 1, 2, 3, 4, 5] (by rfl) ?_
  refine L_val (.int .i64 N) (by rfl) (by rfl) (gives_value _ fun _ => by rfl) ?_
  refine L_val (.bool true) (by rfl) (by rfl) (gives_lss (k := .i64) (N) (0) true (by rfl) (by rfl) (decide_eq_true (by omega))) ?_
  refine L_val (.bool true) (by rfl) (by rfl) (gives_value _ fun _ => by rfl) ?_
  refine L_skip (dj := 13) (by rfl) (by rfl) (by rfl) (by rfl) (by rfl) ?_
  refine L_skip (dj := 13) (by rfl) (by rfl) (by rfl) (by rfl) (by rfl) ?_
  refine L_val (.bool true) (by rfl) (by rfl) (gives_value _ fun _ => by rfl) ?_
  refine L_end ?_
  intro w2 hw2
  refine wp_cond_true (fr_at _ _ (by rfl) _) ?_
  refine seq_plain hw2 [0] (by rfl) ?_
  refine L_val (.slice none 0 0) (by rfl) (by rfl) (gives_value _ fun _ => by rfl) ?_
  refine L_end ?_
  intro w3 hw3
  refine wp_ret ?_
  change bodyPost _ _ _ Exit.ret _ _
  refine (ret_tmp (by rfl) (by rfl) (by rfl) ⟨rfl, hw3.below⟩)
set_option maxRecDepth 100000 in
set_option maxHeartbeats 4000000 in
theorem refexp_big (A0 : Option Addr) (n0 c0 : Nat) (A1 : Option Addr) (n1 c1 : Nat) (N : Int) (v : World) (hN : 8160 < N) : Rets 27 #[.slice A0 n0 c0, .slice A1 n1 c1, .int .i64 N] v (.slice none 0 0) := by
  refine calls_fr3 Tryd.func27 rfl (by rfl : _ = 42) (by rfl) ?_
  have hw := Hbl.nil v
  refine seq_plain hw [0] (by rfl) ?_
  refine L_val (.slice none 0 0) (by rfl) (by rfl) (gives_value _ fun _ => by rfl) ?_
  refine L_end ?_
  intro w1 hw1
  refine wp_seq ?_
  refine seq_plain hw1 [0, 1, 2, 3, 4, 5] (by rfl) ?_
  refine L_val (.int .i64 N) (by rfl) (by rfl) (gives_value _ fun _ => by rfl) ?_
  refine L_val (.bool false) (by rfl) (by rfl) (gives_lss (k := .i64) (N) (0) false (by rfl) (by rfl) (decide_eq_false (by omega))) ?_
  refine L_val (.bool false) (by rfl) (by rfl) (gives_value _ fun _ => by rfl) ?_
  refine L_val_g (dj := 13) (.int .i64 N) (by rfl) (by rfl) (by rfl) (by rfl) (by rfl) (gives_value _ fun _ => by rfl) ?_
  refine L_val_g (dj := 13) (.bool true) (by rfl) (by rfl) (by rfl) (by rfl) (by rfl) (gives_gtr (k := .i64) (N) (8160) true (by rfl) (by rfl) (decide_eq_true (by omega))) ?_
  refine L_val (.bool true) (by rfl) (by rfl) (gives_value _ fun _ => by rfl) ?_
  refine L_end ?_
  intro w2 hw2
  refine wp_cond_true (fr_at _ _ (by rfl) _) ?_
  refine seq_plain hw2 [0] (by rfl) ?_
  refine L_val (.slice none 0 0) (by rfl) (by rfl) (gives_value _ fun _ => by rfl) ?_
  refine L_end ?_
  intro w3 hw3
  refine wp_ret ?_
  change bodyPost _ _ _ Exit.ret _ _
  refine (ret_tmp (by rfl) (by rfl) (by rfl) ⟨rfl, hw3.below⟩)
set_option maxRecDepth 100000 in
set_option maxHeartbeats 4000000 in
theorem keys_long (A0 : Option Addr) (n0 c0 : Nat) (bs0 : List Int) (A1 : Option Addr) (n1 c1 : Nat) (bs1 : List Int) (A2 : Option Addr) (n2 c2 : Nat) (bs2 : List Int) (N : Int) (v : World) (hr0 : Reads v v.heap.size A0 n0 (bs0.map (Value.int .u8))) (hnc0 : n0 ≤ c0) (hr1 : Reads v v.heap.size A1 n1 (bs1.map (Value.int .u8))) (hnc1 : n1 ≤ c1) (hr2 : Reads v v.heap.size A2 n2 (bs2.map (Value.int .u8))) (hnc2 : n2 ≤ c2) (hl0 : n0 ≤ 140737488351232) (hl1 : n1 ≤ 140737488351232) (hl2 : n2 ≤ 140737488351232) (hgl : Glob v) (h2 : 2 ≤ v.heap.size) (hs : 4096 < n0 + n1 + n2) : Rets 6 #[.slice A0 n0 c0, .slice A1 n1 c1, .slice A2 n2 c2, .int .i64 N] v (.bool true) := by
  refine calls_fr4 Tryd.func6 rfl (by rfl : _ = 79) (by rfl) ?_
  have hw := Hbl.nil v
  refine seq_plain hw [0] (by rfl) ?_
  refine L_val (.bool false) (by rfl) (by rfl) (gives_value _ fun _ => by rfl) ?_
  refine L_end ?_
  intro w1 hw1
  refine wp_seq ?_
  refine seq_plain hw1 [0, 1] (by rfl) ?_
  refine L_val (.bool true) (by rfl) (by rfl) (gives_call (vl := []) (by kernel_rfl) (by rfl) (fun w h => headb_any w (hgl.below h.below h2) (Nat.le_trans h2 h.below.size))) ?_
  refine L_val (.bool false) (by rfl) (by rfl) (gives_value _ fun _ => by rfl) ?_
  refine L_end ?_
  intro w2 hw2
  refine wp_cond_false (fr_at _ _ (by rfl) _) ?_
  refine wp_skip ?_
  change Code.wp _ _ _ _ _
  refine wp_seq ?_
  refine seq_plain hw2 [0, 1, 2, 3, 4, 5, 6, 7, 8] (by rfl) ?_
  refine L_val (.slice A0 n0 c0) (by rfl) (by rfl) (gives_value _ fun _ => by rfl) ?_
  refine L_val (.int .i64 (n0 : Int)) (by rfl) (by rfl) (gives_len _ n0 c0 und_u8s (by rfl)) ?_
  refine L_val (.slice A1 n1 c1) (by rfl) (by rfl) (gives_value _ fun _ => by rfl) ?_
  refine L_val (.int .i64 (n1 : Int)) (by rfl) (by rfl) (gives_len _ n1 c1 und_u8s (by rfl)) ?_
  refine L_val (.int .i64 ((n0 : Int) + (n1 : Int))) (by rfl) (by rfl) (gives_add (k := .i64) ((n0 : Int)) ((n1 : Int)) ((n0 : Int) + (n1 : Int)) (by rfl) (by rfl) (IntWalk.i64_in _ (by omega))) ?_
  refine L_val (.slice A2 n2 c2) (by rfl) (by rfl) (gives_value _ fun _ => by rfl) ?_
  refine L_val (.int .i64 (n2 : Int)) (by rfl) (by rfl) (gives_len _ n2 c2 und_u8s (by rfl)) ?_
  refine L_val (.int .i64 (((n0 : Int) + (n1 : Int)) + (n2 : Int))) (by rfl) (by rfl) (gives_add (k := .i64) ((n0 : Int) + (n1 : Int)) ((n2 : Int)) (((n0 : Int) + (n1 : Int)) + (n2 : Int)) (by rfl) (by rfl) (IntWalk.i64_in _ (by omega))) ?_
  refine L_val (.bool true) (by rfl) (by rfl) (gives_gtr (k := .i64) (((n0 : Int) + (n1 : Int)) + (n2 : Int)) (4096) true (by rfl) (by rfl) (decide_eq_true (by omega))) ?_
  refine L_end ?_
  intro w3 hw3
  refine wp_cond_true (fr_at _ _ (by rfl) _) ?_
  refine seq_plain hw3 [0] (by rfl) ?_
  refine L_val (.bool true) (by rfl) (by rfl) (gives_value _ fun _ => by rfl) ?_
  refine L_end ?_
  intro w4 hw4
  refine wp_ret ?_
  change bodyPost _ _ _ Exit.ret _ _
  refine (ret_tmp (by rfl) (by rfl) (by rfl) ⟨rfl, hw4.below⟩)
set_option maxRecDepth 100000 in
set_option maxHeartbeats 4000000 in
theorem keys_in (A0 : Option Addr) (n0 c0 : Nat) (bs0 : List Int) (A1 : Option Addr) (n1 c1 : Nat) (bs1 : List Int) (A2 : Option Addr) (n2 c2 : Nat) (bs2 : List Int) (N : Nat) (v : World) (hr0 : Reads v v.heap.size A0 n0 (bs0.map (Value.int .u8))) (hnc0 : n0 ≤ c0) (hr1 : Reads v v.heap.size A1 n1 (bs1.map (Value.int .u8))) (hnc1 : n1 ≤ c1) (hr2 : Reads v v.heap.size A2 n2 (bs2.map (Value.int .u8))) (hnc2 : n2 ≤ c2) (hl0 : n0 ≤ 140737488351232) (hl1 : n1 ≤ 140737488351232) (hl2 : n2 ≤ 140737488351232) (hgl : Glob v) (h2 : 2 ≤ v.heap.size) (hs : n0 + n1 + n2 ≤ 4096) (hN : N ≤ 400) : Rets 6 #[.slice A0 n0 c0, .slice A1 n1 c1, .slice A2 n2 c2, .int .i64 (N : Int)] v (.bool true) := by
  refine calls_fr4 Tryd.func6 rfl (by rfl : _ = 79) (by rfl) ?_
  have hw := Hbl.nil v
  refine seq_plain hw [0] (by rfl) ?_
  refine L_val (.bool false) (by rfl) (by rfl) (gives_value _ fun _ => by rfl) ?_
  refine L_end ?_
  intro w1 hw1
  refine wp_seq ?_
  refine seq_plain hw1 [0, 1] (by rfl) ?_
  refine L_val (.bool true) (by rfl) (by rfl) (gives_call (vl := []) (by kernel_rfl) (by rfl) (fun w h => headb_any w (hgl.below h.below h2) (Nat.le_trans h2 h.below.size))) ?_
  refine L_val (.bool false) (by rfl) (by rfl) (gives_value _ fun _ => by rfl) ?_
  refine L_end ?_
  intro w2 hw2
  refine wp_cond_false (fr_at _ _ (by rfl) _) ?_
  refine wp_skip ?_
  change Code.wp _ _ _ _ _
  refine wp_seq ?_
  refine seq_plain hw2 [0, 1, 2, 3, 4, 5, 6, 7, 8] (by rfl) ?_
  refine L_val (.slice A0 n0 c0) (by rfl) (by rfl) (gives_value _ fun _ => by rfl) ?_
  refine L_val (.int .i64 (n0 : Int)) (by rfl) (by rfl) (gives_len _ n0 c0 und_u8s (by rfl)) ?_
  refine L_val (.slice A1 n1 c1) (by rfl) (by rfl) (gives_value _ fun _ => by rfl) ?_
  refine L_val (.int .i64 (n1 : Int)) (by rfl) (by rfl) (gives_len _ n1 c1 und_u8s (by rfl)) ?_
  refine L_val (.int .i64 ((n0 : Int) + (n1 : Int))) (by rfl) (by rfl) (gives_add (k := .i64) ((n0 : Int)) ((n1 : Int)) ((n0 : Int) + (n1 : Int)) (by rfl) (by rfl) (IntWalk.i64_in _ (by omega))) ?_
  refine L_val (.slice A2 n2 c2) (by rfl) (by rfl) (gives_value _ fun _ => by rfl) ?_
  refine L_val (.int .i64 (n2 : Int)) (by rfl) (by rfl) (gives_len _ n2 c2 und_u8s (by rfl)) ?_
  refine L_val (.int .i64 (((n0 : Int) + (n1 : Int)) + (n2 : Int))) (by rfl) (by rfl) (gives_add (k := .i64) ((n0 : Int) + (n1 : Int)) ((n2 : Int)) (((n0 : Int) + (n1 : Int)) + (n2 : Int)) (by rfl) (by rfl) (IntWalk.i64_in _ (by omega))) ?_
  refine L_val (.bool false) (by rfl) (by rfl) (gives_gtr (k := .i64) (((n0 : Int) + (n1 : Int)) + (n2 : Int)) (4096) false (by rfl) (by rfl) (decide_eq_false (by omega))) ?_
  refine L_end ?_
  intro w3 hw3
  refine wp_cond_false (fr_at _ _ (by rfl) _) ?_
  refine wp_skip ?_
  change Code.wp _ _ _ _ _
  refine seq_plain hw3 [0, 1, 2, 3, 4, 5, 6] (by rfl) ?_
  refine L_val (.slice A0 n0 c0) (by rfl) (by rfl) (gives_value _ fun _ => by rfl) ?_
  refine L_freshP (vl := [.slice A0 n0 c0]) 5 .u8 n0 bs0 (by rfl) (by rfl) Want.none (by kernel_rfl) (by rfl) (fun w h => c_copy w _ _ _ bs0 ((hr0.below h.below).more h.below.size) (by omega)) ?_; intro g1 cap_1 cs_1 hn_1
  refine L_val (.slice A1 n1 c1) (by rfl) (by rfl) (gives_value _ fun _ => by rfl) ?_
  refine L_freshP (vl := [.slice A1 n1 c1]) 5 .u8 n1 bs1 (by rfl) (by rfl) Want.none (by kernel_rfl) (by rfl) (fun w h => c_copy w _ _ _ bs1 ((hr1.below h.below).more h.below.size) (by omega)) ?_; intro g2 cap_2 cs_2 hn_2
  refine L_val (.agg (agg8 (mac bs0 bs1))) (by rfl) (by rfl) (gives_call (vl := [.slice (some ⟨g1, 0, none⟩) n0 cap_1, .slice (some ⟨g2, 0, none⟩) n1 cap_2]) (by kernel_rfl) (by rfl) (fun w h => c_extract _ _ _ bs0 _ _ _ bs1 w (hn_1.reads (h.blk 1 (by rfl))) (hn_1.le) (by omega) (hn_2.reads (h.blk 0 (by rfl))) (hn_2.le) (by omega) (hgl.below h.below h2) (Nat.le_trans h2 h.below.size))) ?_
  refine L_alloc _ (by rfl) (by rfl) z_d32 (agg8 (List.replicate 32 (0 : Int))) rfl ?_; intro g3
  refine L_store (t := 27) 0 g3 (agg8 (List.replicate 32 (0 : Int))) (agg8 (mac bs0 bs1)) (by rfl) (by rfl) (by rfl) (by rfl) (by rfl) (hi_d32 _ (mac_len _ _)) (by rw [agg8_size, agg8_size, show (mac bs0 bs1).length = 32 from (mac_len _ _), show (List.replicate 32 (0 : Int)).length = 32 from (by simp)]) (agg8_one _) ?_
  simp only [List.set_cons_zero, List.set_cons_succ]
  refine L_end ?_
  intro w4 hw4
  refine wp_seq ?_
  refine seq_flow (by kernel_rfl) hw4 [] [(g3, 27, (agg8 (mac bs0 bs1))), (g2, 5, cs_2), (g1, 5, cs_1)] 6 (by rfl) ?_
  refine flow_take (i := 0) (.slice (some ⟨g3, 0, none⟩) 32 32) (by rfl) (by kernel_rfl) (by kernel_rfl) (by kernel_rfl) (by rfl) (by kernel_rfl) (List.Sublist.refl _) (gives_slice_arr g3 32 1 (by rfl) und_d32 u8_sz) ?_
  refine flow_take (i := 1) (.slice A0 n0 c0) (by rfl) (by kernel_rfl) (by kernel_rfl) (by kernel_rfl) (by rfl) (by kernel_rfl) (List.Sublist.refl _) (gives_value _ fun _ => by rfl) ?_
  refine flow_take (i := 2) (.slice A1 n1 c1) (by rfl) (by kernel_rfl) (by kernel_rfl) (by kernel_rfl) (by rfl) (by kernel_rfl) (List.Sublist.refl _) (gives_value _ fun _ => by rfl) ?_
  refine flow_one 3 (by kernel_rfl) ?_
  refine F_freshP (vl := [.slice A0 n0 c0, .slice A1 n1 c1]) 5 .u8 32 (mac bs0 bs1) (by rfl) (by rfl) Want.none (by kernel_rfl) (by rfl) (List.Sublist.refl _) (fun w h => refmac_own _ _ _ bs0 _ _ _ bs1 w ((hr0.below h.below).more h.below.size) (by omega) ((hr1.below h.below).more h.below.size) (by omega)) ?_; intro g4 cap_3 cs_3 hn_3
  refine flow_one 4 (by kernel_rfl) ?_
  refine F_val (vl := [.slice (some ⟨g3, 0, none⟩) 32 32, .slice (some ⟨g4, 0, none⟩) 32 cap_3]) (.bool true) (by rfl) (by rfl) Want.none (by kernel_rfl) (by rfl) (List.Sublist.cons _ (List.Sublist.refl _)) (fun w h => n_same w _ _ _ _ _ _ (mac bs0 bs1) (mac bs0 bs1) (lit_reads (h.blk 1 (by rfl)) rfl (mac_len _ _)) (hn_3.reads (h.blk 0 (by rfl))) (by omega) (by omega) rfl) ?_
  refine flow_take (i := 5) (.bool false) (by rfl) (by kernel_rfl) (by kernel_rfl) (by kernel_rfl) (by rfl) (by kernel_rfl) (List.Sublist.cons _ (List.Sublist.refl _)) (gives_value _ fun _ => by rfl) ?_
  refine flow_done (by kernel_rfl) ?_
  intro w5 hw5
  refine wp_cond_false (fr_at _ _ (by rfl) _) ?_
  refine wp_skip ?_
  change Code.wp _ _ _ _ _
  refine wp_seq ?_
  refine seq_plain hw5 [0, 1, 2, 3, 4, 5] (by rfl) ?_
  refine L_val (.int .i64 (N : Int)) (by rfl) (by rfl) (gives_value _ fun _ => by rfl) ?_
  refine L_val (.bool false) (by rfl) (by rfl) (gives_gtr (k := .i64) ((N : Int)) (400) false (by rfl) (by rfl) (decide_eq_false (by omega))) ?_
  refine L_val (.bool false) (by rfl) (by rfl) (gives_value _ fun _ => by rfl) ?_
  refine L_skip (dj := 38) (by rfl) (by rfl) (by rfl) (by rfl) (by rfl) ?_
  refine L_skip (dj := 38) (by rfl) (by rfl) (by rfl) (by rfl) (by rfl) ?_
  refine L_val (.bool false) (by rfl) (by rfl) (gives_value _ fun _ => by rfl) ?_
  refine L_end ?_
  intro w6 hw6
  refine wp_cond_false (fr_at _ _ (by rfl) _) ?_
  refine wp_skip ?_
  change Code.wp _ _ _ _ _
  refine seq_plain hw6 [0, 1, 2, 3, 4, 5, 6] (by rfl) ?_
  refine L_val (.slice (some ⟨g3, 0, none⟩) 32 32) (by rfl) (by rfl) (gives_slice_arr g3 32 1 (by rfl) und_d32 u8_sz) ?_
  refine L_freshP (vl := [.slice (some ⟨g3, 0, none⟩) 32 32]) 5 .u8 32 (mac bs0 bs1) (by rfl) (by rfl) Want.none (by kernel_rfl) (by rfl) (fun w h => c_copy w _ _ _ (mac bs0 bs1) (lit_reads (h.blk 1 (by rfl)) rfl (mac_len _ _)) (by omega)) ?_; intro g5 cap_4 cs_4 hn_4
  refine L_val (.slice A2 n2 c2) (by rfl) (by rfl) (gives_value _ fun _ => by rfl) ?_
  refine L_freshP (vl := [.slice A2 n2 c2]) 5 .u8 n2 bs2 (by rfl) (by rfl) Want.none (by kernel_rfl) (by rfl) (fun w h => c_copy w _ _ _ bs2 ((hr2.below h.below).more h.below.size) (by omega)) ?_; intro g6 cap_5 cs_5 hn_5
  refine L_val (.int .i64 (N : Int)) (by rfl) (by rfl) (gives_value _ fun _ => by rfl) ?_
  refine L_freshN (vl := [.slice (some ⟨g5, 0, none⟩) 32 cap_4, .slice (some ⟨g6, 0, none⟩) n2 cap_5, .int .i64 (N : Int)]) 5 .u8 N ((outL (mac bs0 bs1) bs2 ((N + 31) / 32)).take N) (by rfl) (by rfl) Want.none (by kernel_rfl) (by rfl) (fun w h => expand_own w _ _ _ (mac bs0 bs1) _ _ _ bs2 N (hn_4.reads (h.blk 1 (by rfl))) (hn_4.le) (hn_5.reads (h.blk 0 (by rfl))) (hn_5.le) (hgl.below h.below h2) (Nat.le_trans h2 h.below.size) (by omega) (by omega) (by omega)) ?_; intro g7 cap_6 cs_6 hn_6
  refine L_val (.slice (some ⟨g7, 0, none⟩) N N) (by rfl) (by rfl) (gives_value _ fun _ => by rfl) ?_
  refine L_end ?_
  intro w7 hw7
  refine seq_plain hw7 [0, 1, 2, 3, 4, 5, 6] (by rfl) ?_
  refine L_val (.slice (some ⟨g3, 0, none⟩) 32 32) (by rfl) (by rfl) (gives_slice_arr g3 32 1 (by rfl) und_d32 u8_sz) ?_
  refine L_freshP (vl := [.slice (some ⟨g3, 0, none⟩) 32 32]) 5 .u8 32 (mac bs0 bs1) (by rfl) (by rfl) Want.none (by kernel_rfl) (by rfl) (fun w h => c_copy w _ _ _ (mac bs0 bs1) (lit_reads (h.blk 4 (by rfl)) rfl (mac_len _ _)) (by omega)) ?_; intro g8 cap_7 cs_7 hn_7
  refine L_val (.slice A2 n2 c2) (by rfl) (by rfl) (gives_value _ fun _ => by rfl) ?_
  refine L_freshP (vl := [.slice A2 n2 c2]) 5 .u8 n2 bs2 (by rfl) (by rfl) Want.none (by kernel_rfl) (by rfl) (fun w h => c_copy w _ _ _ bs2 ((hr2.below h.below).more h.below.size) (by omega)) ?_; intro g9 cap_8 cs_8 hn_8
  refine L_val (.int .i64 (N : Int)) (by rfl) (by rfl) (gives_value _ fun _ => by rfl) ?_
  refine L_freshN (vl := [.slice (some ⟨g8, 0, none⟩) 32 cap_7, .slice (some ⟨g9, 0, none⟩) n2 cap_8, .int .i64 (N : Int)]) 5 .u8 N ((outL (mac bs0 bs1) bs2 ((N + 31) / 32)).take N) (by rfl) (by rfl) Want.none (by kernel_rfl) (by rfl) (fun w h => expand_own w _ _ _ (mac bs0 bs1) _ _ _ bs2 N (hn_7.reads (h.blk 1 (by rfl))) (hn_7.le) (hn_8.reads (h.blk 0 (by rfl))) (hn_8.le) (hgl.below h.below h2) (Nat.le_trans h2 h.below.size) (by omega) (by omega) (by omega)) ?_; intro g10 cap_9 cs_9 hn_9
  refine L_val (.slice (some ⟨g10, 0, none⟩) N N) (by rfl) (by rfl) (gives_value _ fun _ => by rfl) ?_
  refine L_end ?_
  intro w8 hw8
  refine seq_plain hw8 [0, 1, 2, 3, 4] (by rfl) ?_
  refine L_val (.slice (some ⟨g3, 0, none⟩) 32 32) (by rfl) (by rfl) (gives_slice_arr g3 32 1 (by rfl) und_d32 u8_sz) ?_
  refine L_val (.slice A2 n2 c2) (by rfl) (by rfl) (gives_value _ fun _ => by rfl) ?_
  refine L_val (.int .i64 (N : Int)) (by rfl) (by rfl) (gives_value _ fun _ => by rfl) ?_
  refine L_freshP (vl := [.slice (some ⟨g3, 0, none⟩) 32 32, .slice A2 n2 c2, .int .i64 (N : Int)]) 5 .u8 N ((outL (mac bs0 bs1) bs2 ((N + 31) / 32)).take N) (by rfl) (by rfl) Want.none (by kernel_rfl) (by rfl) (fun w h => refexp_own _ _ _ (mac bs0 bs1) _ _ _ bs2 N w (lit_reads (h.blk 7 (by rfl)) rfl (mac_len _ _)) (by omega) ((hr2.below h.below).more h.below.size) (by omega) (by omega)) ?_; intro g11 cap_10 cs_10 hn_10
  refine L_val (.slice (some ⟨g11, 0, none⟩) N cap_10) (by rfl) (by rfl) (gives_value _ fun _ => by rfl) ?_
  refine L_end ?_
  intro w9 hw9
  refine wp_seq ?_
  refine seq_plain hw9 [0, 1, 2, 3] (by rfl) ?_
  refine L_val (.slice (some ⟨g7, 0, none⟩) N N) (by rfl) (by rfl) (gives_value _ fun _ => by rfl) ?_
  refine L_val (.slice (some ⟨g11, 0, none⟩) N cap_10) (by rfl) (by rfl) (gives_value _ fun _ => by rfl) ?_
  refine L_val (.bool true) (by rfl) (by rfl) (gives_call (vl := [.slice (some ⟨g7, 0, none⟩) N N, .slice (some ⟨g11, 0, none⟩) N cap_10]) (by kernel_rfl) (by rfl) (fun w h => n_same w _ _ _ _ _ _ ((outL (mac bs0 bs1) bs2 ((N + 31) / 32)).take N) ((outL (mac bs0 bs1) bs2 ((N + 31) / 32)).take N) (hn_6.reads (h.blk 4 (by rfl))) (hn_10.reads (h.blk 0 (by rfl))) (by omega) (by omega) rfl)) ?_
  refine L_val (.bool false) (by rfl) (by rfl) (gives_value _ fun _ => by rfl) ?_
  refine L_end ?_
  intro w10 hw10
  refine wp_cond_false (fr_at _ _ (by rfl) _) ?_
  refine wp_skip ?_
  change Code.wp _ _ _ _ _
  refine wp_seq ?_
  refine seq_plain hw10 [0, 1, 2] (by rfl) ?_
  refine L_val (.slice (some ⟨g7, 0, none⟩) N N) (by rfl) (by rfl) (gives_value _ fun _ => by rfl) ?_
  refine L_val (.int .i64 (N : Int)) (by rfl) (by rfl) (gives_len _ N N und_u8s (by rfl)) ?_
  refine L_val (.int .i64 0) (by rfl) (by rfl) (gives_value _ fun _ => by rfl) ?_
  refine L_end ?_
  intro w11 hw11
  refine wp_block ?_
  refine loop_down (fun (r_ : Nat) a w => ∃ (i : Nat) (lx : List Int) (csx : Array Value) (l_1 : List (Nat × Value)), N - i = r_ ∧ inFr 79 l_1 = true ∧ a = fr 79 ((10, .slice (some ⟨g7, 0, none⟩) N N) :: (11, .slice (some ⟨g10, 0, none⟩) N N) :: (12, .slice (some ⟨g11, 0, none⟩) N cap_10) :: (65, .int .i64 (N : Int)) :: (66, .int .i64 (i : Int)) :: l_1) ∧ (i ≤ N) ∧ (Nms .u8 csx cap_6 N lx) ∧ Hbl v [(g11, 5, cs_10), (g10, 5, cs_9), (g9, 5, cs_8), (g8, 5, cs_7), (g7, 5, csx), (g6, 5, cs_5), (g5, 5, cs_4), (g4, 5, cs_3), (g3, 27, (agg8 (mac bs0 bs1))), (g2, 5, cs_2), (g1, 5, cs_1)] w) ?_ _ _ _ ⟨0, (outL (mac bs0 bs1) bs2 ((N + 31) / 32)).take N, cs_6, [(66, .int .i64 0), (65, .int .i64 (N : Int)), (64, .slice (some ⟨g7, 0, none⟩) N N), (63, .bool false), (62, .bool true), (61, .slice (some ⟨g11, 0, none⟩) N cap_10), (60, .slice (some ⟨g7, 0, none⟩) N N), (12, .slice (some ⟨g11, 0, none⟩) N cap_10), (59, .slice (some ⟨g11, 0, none⟩) N cap_10), (58, .int .i64 (N : Int)), (57, .slice A2 n2 c2), (56, .slice (some ⟨g3, 0, none⟩) 32 32), (11, .slice (some ⟨g10, 0, none⟩) N N), (55, .slice (some ⟨g10, 0, none⟩) N N), (54, .int .i64 (N : Int)), (53, .slice (some ⟨g9, 0, none⟩) n2 cap_8), (52, .slice A2 n2 c2), (51, .slice (some ⟨g8, 0, none⟩) 32 cap_7), (50, .slice (some ⟨g3, 0, none⟩) 32 32), (10, .slice (some ⟨g7, 0, none⟩) N N), (49, .slice (some ⟨g7, 0, none⟩) N N), (48, .int .i64 (N : Int)), (47, .slice (some ⟨g6, 0, none⟩) n2 cap_5), (46, .slice A2 n2 c2), (45, .slice (some ⟨g5, 0, none⟩) 32 cap_4), (44, .slice (some ⟨g3, 0, none⟩) 32 32), (41, .bool false), (40, undef), (39, undef), (38, .bool false), (37, .bool false), (36, .int .i64 (N : Int)), (35, .bool false), (34, .bool true), (33, .slice (some ⟨g4, 0, none⟩) 32 cap_3), (32, .slice A1 n1 c1), (31, .slice A0 n0 c0), (30, .slice (some ⟨g3, 0, none⟩) 32 32), (9, .pointer (some ⟨g3, 0, none⟩)), (29, .agg (agg8 (mac bs0 bs1))), (28, .slice (some ⟨g2, 0, none⟩) n1 cap_2), (27, .slice A1 n1 c1), (26, .slice (some ⟨g1, 0, none⟩) n0 cap_1), (25, .slice A0 n0 c0), (24, .bool false), (23, .int .i64 (((n0 : Int) + (n1 : Int)) + (n2 : Int))), (22, .int .i64 (n2 : Int)), (21, .slice A2 n2 c2), (20, .int .i64 ((n0 : Int) + (n1 : Int))), (19, .int .i64 (n1 : Int)), (18, .slice A1 n1 c1), (17, .int .i64 (n0 : Int)), (16, .slice A0 n0 c0), (15, .bool false), (14, .bool true), (8, .bool false), (3, .int .i64 (N : Int)), (2, .slice A2 n2 c2), (1, .slice A1 n1 c1), (0, .slice A0 n0 c0)], rfl, (by rfl), (Eq.trans (Eq.trans (Eq.trans (Eq.trans (fr_dup _ _ 66 _ (by rfl) (by rfl) (by rfl)).symm (fr_dup _ _ 65 _ (by rfl) (by rfl) (by rfl)).symm) (fr_dup _ _ 12 _ (by rfl) (by rfl) (by rfl)).symm) (fr_dup _ _ 11 _ (by rfl) (by rfl) (by rfl)).symm) (fr_dup _ _ 10 _ (by rfl) (by rfl) (by rfl)).symm), Nat.zero_le _, hn_6, hw11⟩
  rintro r_1 a0 w0_1 ⟨i, lx, csx, l_1, hr_1, hl_1, rfl, hi, hx, hw0_1⟩
  by_cases hlt : i < N
  ·
    refine seq_plain hw0_1 [0] (by rfl) ?_
    refine L_val (.bool true) (by rfl) (by exact hl_1) (gives_lss (k := .i64) ((i : Int)) ((N : Int)) true (by rfl) (by rfl) (decide_eq_true (by omega))) ?_
    refine L_end ?_
    intro w12 hw12
    refine wp_seq ?_
    refine wp_cond_true (fr_at _ _ (by exact hl_1) _) ?_
    refine wp_skip ?_
    change Code.wp _ _ _ _ _
    refine wp_seq ?_
    refine wp_block ?_
    refine seq_plain hw12 [0, 1] (by rfl) ?_
    refine L_val (.int .i64 (i : Int)) (by rfl) (by exact hl_1) (gives_value _ fun _ => by rfl) ?_
    refine L_val (.int .i64 (i : Int)) (by rfl) (by exact hl_1) (gives_value _ fun _ => by rfl) ?_
    refine L_end ?_
    intro w13 hw13
    refine one_plain hw13 [0, 1, 2, 3, 4, 5, 6] (by rfl) ?_
    refine L_val (.slice (some ⟨g7, 0, none⟩) N N) (by rfl) (by exact hl_1) (gives_value _ fun _ => by rfl) ?_
    refine L_val (.int .i64 (i : Int)) (by rfl) (by exact hl_1) (gives_value _ fun _ => by rfl) ?_
    refine L_val (.pointer (some ⟨g7, 0 + (i), none⟩)) (by rfl) (by exact hl_1) (gives_index g7 0 (N) (N) ((i : Int)) (i) (by rfl) (by rfl) und_u8s u8_sz rfl (by omega)) ?_
    refine L_val (.int .u8 (gt lx i)) (by rfl) (by exact hl_1) (gives_load1 g7 (0 + (i)) _ csx (.int .u8 (gt lx i)) (by rfl) (fun _ h => h.blk 4 (by rfl)) (hx.get (by omega)) und_u8') ?_
    refine L_val (.int .u8 (bits .xor .u8 (gt lx i) 255)) (by rfl) (by exact hl_1) (gives_xorB (k := .u8) (gt lx i) (255) (by rfl) (by rfl)) ?_
    refine L_val (.pointer (some ⟨g7, 0 + (i), none⟩)) (by rfl) (by exact hl_1) (gives_index g7 0 (N) (N) ((i : Int)) (i) (by rfl) (by rfl) und_u8s u8_sz rfl (by omega)) ?_
    refine L_store1 4 g7 (0 + (i)) _ csx (.int .u8 (bits .xor .u8 (gt lx i) 255)) (by rfl) (by exact hl_1) (by rfl) (by rfl) rfl (by rfl) u8_sz (by have := hx.le; rw [hx.size]; omega) ?_
    simp only [List.set_cons_zero, List.set_cons_succ]
    have hn_11 := hx.set i (bits .xor .u8 (gt lx i) 255)
    refine L_end ?_
    intro w14 hw14
    change Code.wp _ _ _ _ _
    refine one_plain hw14 [0, 1] (by rfl) ?_
    refine L_val (.int .i64 ((i : Int) + 1)) (by rfl) (by exact hl_1) (gives_add (k := .i64) ((i : Int)) (1) ((i : Int) + 1) (by rfl) (by rfl) (IntWalk.i64_in _ (by omega))) ?_
    refine L_val (.int .i64 ((i : Int) + 1)) (by rfl) (by exact hl_1) (gives_value _ fun _ => by rfl) ?_
    refine L_end ?_
    intro w15 hw15
    change ∃ r' : Nat, r' < r_1 ∧ _
    refine ⟨_, ?_, i + 1, lx.set i (bits .xor .u8 (gt lx i) 255), (csx.setIfInBounds (0 + (i)) (.int .u8 (bits .xor .u8 (gt lx i) 255))), ((66, .int .i64 ((i : Int) + 1)) :: (75, .int .i64 ((i : Int) + 1)) :: (74, .pointer (some ⟨g7, 0 + (i), none⟩)) :: (73, .int .u8 (bits .xor .u8 (gt lx i) 255)) :: (72, .int .u8 (gt lx i)) :: (71, .pointer (some ⟨g7, 0 + (i), none⟩)) :: (70, .int .i64 (i : Int)) :: (69, .slice (some ⟨g7, 0, none⟩) N N) :: (13, .int .i64 (i : Int)) :: (68, .int .i64 (i : Int)) :: (67, .bool true) :: (10, .slice (some ⟨g7, 0, none⟩) N N) :: (11, .slice (some ⟨g10, 0, none⟩) N N) :: (12, .slice (some ⟨g11, 0, none⟩) N cap_10) :: (65, .int .i64 (N : Int)) :: (66, .int .i64 (i : Int)) :: l_1), rfl, (by exact hl_1), (Eq.trans (Eq.trans (Eq.trans (Eq.trans (fr_dup _ _ 66 _ (by exact hl_1) (by rfl) (by rfl)).symm (fr_dup _ _ 65 _ (by exact hl_1) (by rfl) (by rfl)).symm) (fr_dup _ _ 12 _ (by exact hl_1) (by rfl) (by rfl)).symm) (fr_dup _ _ 11 _ (by exact hl_1) (by rfl) (by rfl)).symm) (fr_dup _ _ 10 _ (by exact hl_1) (by rfl) (by rfl)).symm), by omega, hn_11, hw15⟩
    omega
  ·
    refine seq_plain hw0_1 [0] (by rfl) ?_
    refine L_val (.bool false) (by rfl) (by exact hl_1) (gives_lss (k := .i64) ((i : Int)) ((N : Int)) false (by rfl) (by rfl) (decide_eq_false (by omega))) ?_
    refine L_end ?_
    intro w16 hw16
    refine wp_seq ?_
    refine wp_cond_false (fr_at _ _ (by exact hl_1) _) ?_
    refine wp_exit ?_
    change Code.wp _ _ _ _ _
    change Code.wp _ _ _ _ _
    refine seq_plain hw16 [0, 1, 2, 3] (by rfl) ?_
    refine L_val (.slice (some ⟨g10, 0, none⟩) N N) (by rfl) (by exact hl_1) (gives_value _ fun _ => by rfl) ?_
    refine L_val (.slice (some ⟨g11, 0, none⟩) N cap_10) (by rfl) (by exact hl_1) (gives_value _ fun _ => by rfl) ?_
    refine L_val (.bool true) (by rfl) (by exact hl_1) (gives_call (vl := [.slice (some ⟨g10, 0, none⟩) N N, .slice (some ⟨g11, 0, none⟩) N cap_10]) (by kernel_rfl) (by rfl) (fun w h => n_same w _ _ _ _ _ _ ((outL (mac bs0 bs1) bs2 ((N + 31) / 32)).take N) ((outL (mac bs0 bs1) bs2 ((N + 31) / 32)).take N) (hn_9.reads (h.blk 1 (by rfl))) (hn_10.reads (h.blk 0 (by rfl))) (by omega) (by omega) rfl)) ?_
    refine L_val (.bool true) (by rfl) (by exact hl_1) (gives_value _ fun _ => by rfl) ?_
    refine L_end ?_
    intro w17 hw17
    refine wp_ret ?_
    change bodyPost _ _ _ Exit.ret _ _
    refine (ret_tmp (by rfl) (by exact hl_1) (by rfl) ⟨rfl, hw17.below⟩)
set_option maxRecDepth 100000 in
set_option maxHeartbeats 4000000 in
theorem keys_wrap (A0 : Option Addr) (n0 c0 : Nat) (bs0 : List Int) (A1 : Option Addr) (n1 c1 : Nat) (bs1 : List Int) (A2 : Option Addr) (n2 c2 : Nat) (bs2 : List Int) (N : Nat) (v : World) (hr0 : Reads v v.heap.size A0 n0 (bs0.map (Value.int .u8))) (hnc0 : n0 ≤ c0) (hr1 : Reads v v.heap.size A1 n1 (bs1.map (Value.int .u8))) (hnc1 : n1 ≤ c1) (hr2 : Reads v v.heap.size A2 n2 (bs2.map (Value.int .u8))) (hnc2 : n2 ≤ c2) (hl0 : n0 ≤ 140737488351232) (hl1 : n1 ≤ 140737488351232) (hl2 : n2 ≤ 140737488351232) (hgl : Glob v) (h2 : 2 ≤ v.heap.size) (hs : n0 + n1 + n2 ≤ 4096) (hN : 400 < N ∧ N ≤ 8160) : Rets 6 #[.slice A0 n0 c0, .slice A1 n1 c1, .slice A2 n2 c2, .int .i64 (N : Int)] v (.bool true) := by
  refine calls_fr4 Tryd.func6 rfl (by rfl : _ = 79) (by rfl) ?_
  have hw := Hbl.nil v
  refine seq_plain hw [0] (by rfl) ?_
  refine L_val (.bool false) (by rfl) (by rfl) (gives_value _ fun _ => by rfl) ?_
  refine L_end ?_
  intro w1 hw1
  refine wp_seq ?_
  refine seq_plain hw1 [0, 1] (by rfl) ?_
  refine L_val (.bool true) (by rfl) (by rfl) (gives_call (vl := []) (by kernel_rfl) (by rfl) (fun w h => headb_any w (hgl.below h.below h2) (Nat.le_trans h2 h.below.size))) ?_
  refine L_val (.bool false) (by rfl) (by rfl) (gives_value _ fun _ => by rfl) ?_
  refine L_end ?_
  intro w2 hw2
  refine wp_cond_false (fr_at _ _ (by rfl) _) ?_
  refine wp_skip ?_
  change Code.wp _ _ _ _ _
  refine wp_seq ?_
  refine seq_plain hw2 [0, 1, 2, 3, 4, 5, 6, 7, 8] (by rfl) ?_
  refine L_val (.slice A0 n0 c0) (by rfl) (by rfl) (gives_value _ fun _ => by rfl) ?_
  refine L_val (.int .i64 (n0 : Int)) (by rfl) (by rfl) (gives_len _ n0 c0 und_u8s (by rfl)) ?_
  refine L_val (.slice A1 n1 c1) (by rfl) (by rfl) (gives_value _ fun _ => by rfl) ?_
  refine L_val (.int .i64 (n1 : Int)) (by rfl) (by rfl) (gives_len _ n1 c1 und_u8s (by rfl)) ?_
  refine L_val (.int .i64 ((n0 : Int) + (n1 : Int))) (by rfl) (by rfl) (gives_add (k := .i64) ((n0 : Int)) ((n1 : Int)) ((n0 : Int) + (n1 : Int)) (by rfl) (by rfl) (IntWalk.i64_in _ (by omega))) ?_
  refine L_val (.slice A2 n2 c2) (by rfl) (by rfl) (gives_value _ fun _ => by rfl) ?_
  refine L_val (.int .i64 (n2 : Int)) (by rfl) (by rfl) (gives_len _ n2 c2 und_u8s (by rfl)) ?_
  refine L_val (.int .i64 (((n0 : Int) + (n1 : Int)) + (n2 : Int))) (by rfl) (by rfl) (gives_add (k := .i64) ((n0 : Int) + (n1 : Int)) ((n2 : Int)) (((n0 : Int) + (n1 : Int)) + (n2 : Int)) (by rfl) (by rfl) (IntWalk.i64_in _ (by omega))) ?_
  refine L_val (.bool false) (by rfl) (by rfl) (gives_gtr (k := .i64) (((n0 : Int) + (n1 : Int)) + (n2 : Int)) (4096) false (by rfl) (by rfl) (decide_eq_false (by omega))) ?_
  refine L_end ?_
  intro w3 hw3
  refine wp_cond_false (fr_at _ _ (by rfl) _) ?_
  refine wp_skip ?_
  change Code.wp _ _ _ _ _
  refine seq_plain hw3 [0, 1, 2, 3, 4, 5, 6] (by rfl) ?_
  refine L_val (.slice A0 n0 c0) (by rfl) (by rfl) (gives_value _ fun _ => by rfl) ?_
  refine L_freshP (vl := [.slice A0 n0 c0]) 5 .u8 n0 bs0 (by rfl) (by rfl) Want.none (by kernel_rfl) (by rfl) (fun w h => c_copy w _ _ _ bs0 ((hr0.below h.below).more h.below.size) (by omega)) ?_; intro g1 cap_1 cs_1 hn_1
  refine L_val (.slice A1 n1 c1) (by rfl) (by rfl) (gives_value _ fun _ => by rfl) ?_
  refine L_freshP (vl := [.slice A1 n1 c1]) 5 .u8 n1 bs1 (by rfl) (by rfl) Want.none (by kernel_rfl) (by rfl) (fun w h => c_copy w _ _ _ bs1 ((hr1.below h.below).more h.below.size) (by omega)) ?_; intro g2 cap_2 cs_2 hn_2
  refine L_val (.agg (agg8 (mac bs0 bs1))) (by rfl) (by rfl) (gives_call (vl := [.slice (some ⟨g1, 0, none⟩) n0 cap_1, .slice (some ⟨g2, 0, none⟩) n1 cap_2]) (by kernel_rfl) (by rfl) (fun w h => c_extract _ _ _ bs0 _ _ _ bs1 w (hn_1.reads (h.blk 1 (by rfl))) (hn_1.le) (by omega) (hn_2.reads (h.blk 0 (by rfl))) (hn_2.le) (by omega) (hgl.below h.below h2) (Nat.le_trans h2 h.below.size))) ?_
  refine L_alloc _ (by rfl) (by rfl) z_d32 (agg8 (List.replicate 32 (0 : Int))) rfl ?_; intro g3
  refine L_store (t := 27) 0 g3 (agg8 (List.replicate 32 (0 : Int))) (agg8 (mac bs0 bs1)) (by rfl) (by rfl) (by rfl) (by rfl) (by rfl) (hi_d32 _ (mac_len _ _)) (by rw [agg8_size, agg8_size, show (mac bs0 bs1).length = 32 from (mac_len _ _), show (List.replicate 32 (0 : Int)).length = 32 from (by simp)]) (agg8_one _) ?_
  simp only [List.set_cons_zero, List.set_cons_succ]
  refine L_end ?_
  intro w4 hw4
  refine wp_seq ?_
  refine seq_flow (by kernel_rfl) hw4 [] [(g3, 27, (agg8 (mac bs0 bs1))), (g2, 5, cs_2), (g1, 5, cs_1)] 6 (by rfl) ?_
  refine flow_take (i := 0) (.slice (some ⟨g3, 0, none⟩) 32 32) (by rfl) (by kernel_rfl) (by kernel_rfl) (by kernel_rfl) (by rfl) (by kernel_rfl) (List.Sublist.refl _) (gives_slice_arr g3 32 1 (by rfl) und_d32 u8_sz) ?_
  refine flow_take (i := 1) (.slice A0 n0 c0) (by rfl) (by kernel_rfl) (by kernel_rfl) (by kernel_rfl) (by rfl) (by kernel_rfl) (List.Sublist.refl _) (gives_value _ fun _ => by rfl) ?_
  refine flow_take (i := 2) (.slice A1 n1 c1) (by rfl) (by kernel_rfl) (by kernel_rfl) (by kernel_rfl) (by rfl) (by kernel_rfl) (List.Sublist.refl _) (gives_value _ fun _ => by rfl) ?_
  refine flow_one 3 (by kernel_rfl) ?_
  refine F_freshP (vl := [.slice A0 n0 c0, .slice A1 n1 c1]) 5 .u8 32 (mac bs0 bs1) (by rfl) (by rfl) Want.none (by kernel_rfl) (by rfl) (List.Sublist.refl _) (fun w h => refmac_own _ _ _ bs0 _ _ _ bs1 w ((hr0.below h.below).more h.below.size) (by omega) ((hr1.below h.below).more h.below.size) (by omega)) ?_; intro g4 cap_3 cs_3 hn_3
  refine flow_one 4 (by kernel_rfl) ?_
  refine F_val (vl := [.slice (some ⟨g3, 0, none⟩) 32 32, .slice (some ⟨g4, 0, none⟩) 32 cap_3]) (.bool true) (by rfl) (by rfl) Want.none (by kernel_rfl) (by rfl) (List.Sublist.cons _ (List.Sublist.refl _)) (fun w h => n_same w _ _ _ _ _ _ (mac bs0 bs1) (mac bs0 bs1) (lit_reads (h.blk 1 (by rfl)) rfl (mac_len _ _)) (hn_3.reads (h.blk 0 (by rfl))) (by omega) (by omega) rfl) ?_
  refine flow_take (i := 5) (.bool false) (by rfl) (by kernel_rfl) (by kernel_rfl) (by kernel_rfl) (by rfl) (by kernel_rfl) (List.Sublist.cons _ (List.Sublist.refl _)) (gives_value _ fun _ => by rfl) ?_
  refine flow_done (by kernel_rfl) ?_
  intro w5 hw5
  refine wp_cond_false (fr_at _ _ (by rfl) _) ?_
  refine wp_skip ?_
  change Code.wp _ _ _ _ _
  refine wp_seq ?_
  refine seq_plain hw5 [0, 1, 2, 3, 4, 5] (by rfl) ?_
  refine L_val (.int .i64 (N : Int)) (by rfl) (by rfl) (gives_value _ fun _ => by rfl) ?_
  refine L_val (.bool true) (by rfl) (by rfl) (gives_gtr (k := .i64) ((N : Int)) (400) true (by rfl) (by rfl) (decide_eq_true (by omega))) ?_
  refine L_val (.bool true) (by rfl) (by rfl) (gives_value _ fun _ => by rfl) ?_
  refine L_val_g (dj := 38) (.int .i64 (N : Int)) (by rfl) (by rfl) (by rfl) (by rfl) (by rfl) (gives_value _ fun _ => by rfl) ?_
  refine L_val_g (dj := 38) (.bool true) (by rfl) (by rfl) (by rfl) (by rfl) (by rfl) (gives_leq (k := .i64) ((N : Int)) (8160) true (by rfl) (by rfl) (decide_eq_true (by omega))) ?_
  refine L_val (.bool true) (by rfl) (by rfl) (gives_value _ fun _ => by rfl) ?_
  refine L_end ?_
  intro w6 hw6
  refine wp_cond_true (fr_at _ _ (by rfl) _) ?_
  refine one_plain hw6 [0, 1, 2] (by rfl) ?_
  refine L_val (.int .i64 (N : Int)) (by rfl) (by rfl) (gives_value _ fun _ => by rfl) ?_
  refine L_val (.int .i64 ((N % 256 : Nat) : Int)) (by rfl) (by rfl) (gives_and (k := .i64) (N : Int) 255 ((N % 256 : Nat) : Int) (by rfl) (by rfl) ((and_255 _ (by omega) (by omega)).trans (by omega))) ?_
  refine L_val (.int .i64 ((N % 256 : Nat) : Int)) (by rfl) (by rfl) (gives_value _ fun _ => by rfl) ?_
  refine L_end ?_
  intro w7 hw7
  change Code.wp _ _ _ _ _
  refine seq_plain hw7 [0, 1, 2, 3, 4, 5, 6] (by rfl) ?_
  refine L_val (.slice (some ⟨g3, 0, none⟩) 32 32) (by rfl) (by rfl) (gives_slice_arr g3 32 1 (by rfl) und_d32 u8_sz) ?_
  refine L_freshP (vl := [.slice (some ⟨g3, 0, none⟩) 32 32]) 5 .u8 32 (mac bs0 bs1) (by rfl) (by rfl) Want.none (by kernel_rfl) (by rfl) (fun w h => c_copy w _ _ _ (mac bs0 bs1) (lit_reads (h.blk 1 (by rfl)) rfl (mac_len _ _)) (by omega)) ?_; intro g5 cap_4 cs_4 hn_4
  refine L_val (.slice A2 n2 c2) (by rfl) (by rfl) (gives_value _ fun _ => by rfl) ?_
  refine L_freshP (vl := [.slice A2 n2 c2]) 5 .u8 n2 bs2 (by rfl) (by rfl) Want.none (by kernel_rfl) (by rfl) (fun w h => c_copy w _ _ _ bs2 ((hr2.below h.below).more h.below.size) (by omega)) ?_; intro g6 cap_5 cs_5 hn_5
  refine L_val (.int .i64 ((N % 256 : Nat) : Int)) (by rfl) (by rfl) (gives_value _ fun _ => by rfl) ?_
  refine L_freshN (vl := [.slice (some ⟨g5, 0, none⟩) 32 cap_4, .slice (some ⟨g6, 0, none⟩) n2 cap_5, .int .i64 ((N % 256 : Nat) : Int)]) 5 .u8 (N % 256) ((outL (mac bs0 bs1) bs2 ((N % 256 + 31) / 32)).take (N % 256)) (by rfl) (by rfl) Want.none (by kernel_rfl) (by rfl) (fun w h => expand_own w _ _ _ (mac bs0 bs1) _ _ _ bs2 (N % 256) (hn_4.reads (h.blk 1 (by rfl))) (hn_4.le) (hn_5.reads (h.blk 0 (by rfl))) (hn_5.le) (hgl.below h.below h2) (Nat.le_trans h2 h.below.size) (by omega) (by omega) (by omega)) ?_; intro g7 cap_6 cs_6 hn_6
  refine L_val (.slice (some ⟨g7, 0, none⟩) (N % 256) (N % 256)) (by rfl) (by rfl) (gives_value _ fun _ => by rfl) ?_
  refine L_end ?_
  intro w8 hw8
  refine seq_plain hw8 [0, 1, 2, 3, 4, 5, 6] (by rfl) ?_
  refine L_val (.slice (some ⟨g3, 0, none⟩) 32 32) (by rfl) (by rfl) (gives_slice_arr g3 32 1 (by rfl) und_d32 u8_sz) ?_
  refine L_freshP (vl := [.slice (some ⟨g3, 0, none⟩) 32 32]) 5 .u8 32 (mac bs0 bs1) (by rfl) (by rfl) Want.none (by kernel_rfl) (by rfl) (fun w h => c_copy w _ _ _ (mac bs0 bs1) (lit_reads (h.blk 4 (by rfl)) rfl (mac_len _ _)) (by omega)) ?_; intro g8 cap_7 cs_7 hn_7
  refine L_val (.slice A2 n2 c2) (by rfl) (by rfl) (gives_value _ fun _ => by rfl) ?_
  refine L_freshP (vl := [.slice A2 n2 c2]) 5 .u8 n2 bs2 (by rfl) (by rfl) Want.none (by kernel_rfl) (by rfl) (fun w h => c_copy w _ _ _ bs2 ((hr2.below h.below).more h.below.size) (by omega)) ?_; intro g9 cap_8 cs_8 hn_8
  refine L_val (.int .i64 ((N % 256 : Nat) : Int)) (by rfl) (by rfl) (gives_value _ fun _ => by rfl) ?_
  refine L_freshN (vl := [.slice (some ⟨g8, 0, none⟩) 32 cap_7, .slice (some ⟨g9, 0, none⟩) n2 cap_8, .int .i64 ((N % 256 : Nat) : Int)]) 5 .u8 (N % 256) ((outL (mac bs0 bs1) bs2 ((N % 256 + 31) / 32)).take (N % 256)) (by rfl) (by rfl) Want.none (by kernel_rfl) (by rfl) (fun w h => expand_own w _ _ _ (mac bs0 bs1) _ _ _ bs2 (N % 256) (hn_7.reads (h.blk 1 (by rfl))) (hn_7.le) (hn_8.reads (h.blk 0 (by rfl))) (hn_8.le) (hgl.below h.below h2) (Nat.le_trans h2 h.below.size) (by omega) (by omega) (by omega)) ?_; intro g10 cap_9 cs_9 hn_9
  refine L_val (.slice (some ⟨g10, 0, none⟩) (N % 256) (N % 256)) (by rfl) (by rfl) (gives_value _ fun _ => by rfl) ?_
  refine L_end ?_
  intro w9 hw9
  refine seq_plain hw9 [0, 1, 2, 3, 4] (by rfl) ?_
  refine L_val (.slice (some ⟨g3, 0, none⟩) 32 32) (by rfl) (by rfl) (gives_slice_arr g3 32 1 (by rfl) und_d32 u8_sz) ?_
  refine L_val (.slice A2 n2 c2) (by rfl) (by rfl) (gives_value _ fun _ => by rfl) ?_
  refine L_val (.int .i64 ((N % 256 : Nat) : Int)) (by rfl) (by rfl) (gives_value _ fun _ => by rfl) ?_
  refine L_freshP (vl := [.slice (some ⟨g3, 0, none⟩) 32 32, .slice A2 n2 c2, .int .i64 ((N % 256 : Nat) : Int)]) 5 .u8 (N % 256) ((outL (mac bs0 bs1) bs2 ((N % 256 + 31) / 32)).take (N % 256)) (by rfl) (by rfl) Want.none (by kernel_rfl) (by rfl) (fun w h => refexp_own _ _ _ (mac bs0 bs1) _ _ _ bs2 (N % 256) w (lit_reads (h.blk 7 (by rfl)) rfl (mac_len _ _)) (by omega) ((hr2.below h.below).more h.below.size) (by omega) (by omega)) ?_; intro g11 cap_10 cs_10 hn_10
  refine L_val (.slice (some ⟨g11, 0, none⟩) (N % 256) cap_10) (by rfl) (by rfl) (gives_value _ fun _ => by rfl) ?_
  refine L_end ?_
  intro w10 hw10
  refine wp_seq ?_
  refine seq_plain hw10 [0, 1, 2, 3] (by rfl) ?_
  refine L_val (.slice (some ⟨g7, 0, none⟩) (N % 256) (N % 256)) (by rfl) (by rfl) (gives_value _ fun _ => by rfl) ?_
  refine L_val (.slice (some ⟨g11, 0, none⟩) (N % 256) cap_10) (by rfl) (by rfl) (gives_value _ fun _ => by rfl) ?_
  refine L_val (.bool true) (by rfl) (by rfl) (gives_call (vl := [.slice (some ⟨g7, 0, none⟩) (N % 256) (N % 256), .slice (some ⟨g11, 0, none⟩) (N % 256) cap_10]) (by kernel_rfl) (by rfl) (fun w h => n_same w _ _ _ _ _ _ ((outL (mac bs0 bs1) bs2 ((N % 256 + 31) / 32)).take (N % 256)) ((outL (mac bs0 bs1) bs2 ((N % 256 + 31) / 32)).take (N % 256)) (hn_6.reads (h.blk 4 (by rfl))) (hn_10.reads (h.blk 0 (by rfl))) (by omega) (by omega) rfl)) ?_
  refine L_val (.bool false) (by rfl) (by rfl) (gives_value _ fun _ => by rfl) ?_
  refine L_end ?_
  intro w11 hw11
  refine wp_cond_false (fr_at _ _ (by rfl) _) ?_
  refine wp_skip ?_
  change Code.wp _ _ _ _ _
  refine wp_seq ?_
  refine seq_plain hw11 [0, 1, 2] (by rfl) ?_
  refine L_val (.slice (some ⟨g7, 0, none⟩) (N % 256) (N % 256)) (by rfl) (by rfl) (gives_value _ fun _ => by rfl) ?_
  refine L_val (.int .i64 (((N % 256) : Nat) : Int)) (by rfl) (by rfl) (gives_len _ (N % 256) (N % 256) und_u8s (by rfl)) ?_
  refine L_val (.int .i64 0) (by rfl) (by rfl) (gives_value _ fun _ => by rfl) ?_
  refine L_end ?_
  intro w12 hw12
  refine wp_block ?_
  refine loop_down (fun (r_ : Nat) a w => ∃ (i : Nat) (lx : List Int) (csx : Array Value) (l_1 : List (Nat × Value)), (N % 256) - i = r_ ∧ inFr 79 l_1 = true ∧ a = fr 79 ((10, .slice (some ⟨g7, 0, none⟩) (N % 256) (N % 256)) :: (11, .slice (some ⟨g10, 0, none⟩) (N % 256) (N % 256)) :: (12, .slice (some ⟨g11, 0, none⟩) (N % 256) cap_10) :: (65, .int .i64 (((N % 256) : Nat) : Int)) :: (66, .int .i64 (i : Int)) :: l_1) ∧ (i ≤ (N % 256)) ∧ (Nms .u8 csx cap_6 (N % 256) lx) ∧ Hbl v [(g11, 5, cs_10), (g10, 5, cs_9), (g9, 5, cs_8), (g8, 5, cs_7), (g7, 5, csx), (g6, 5, cs_5), (g5, 5, cs_4), (g4, 5, cs_3), (g3, 27, (agg8 (mac bs0 bs1))), (g2, 5, cs_2), (g1, 5, cs_1)] w) ?_ _ _ _ ⟨0, (outL (mac bs0 bs1) bs2 ((N % 256 + 31) / 32)).take (N % 256), cs_6, [(66, .int .i64 0), (65, .int .i64 (((N % 256) : Nat) : Int)), (64, .slice (some ⟨g7, 0, none⟩) (N % 256) (N % 256)), (63, .bool false), (62, .bool true), (61, .slice (some ⟨g11, 0, none⟩) (N % 256) cap_10), (60, .slice (some ⟨g7, 0, none⟩) (N % 256) (N % 256)), (12, .slice (some ⟨g11, 0, none⟩) (N % 256) cap_10), (59, .slice (some ⟨g11, 0, none⟩) (N % 256) cap_10), (58, .int .i64 ((N % 256 : Nat) : Int)), (57, .slice A2 n2 c2), (56, .slice (some ⟨g3, 0, none⟩) 32 32), (11, .slice (some ⟨g10, 0, none⟩) (N % 256) (N % 256)), (55, .slice (some ⟨g10, 0, none⟩) (N % 256) (N % 256)), (54, .int .i64 ((N % 256 : Nat) : Int)), (53, .slice (some ⟨g9, 0, none⟩) n2 cap_8), (52, .slice A2 n2 c2), (51, .slice (some ⟨g8, 0, none⟩) 32 cap_7), (50, .slice (some ⟨g3, 0, none⟩) 32 32), (10, .slice (some ⟨g7, 0, none⟩) (N % 256) (N % 256)), (49, .slice (some ⟨g7, 0, none⟩) (N % 256) (N % 256)), (48, .int .i64 ((N % 256 : Nat) : Int)), (47, .slice (some ⟨g6, 0, none⟩) n2 cap_5), (46, .slice A2 n2 c2), (45, .slice (some ⟨g5, 0, none⟩) 32 cap_4), (44, .slice (some ⟨g3, 0, none⟩) 32 32), (3, .int .i64 ((N % 256 : Nat) : Int)), (43, .int .i64 ((N % 256 : Nat) : Int)), (42, .int .i64 (N : Int)), (41, .bool true), (40, .bool true), (39, .int .i64 (N : Int)), (38, .bool true), (37, .bool true), (36, .int .i64 (N : Int)), (35, .bool false), (34, .bool true), (33, .slice (some ⟨g4, 0, none⟩) 32 cap_3), (32, .slice A1 n1 c1), (31, .slice A0 n0 c0), (30, .slice (some ⟨g3, 0, none⟩) 32 32), (9, .pointer (some ⟨g3, 0, none⟩)), (29, .agg (agg8 (mac bs0 bs1))), (28, .slice (some ⟨g2, 0, none⟩) n1 cap_2), (27, .slice A1 n1 c1), (26, .slice (some ⟨g1, 0, none⟩) n0 cap_1), (25, .slice A0 n0 c0), (24, .bool false), (23, .int .i64 (((n0 : Int) + (n1 : Int)) + (n2 : Int))), (22, .int .i64 (n2 : Int)), (21, .slice A2 n2 c2), (20, .int .i64 ((n0 : Int) + (n1 : Int))), (19, .int .i64 (n1 : Int)), (18, .slice A1 n1 c1), (17, .int .i64 (n0 : Int)), (16, .slice A0 n0 c0), (15, .bool false), (14, .bool true), (8, .bool false), (3, .int .i64 (N : Int)), (2, .slice A2 n2 c2), (1, .slice A1 n1 c1), (0, .slice A0 n0 c0)], rfl, (by rfl), (Eq.trans (Eq.trans (Eq.trans (Eq.trans (fr_dup _ _ 66 _ (by rfl) (by rfl) (by rfl)).symm (fr_dup _ _ 65 _ (by rfl) (by rfl) (by rfl)).symm) (fr_dup _ _ 12 _ (by rfl) (by rfl) (by rfl)).symm) (fr_dup _ _ 11 _ (by rfl) (by rfl) (by rfl)).symm) (fr_dup _ _ 10 _ (by rfl) (by rfl) (by rfl)).symm), Nat.zero_le _, hn_6, hw12⟩
  rintro r_1 a0 w0_1 ⟨i, lx, csx, l_1, hr_1, hl_1, rfl, hi, hx, hw0_1⟩
  by_cases hlt : i < (N % 256)
  ·
    refine seq_plain hw0_1 [0] (by rfl) ?_
    refine L_val (.bool true) (by rfl) (by exact hl_1) (gives_lss (k := .i64) ((i : Int)) ((((N % 256) : Nat) : Int)) true (by rfl) (by rfl) (decide_eq_true (by omega))) ?_
    refine L_end ?_
    intro w13 hw13
    refine wp_seq ?_
    refine wp_cond_true (fr_at _ _ (by exact hl_1) _) ?_
    refine wp_skip ?_
    change Code.wp _ _ _ _ _
    refine wp_seq ?_
    refine wp_block ?_
    refine seq_plain hw13 [0, 1] (by rfl) ?_
    refine L_val (.int .i64 (i : Int)) (by rfl) (by exact hl_1) (gives_value _ fun _ => by rfl) ?_
    refine L_val (.int .i64 (i : Int)) (by rfl) (by exact hl_1) (gives_value _ fun _ => by rfl) ?_
    refine L_end ?_
    intro w14 hw14
    refine one_plain hw14 [0, 1, 2, 3, 4, 5, 6] (by rfl) ?_
    refine L_val (.slice (some ⟨g7, 0, none⟩) (N % 256) (N % 256)) (by rfl) (by exact hl_1) (gives_value _ fun _ => by rfl) ?_
    refine L_val (.int .i64 (i : Int)) (by rfl) (by exact hl_1) (gives_value _ fun _ => by rfl) ?_
    refine L_val (.pointer (some ⟨g7, 0 + (i), none⟩)) (by rfl) (by exact hl_1) (gives_index g7 0 ((N % 256)) ((N % 256)) ((i : Int)) (i) (by rfl) (by rfl) und_u8s u8_sz rfl (by omega)) ?_
    refine L_val (.int .u8 (gt lx i)) (by rfl) (by exact hl_1) (gives_load1 g7 (0 + (i)) _ csx (.int .u8 (gt lx i)) (by rfl) (fun _ h => h.blk 4 (by rfl)) (hx.get (by omega)) und_u8') ?_
    refine L_val (.int .u8 (bits .xor .u8 (gt lx i) 255)) (by rfl) (by exact hl_1) (gives_xorB (k := .u8) (gt lx i) (255) (by rfl) (by rfl)) ?_
    refine L_val (.pointer (some ⟨g7, 0 + (i), none⟩)) (by rfl) (by exact hl_1) (gives_index g7 0 ((N % 256)) ((N % 256)) ((i : Int)) (i) (by rfl) (by rfl) und_u8s u8_sz rfl (by omega)) ?_
    refine L_store1 4 g7 (0 + (i)) _ csx (.int .u8 (bits .xor .u8 (gt lx i) 255)) (by rfl) (by exact hl_1) (by rfl) (by rfl) rfl (by rfl) u8_sz (by have := hx.le; rw [hx.size]; omega) ?_
    simp only [List.set_cons_zero, List.set_cons_succ]
    have hn_11 := hx.set i (bits .xor .u8 (gt lx i) 255)
    refine L_end ?_
    intro w15 hw15
    change Code.wp _ _ _ _ _
    refine one_plain hw15 [0, 1] (by rfl) ?_
    refine L_val (.int .i64 ((i : Int) + 1)) (by rfl) (by exact hl_1) (gives_add (k := .i64) ((i : Int)) (1) ((i : Int) + 1) (by rfl) (by rfl) (IntWalk.i64_in _ (by omega))) ?_
    refine L_val (.int .i64 ((i : Int) + 1)) (by rfl) (by exact hl_1) (gives_value _ fun _ => by rfl) ?_
    refine L_end ?_
    intro w16 hw16
    change ∃ r' : Nat, r' < r_1 ∧ _
    refine ⟨_, ?_, i + 1, lx.set i (bits .xor .u8 (gt lx i) 255), (csx.setIfInBounds (0 + (i)) (.int .u8 (bits .xor .u8 (gt lx i) 255))), ((66, .int .i64 ((i : Int) + 1)) :: (75, .int .i64 ((i : Int) + 1)) :: (74, .pointer (some ⟨g7, 0 + (i), none⟩)) :: (73, .int .u8 (bits .xor .u8 (gt lx i) 255)) :: (72, .int .u8 (gt lx i)) :: (71, .pointer (some ⟨g7, 0 + (i), none⟩)) :: (70, .int .i64 (i : Int)) :: (69, .slice (some ⟨g7, 0, none⟩) (N % 256) (N % 256)) :: (13, .int .i64 (i : Int)) :: (68, .int .i64 (i : Int)) :: (67, .bool true) :: (10, .slice (some ⟨g7, 0, none⟩) (N % 256) (N % 256)) :: (11, .slice (some ⟨g10, 0, none⟩) (N % 256) (N % 256)) :: (12, .slice (some ⟨g11, 0, none⟩) (N % 256) cap_10) :: (65, .int .i64 (((N % 256) : Nat) : Int)) :: (66, .int .i64 (i : Int)) :: l_1), rfl, (by exact hl_1), (Eq.trans (Eq.trans (Eq.trans (Eq.trans (fr_dup _ _ 66 _ (by exact hl_1) (by rfl) (by rfl)).symm (fr_dup _ _ 65 _ (by exact hl_1) (by rfl) (by rfl)).symm) (fr_dup _ _ 12 _ (by exact hl_1) (by rfl) (by rfl)).symm) (fr_dup _ _ 11 _ (by exact hl_1) (by rfl) (by rfl)).symm) (fr_dup _ _ 10 _ (by exact hl_1) (by rfl) (by rfl)).symm), by omega, hn_11, hw16⟩
    omega
  ·
    refine seq_plain hw0_1 [0] (by rfl) ?_
    refine L_val (.bool false) (by rfl) (by exact hl_1) (gives_lss (k := .i64) ((i : Int)) ((((N % 256) : Nat) : Int)) false (by rfl) (by rfl) (decide_eq_false (by omega))) ?_
    refine L_end ?_
    intro w17 hw17
    refine wp_seq ?_
    refine wp_cond_false (fr_at _ _ (by exact hl_1) _) ?_
    refine wp_exit ?_
    change Code.wp _ _ _ _ _
    change Code.wp _ _ _ _ _
    refine seq_plain hw17 [0, 1, 2, 3] (by rfl) ?_
    refine L_val (.slice (some ⟨g10, 0, none⟩) (N % 256) (N % 256)) (by rfl) (by exact hl_1) (gives_value _ fun _ => by rfl) ?_
    refine L_val (.slice (some ⟨g11, 0, none⟩) (N % 256) cap_10) (by rfl) (by exact hl_1) (gives_value _ fun _ => by rfl) ?_
    refine L_val (.bool true) (by rfl) (by exact hl_1) (gives_call (vl := [.slice (some ⟨g10, 0, none⟩) (N % 256) (N % 256), .slice (some ⟨g11, 0, none⟩) (N % 256) cap_10]) (by kernel_rfl) (by rfl) (fun w h => n_same w _ _ _ _ _ _ ((outL (mac bs0 bs1) bs2 ((N % 256 + 31) / 32)).take (N % 256)) ((outL (mac bs0 bs1) bs2 ((N % 256 + 31) / 32)).take (N % 256)) (hn_9.reads (h.blk 1 (by rfl))) (hn_10.reads (h.blk 0 (by rfl))) (by omega) (by omega) rfl)) ?_
    refine L_val (.bool true) (by rfl) (by exact hl_1) (gives_value _ fun _ => by rfl) ?_
    refine L_end ?_
    intro w18 hw18
    refine wp_ret ?_
    change bodyPost _ _ _ Exit.ret _ _
    refine (ret_tmp (by rfl) (by exact hl_1) (by rfl) ⟨rfl, hw18.below⟩)
set_option maxRecDepth 100000 in
set_option maxHeartbeats 4000000 in
theorem keys_neg (A0 : Option Addr) (n0 c0 : Nat) (bs0 : List Int) (A1 : Option Addr) (n1 c1 : Nat) (bs1 : List Int) (A2 : Option Addr) (n2 c2 : Nat) (bs2 : List Int) (N : Int) (v : World) (hr0 : Reads v v.heap.size A0 n0 (bs0.map (Value.int .u8))) (hnc0 : n0 ≤ c0) (hr1 : Reads v v.heap.size A1 n1 (bs1.map (Value.int .u8))) (hnc1 : n1 ≤ c1) (hr2 : Reads v v.heap.size A2 n2 (bs2.map (Value.int .u8))) (hnc2 : n2 ≤ c2) (hl0 : n0 ≤ 140737488351232) (hl1 : n1 ≤ 140737488351232) (hl2 : n2 ≤ 140737488351232) (hgl : Glob v) (h2 : 2 ≤ v.heap.size) (hs : n0 + n1 + n2 ≤ 4096) (hN : N < 0) : Rets 6 #[.slice A0 n0 c0, .slice A1 n1 c1, .slice A2 n2 c2, .int .i64 N] v (.bool true) := by
  refine calls_fr4 Tryd.func6 rfl (by rfl : _ = 79) (by rfl) ?_
  have hw := Hbl.nil v
  refine seq_plain hw [0] (by rfl) ?_
  refine L_val (.bool false) (by rfl) (by rfl) (gives_value _ fun _ => by rfl) ?_
  refine L_end ?_
  intro w1 hw1
  refine wp_seq ?_
  refine seq_plain hw1 [0, 1] (by rfl) ?_
  refine L_val (.bool true) (by rfl) (by rfl) (gives_call (vl := []) (by kernel_rfl) (by rfl) (fun w h => headb_any w (hgl.below h.below h2) (Nat.le_trans h2 h.below.size))) ?_
  refine L_val (.bool false) (by rfl) (by rfl) (gives_value _ fun _ => by rfl) ?_
  refine L_end ?_
  intro w2 hw2
  refine wp_cond_false (fr_at _ _ (by rfl) _) ?_
  refine wp_skip ?_
  change Code.wp _ _ _ _ _
  refine wp_seq ?_
  refine seq_plain hw2 [0, 1, 2, 3, 4, 5, 6, 7, 8] (by rfl) ?_
  refine L_val (.slice A0 n0 c0) (by rfl) (by rfl) (gives_value _ fun _ => by rfl) ?_
  refine L_val (.int .i64 (n0 : Int)) (by rfl) (by rfl) (gives_len _ n0 c0 und_u8s (by rfl)) ?_
  refine L_val (.slice A1 n1 c1) (by rfl) (by rfl) (gives_value _ fun _ => by rfl) ?_
  refine L_val (.int .i64 (n1 : Int)) (by rfl) (by rfl) (gives_len _ n1 c1 und_u8s (by rfl)) ?_
  refine L_val (.int .i64 ((n0 : Int) + (n1 : Int))) (by rfl) (by rfl) (gives_add (k := .i64) ((n0 : Int)) ((n1 : Int)) ((n0 : Int) + (n1 : Int)) (by rfl) (by rfl) (IntWalk.i64_in _ (by omega))) ?_
  refine L_val (.slice A2 n2 c2) (by rfl) (by rfl) (gives_value _ fun _ => by rfl) ?_
  refine L_val (.int .i64 (n2 : Int)) (by rfl) (by rfl) (gives_len _ n2 c2 und_u8s (by rfl)) ?_
  refine L_val (.int .i64 (((n0 : Int) + (n1 : Int)) + (n2 : Int))) (by rfl) (by rfl) (gives_add (k := .i64) ((n0 : Int) + (n1 : Int)) ((n2 : Int)) (((n0 : Int) + (n1 : Int)) + (n2 : Int)) (by rfl) (by rfl) (IntWalk.i64_in _ (by omega))) ?_
  refine L_val (.bool false) (by rfl) (by rfl) (gives_gtr (k := .i64) (((n0 : Int) + (n1 : Int)) + (n2 : Int)) (4096) false (by rfl) (by rfl) (decide_eq_false (by omega))) ?_
  refine L_end ?_
  intro w3 hw3
  refine wp_cond_false (fr_at _ _ (by rfl) _) ?_
  refine wp_skip ?_
  change Code.wp _ _ _ _ _
  refine seq_plain hw3 [0, 1, 2, 3, 4, 5, 6] (by rfl) ?_
  refine L_val (.slice A0 n0 c0) (by rfl) (by rfl) (gives_value _ fun _ => by rfl) ?_
  refine L_freshP (vl := [.slice A0 n0 c0]) 5 .u8 n0 bs0 (by rfl) (by rfl) Want.none (by kernel_rfl) (by rfl) (fun w h => c_copy w _ _ _ bs0 ((hr0.below h.below).more h.below.size) (by omega)) ?_; intro g1 cap_1 cs_1 hn_1
  refine L_val (.slice A1 n1 c1) (by rfl) (by rfl) (gives_value _ fun _ => by rfl) ?_
  refine L_freshP (vl := [.slice A1 n1 c1]) 5 .u8 n1 bs1 (by rfl) (by rfl) Want.none (by kernel_rfl) (by rfl) (fun w h => c_copy w _ _ _ bs1 ((hr1.below h.below).more h.below.size) (by omega)) ?_; intro g2 cap_2 cs_2 hn_2
  refine L_val (.agg (agg8 (mac bs0 bs1))) (by rfl) (by rfl) (gives_call (vl := [.slice (some ⟨g1, 0, none⟩) n0 cap_1, .slice (some ⟨g2, 0, none⟩) n1 cap_2]) (by kernel_rfl) (by rfl) (fun w h => c_extract _ _ _ bs0 _ _ _ bs1 w (hn_1.reads (h.blk 1 (by rfl))) (hn_1.le) (by omega) (hn_2.reads (h.blk 0 (by rfl))) (hn_2.le) (by omega) (hgl.below h.below h2) (Nat.le_trans h2 h.below.size))) ?_
  refine L_alloc _ (by rfl) (by rfl) z_d32 (agg8 (List.replicate 32 (0 : Int))) rfl ?_; intro g3
  refine L_store (t := 27) 0 g3 (agg8 (List.replicate 32 (0 : Int))) (agg8 (mac bs0 bs1)) (by rfl) (by rfl) (by rfl) (by rfl) (by rfl) (hi_d32 _ (mac_len _ _)) (by rw [agg8_size, agg8_size, show (mac bs0 bs1).length = 32 from (mac_len _ _), show (List.replicate 32 (0 : Int)).length = 32 from (by simp)]) (agg8_one _) ?_
  simp only [List.set_cons_zero, List.set_cons_succ]
  refine L_end ?_
  intro w4 hw4
  refine wp_seq ?_
  refine seq_flow (by kernel_rfl) hw4 [] [(g3, 27, (agg8 (mac bs0 bs1))), (g2, 5, cs_2), (g1, 5, cs_1)] 6 (by rfl) ?_
  refine flow_take (i := 0) (.slice (some ⟨g3, 0, none⟩) 32 32) (by rfl) (by kernel_rfl) (by kernel_rfl) (by kernel_rfl) (by rfl) (by kernel_rfl) (List.Sublist.refl _) (gives_slice_arr g3 32 1 (by rfl) und_d32 u8_sz) ?_
  refine flow_take (i := 1) (.slice A0 n0 c0) (by rfl) (by kernel_rfl) (by kernel_rfl) (by kernel_rfl) (by rfl) (by kernel_rfl) (List.Sublist.refl _) (gives_value _ fun _ => by rfl) ?_
  refine flow_take (i := 2) (.slice A1 n1 c1) (by rfl) (by kernel_rfl) (by kernel_rfl) (by kernel_rfl) (by rfl) (by kernel_rfl) (List.Sublist.refl _) (gives_value _ fun _ => by rfl) ?_
  refine flow_one 3 (by kernel_rfl) ?_
  refine F_freshP (vl := [.slice A0 n0 c0, .slice A1 n1 c1]) 5 .u8 32 (mac bs0 bs1) (by rfl) (by rfl) Want.none (by kernel_rfl) (by rfl) (List.Sublist.refl _) (fun w h => refmac_own _ _ _ bs0 _ _ _ bs1 w ((hr0.below h.below).more h.below.size) (by omega) ((hr1.below h.below).more h.below.size) (by omega)) ?_; intro g4 cap_3 cs_3 hn_3
  refine flow_one 4 (by kernel_rfl) ?_
  refine F_val (vl := [.slice (some ⟨g3, 0, none⟩) 32 32, .slice (some ⟨g4, 0, none⟩) 32 cap_3]) (.bool true) (by rfl) (by rfl) Want.none (by kernel_rfl) (by rfl) (List.Sublist.cons _ (List.Sublist.refl _)) (fun w h => n_same w _ _ _ _ _ _ (mac bs0 bs1) (mac bs0 bs1) (lit_reads (h.blk 1 (by rfl)) rfl (mac_len _ _)) (hn_3.reads (h.blk 0 (by rfl))) (by omega) (by omega) rfl) ?_
  refine flow_take (i := 5) (.bool false) (by rfl) (by kernel_rfl) (by kernel_rfl) (by kernel_rfl) (by rfl) (by kernel_rfl) (List.Sublist.cons _ (List.Sublist.refl _)) (gives_value _ fun _ => by rfl) ?_
  refine flow_done (by kernel_rfl) ?_
  intro w5 hw5
  refine wp_cond_false (fr_at _ _ (by rfl) _) ?_
  refine wp_skip ?_
  change Code.wp _ _ _ _ _
  refine wp_seq ?_
  refine seq_plain hw5 [0, 1, 2, 3, 4, 5] (by rfl) ?_
  refine L_val (.int .i64 N) (by rfl) (by rfl) (gives_value _ fun _ => by rfl) ?_
  refine L_val (.bool false) (by rfl) (by rfl) (gives_gtr (k := .i64) (N) (400) false (by rfl) (by rfl) (decide_eq_false (by omega))) ?_
  refine L_val (.bool false) (by rfl) (by rfl) (gives_value _ fun _ => by rfl) ?_
  refine L_skip (dj := 38) (by rfl) (by rfl) (by rfl) (by rfl) (by rfl) ?_
  refine L_skip (dj := 38) (by rfl) (by rfl) (by rfl) (by rfl) (by rfl) ?_
  refine L_val (.bool false) (by rfl) (by rfl) (gives_value _ fun _ => by rfl) ?_
  refine L_end ?_
  intro w6 hw6
  refine wp_cond_false (fr_at _ _ (by rfl) _) ?_
  refine wp_skip ?_
  change Code.wp _ _ _ _ _
  refine seq_plain hw6 [0, 1, 2, 3, 4, 5, 6] (by rfl) ?_
  refine L_val (.slice (some ⟨g3, 0, none⟩) 32 32) (by rfl) (by rfl) (gives_slice_arr g3 32 1 (by rfl) und_d32 u8_sz) ?_
  refine L_freshP (vl := [.slice (some ⟨g3, 0, none⟩) 32 32]) 5 .u8 32 (mac bs0 bs1) (by rfl) (by rfl) Want.none (by kernel_rfl) (by rfl) (fun w h => c_copy w _ _ _ (mac bs0 bs1) (lit_reads (h.blk 1 (by rfl)) rfl (mac_len _ _)) (by omega)) ?_; intro g5 cap_4 cs_4 hn_4
  refine L_val (.slice A2 n2 c2) (by rfl) (by rfl) (gives_value _ fun _ => by rfl) ?_
  refine L_freshP (vl := [.slice A2 n2 c2]) 5 .u8 n2 bs2 (by rfl) (by rfl) Want.none (by kernel_rfl) (by rfl) (fun w h => c_copy w _ _ _ bs2 ((hr2.below h.below).more h.below.size) (by omega)) ?_; intro g6 cap_5 cs_5 hn_5
  refine L_val (.int .i64 N) (by rfl) (by rfl) (gives_value _ fun _ => by rfl) ?_
  refine L_val (.slice none 0 0) (by rfl) (by rfl) (gives_call (vl := [.slice (some ⟨g5, 0, none⟩) 32 cap_4, .slice (some ⟨g6, 0, none⟩) n2 cap_5, .int .i64 N]) (by kernel_rfl) (by rfl) (fun w h => c_expand_out w _ _ _ _ _ _ _ (by omega))) ?_
  refine L_val (.slice none 0 0) (by rfl) (by rfl) (gives_value _ fun _ => by rfl) ?_
  refine L_end ?_
  intro w7 hw7
  refine seq_plain hw7 [0, 1, 2, 3, 4, 5, 6] (by rfl) ?_
  refine L_val (.slice (some ⟨g3, 0, none⟩) 32 32) (by rfl) (by rfl) (gives_slice_arr g3 32 1 (by rfl) und_d32 u8_sz) ?_
  refine L_freshP (vl := [.slice (some ⟨g3, 0, none⟩) 32 32]) 5 .u8 32 (mac bs0 bs1) (by rfl) (by rfl) Want.none (by kernel_rfl) (by rfl) (fun w h => c_copy w _ _ _ (mac bs0 bs1) (lit_reads (h.blk 3 (by rfl)) rfl (mac_len _ _)) (by omega)) ?_; intro g7 cap_6 cs_6 hn_6
  refine L_val (.slice A2 n2 c2) (by rfl) (by rfl) (gives_value _ fun _ => by rfl) ?_
  refine L_freshP (vl := [.slice A2 n2 c2]) 5 .u8 n2 bs2 (by rfl) (by rfl) Want.none (by kernel_rfl) (by rfl) (fun w h => c_copy w _ _ _ bs2 ((hr2.below h.below).more h.below.size) (by omega)) ?_; intro g8 cap_7 cs_7 hn_7
  refine L_val (.int .i64 N) (by rfl) (by rfl) (gives_value _ fun _ => by rfl) ?_
  refine L_val (.slice none 0 0) (by rfl) (by rfl) (gives_call (vl := [.slice (some ⟨g7, 0, none⟩) 32 cap_6, .slice (some ⟨g8, 0, none⟩) n2 cap_7, .int .i64 N]) (by kernel_rfl) (by rfl) (fun w h => c_expand_out w _ _ _ _ _ _ _ (by omega))) ?_
  refine L_val (.slice none 0 0) (by rfl) (by rfl) (gives_value _ fun _ => by rfl) ?_
  refine L_end ?_
  intro w8 hw8
  refine seq_plain hw8 [0, 1, 2, 3, 4] (by rfl) ?_
  refine L_val (.slice (some ⟨g3, 0, none⟩) 32 32) (by rfl) (by rfl) (gives_slice_arr g3 32 1 (by rfl) und_d32 u8_sz) ?_
  refine L_val (.slice A2 n2 c2) (by rfl) (by rfl) (gives_value _ fun _ => by rfl) ?_
  refine L_val (.int .i64 N) (by rfl) (by rfl) (gives_value _ fun _ => by rfl) ?_
  refine L_val (.slice none 0 0) (by rfl) (by rfl) (gives_call (vl := [.slice (some ⟨g3, 0, none⟩) 32 32, .slice A2 n2 c2, .int .i64 N]) (by kernel_rfl) (by rfl) (fun w h => refexp_neg _ _ _ _ _ _ _ w (by omega))) ?_
  refine L_val (.slice none 0 0) (by rfl) (by rfl) (gives_value _ fun _ => by rfl) ?_
  refine L_end ?_
  intro w9 hw9
  refine wp_seq ?_
  refine seq_plain hw9 [0, 1, 2, 3] (by rfl) ?_
  refine L_val (.slice none 0 0) (by rfl) (by rfl) (gives_value _ fun _ => by rfl) ?_
  refine L_val (.slice none 0 0) (by rfl) (by rfl) (gives_value _ fun _ => by rfl) ?_
  refine L_val (.bool true) (by rfl) (by rfl) (gives_call (vl := [.slice none 0 0, .slice none 0 0]) (by kernel_rfl) (by rfl) (fun w h => n_same w _ _ _ _ _ _ ([]) ([]) Reads.nil_ Reads.nil_ (by omega) (by omega) rfl)) ?_
  refine L_val (.bool false) (by rfl) (by rfl) (gives_value _ fun _ => by rfl) ?_
  refine L_end ?_
  intro w10 hw10
  refine wp_cond_false (fr_at _ _ (by rfl) _) ?_
  refine wp_skip ?_
  change Code.wp _ _ _ _ _
  refine wp_seq ?_
  refine seq_plain hw10 [0, 1, 2] (by rfl) ?_
  refine L_val (.slice none 0 0) (by rfl) (by rfl) (gives_value _ fun _ => by rfl) ?_
  refine L_val (.int .i64 (0 : Int)) (by rfl) (by rfl) (gives_len _ 0 0 und_u8s (by rfl)) ?_
  refine L_val (.int .i64 0) (by rfl) (by rfl) (gives_value _ fun _ => by rfl) ?_
  refine L_end ?_
  intro w11 hw11
  refine wp_block ?_
  refine rounds_firstS 0 ?_
  refine seq_plain hw11 [0] (by rfl) ?_
  refine L_val (.bool false) (by rfl) (by rfl) (gives_lss (k := .i64) (0) ((0 : Int)) false (by rfl) (by rfl) (decide_eq_false (by omega))) ?_
  refine L_end ?_
  intro w12 hw12
  refine wp_seq ?_
  refine wp_cond_false (fr_at _ _ (by rfl) _) ?_
  refine wp_exit ?_
  change Code.wp _ _ _ _ _
  change Code.wp _ _ _ _ _
  refine seq_plain hw12 [0, 1, 2, 3] (by rfl) ?_
  refine L_val (.slice none 0 0) (by rfl) (by rfl) (gives_value _ fun _ => by rfl) ?_
  refine L_val (.slice none 0 0) (by rfl) (by rfl) (gives_value _ fun _ => by rfl) ?_
  refine L_val (.bool true) (by rfl) (by rfl) (gives_call (vl := [.slice none 0 0, .slice none 0 0]) (by kernel_rfl) (by rfl) (fun w h => n_same w _ _ _ _ _ _ ([]) ([]) Reads.nil_ Reads.nil_ (by omega) (by omega) rfl)) ?_
  refine L_val (.bool true) (by rfl) (by rfl) (gives_value _ fun _ => by rfl) ?_
  refine L_end ?_
  intro w13 hw13
  refine wp_ret ?_
  change bodyPost _ _ _ Exit.ret _ _
  refine (ret_tmp (by rfl) (by rfl) (by rfl) ⟨rfl, hw13.below⟩)
set_option maxRecDepth 100000 in
set_option maxHeartbeats 4000000 in
theorem keys_big (A0 : Option Addr) (n0 c0 : Nat) (bs0 : List Int) (A1 : Option Addr) (n1 c1 : Nat) (bs1 : List Int) (A2 : Option Addr) (n2 c2 : Nat) (bs2 : List Int) (N : Int) (v : World) (hr0 : Reads v v.heap.size A0 n0 (bs0.map (Value.int .u8))) (hnc0 : n0 ≤ c0) (hr1 : Reads v v.heap.size A1 n1 (bs1.map (Value.int .u8))) (hnc1 : n1 ≤ c1) (hr2 : Reads v v.heap.size A2 n2 (bs2.map (Value.int .u8))) (hnc2 : n2 ≤ c2) (hl0 : n0 ≤ 140737488351232) (hl1 : n1 ≤ 140737488351232) (hl2 : n2 ≤ 140737488351232) (hgl : Glob v) (h2 : 2 ≤ v.heap.size) (hs : n0 + n1 + n2 ≤ 4096) (hN : 8160 < N) : Rets 6 #[.slice A0 n0 c0, .slice A1 n1 c1, .slice A2 n2 c2, .int .i64 N] v (.bool true) := by
  refine calls_fr4 Tryd.func6 rfl (by rfl : _ = 79) (by rfl) ?_
  have hw := Hbl.nil v
  refine seq_plain hw [0] (by rfl) ?_
  refine L_val (.bool false) (by rfl) (by rfl) (gives_value _ fun _ => by rfl) ?_
  refine L_end ?_
  intro w1 hw1
  refine wp_seq ?_
  refine seq_plain hw1 [0, 1] (by rfl) ?_
  refine L_val (.bool true) (by rfl) (by rfl) (gives_call (vl := []) (by kernel_rfl) (by rfl) (fun w h => headb_any w (hgl.below h.below h2) (Nat.le_trans h2 h.below.size))) ?_
  refine L_val (.bool false) (by rfl) (by rfl) (gives_value _ fun _ => by rfl) ?_
  refine L_end ?_
  intro w2 hw2
  refine wp_cond_false (fr_at _ _ (by rfl) _) ?_
  refine wp_skip ?_
  change Code.wp _ _ _ _ _
  refine wp_seq ?_
  refine seq_plain hw2 [0, 1, 2, 3, 4, 5, 6, 7, 8] (by rfl) ?_
  refine L_val (.slice A0 n0 c0) (by rfl) (by rfl) (gives_value _ fun _ => by rfl) ?_
  refine L_val (.int .i64 (n0 : Int)) (by rfl) (by rfl) (gives_len _ n0 c0 und_u8s (by rfl)) ?_
  refine L_val (.slice A1 n1 c1) (by rfl) (by rfl) (gives_value _ fun _ => by rfl) ?_
  refine L_val (.int .i64 (n1 : Int)) (by rfl) (by rfl) (gives_len _ n1 c1 und_u8s (by rfl)) ?_
  refine L_val (.int .i64 ((n0 : Int) + (n1 : Int))) (by rfl) (by rfl) (gives_add (k := .i64) ((n0 : Int)) ((n1 : Int)) ((n0 : Int) + (n1 : Int)) (by rfl) (by rfl) (IntWalk.i64_in _ (by omega))) ?_
  refine L_val (.slice A2 n2 c2) (by rfl) (by rfl) (gives_value _ fun _ => by rfl) ?_
  refine L_val (.int .i64 (n2 : Int)) (by rfl) (by rfl) (gives_len _ n2 c2 und_u8s (by rfl)) ?_
  refine L_val (.int .i64 (((n0 : Int) + (n1 : Int)) + (n2 : Int))) (by rfl) (by rfl) (gives_add (k := .i64) ((n0 : Int) + (n1 : Int)) ((n2 : Int)) (((n0 : Int) + (n1 : Int)) + (n2 : Int)) (by rfl) (by rfl) (IntWalk.i64_in _ (by omega))) ?_
  refine L_val (.bool false) (by rfl) (by rfl) (gives_gtr (k := .i64) (((n0 : Int) + (n1 : Int)) + (n2 : Int)) (4096) false (by rfl) (by rfl) (decide_eq_false (by omega))) ?_
  refine L_end ?_
  intro w3 hw3
  refine wp_cond_false (fr_at _ _ (by rfl) _) ?_
  refine wp_skip ?_
  change Code.wp _ _ _ _ _
  refine seq_plain hw3 [0, 1, 2, 3, 4, 5, 6] (by rfl) ?_
  refine L_val (.slice A0 n0 c0) (by rfl) (by rfl) (gives_value _ fun _ => by rfl) ?_
  refine L_freshP (vl := [.slice A0 n0 c0]) 5 .u8 n0 bs0 (by rfl) (by rfl) Want.none (by kernel_rfl) (by rfl) (fun w h => c_copy w _ _ _ bs0 ((hr0.below h.below).more h.below.size) (by omega)) ?_; intro g1 cap_1 cs_1 hn_1
  refine L_val (.slice A1 n1 c1) (by rfl) (by rfl) (gives_value _ fun _ => by rfl) ?_
  refine L_freshP (vl := [.slice A1 n1 c1]) 5 .u8 n1 bs1 (by rfl) (by rfl) Want.none (by kernel_rfl) (by rfl) (fun w h => c_copy w _ _ _ bs1 ((hr1.below h.below).more h.below.size) (by omega)) ?_; intro g2 cap_2 cs_2 hn_2
  refine L_val (.agg (agg8 (mac bs0 bs1))) (by rfl) (by rfl) (gives_call (vl := [.slice (some ⟨g1, 0, none⟩) n0 cap_1, .slice (some ⟨g2, 0, none⟩) n1 cap_2]) (by kernel_rfl) (by rfl) (fun w h => c_extract _ _ _ bs0 _ _ _ bs1 w (hn_1.reads (h.blk 1 (by rfl))) (hn_1.le) (by omega) (hn_2.reads (h.blk 0 (by rfl))) (hn_2.le) (by omega) (hgl.below h.below h2) (Nat.le_trans h2 h.below.size))) ?_
  refine L_alloc _ (by rfl) (by rfl) z_d32 (agg8 (List.replicate 32 (0 : Int))) rfl ?_; intro g3
  refine L_store (t := 27) 0 g3 (agg8 (List.replicate 32 (0 : Int))) (agg8 (mac bs0 bs1)) (by rfl) (by rfl) (by rfl) (by rfl) (by rfl) (hi_d32 _ (mac_len _ _)) (by rw [agg8_size, agg8_size, show (mac bs0 bs1).length = 32 from (mac_len _ _), show (List.replicate 32 (0 : Int)).length = 32 from (by simp)]) (agg8_one _) ?_
  simp only [List.set_cons_zero, List.set_cons_succ]
  refine L_end ?_
  intro w4 hw4
  refine wp_seq ?_
  refine seq_flow (by kernel_rfl) hw4 [] [(g3, 27, (agg8 (mac bs0 bs1))), (g2, 5, cs_2), (g1, 5, cs_1)] 6 (by rfl) ?_
  refine flow_take (i := 0) (.slice (some ⟨g3, 0, none⟩) 32 32) (by rfl) (by kernel_rfl) (by kernel_rfl) (by kernel_rfl) (by rfl) (by kernel_rfl) (List.Sublist.refl _) (gives_slice_arr g3 32 1 (by rfl) und_d32 u8_sz) ?_
  refine flow_take (i := 1) (.slice A0 n0 c0) (by rfl) (by kernel_rfl) (by kernel_rfl) (by kernel_rfl) (by rfl) (by kernel_rfl) (List.Sublist.refl _) (gives_value _ fun _ => by rfl) ?_
  refine flow_take (i := 2) (.slice A1 n1 c1) (by rfl) (by kernel_rfl) (by kernel_rfl) (by kernel_rfl) (by rfl) (by kernel_rfl) (List.Sublist.refl _) (gives_value _ fun _ => by rfl) ?_
  refine flow_one 3 (by kernel_rfl) ?_
  refine F_freshP (vl := [.slice A0 n0 c0, .slice A1 n1 c1]) 5 .u8 32 (mac bs0 bs1) (by rfl) (by rfl) Want.none (by kernel_rfl) (by rfl) (List.Sublist.refl _) (fun w h => refmac_own _ _ _ bs0 _ _ _ bs1 w ((hr0.below h.below).more h.below.size) (by omega) ((hr1.below h.below).more h.below.size) (by omega)) ?_; intro g4 cap_3 cs_3 hn_3
  refine flow_one 4 (by kernel_rfl) ?_
  refine F_val (vl := [.slice (some ⟨g3, 0, none⟩) 32 32, .slice (some ⟨g4, 0, none⟩) 32 cap_3]) (.bool true) (by rfl) (by rfl) Want.none (by kernel_rfl) (by rfl) (List.Sublist.cons _ (List.Sublist.refl _)) (fun w h => n_same w _ _ _ _ _ _ (mac bs0 bs1) (mac bs0 bs1) (lit_reads (h.blk 1 (by rfl)) rfl (mac_len _ _)) (hn_3.reads (h.blk 0 (by rfl))) (by omega) (by omega) rfl) ?_
  refine flow_take (i := 5) (.bool false) (by rfl) (by kernel_rfl) (by kernel_rfl) (by kernel_rfl) (by rfl) (by kernel_rfl) (List.Sublist.cons _ (List.Sublist.refl _)) (gives_value _ fun _ => by rfl) ?_
  refine flow_done (by kernel_rfl) ?_
  intro w5 hw5
  refine wp_cond_false (fr_at _ _ (by rfl) _) ?_
  refine wp_skip ?_
  change Code.wp _ _ _ _ _
  refine wp_seq ?_
  refine seq_plain hw5 [0, 1, 2, 3, 4, 5] (by rfl) ?_
  refine L_val (.int .i64 N) (by rfl) (by rfl) (gives_value _ fun _ => by rfl) ?_
  refine L_val (.bool true) (by rfl) (by rfl) (gives_gtr (k := .i64) (N) (400) true (by rfl) (by rfl) (decide_eq_true (by omega))) ?_
  refine L_val (.bool true) (by rfl) (by rfl) (gives_value _ fun _ => by rfl) ?_
  refine L_val_g (dj := 38) (.int .i64 N) (by rfl) (by rfl) (by rfl) (by rfl) (by rfl) (gives_value _ fun _ => by rfl) ?_
  refine L_val_g (dj := 38) (.bool false) (by rfl) (by rfl) (by rfl) (by rfl) (by rfl) (gives_leq (k := .i64) (N) (8160) false (by rfl) (by rfl) (decide_eq_false (by omega))) ?_
  refine L_val (.bool false) (by rfl) (by rfl) (gives_value _ fun _ => by rfl) ?_
  refine L_end ?_
  intro w6 hw6
  refine wp_cond_false (fr_at _ _ (by rfl) _) ?_
  refine wp_skip ?_
  change Code.wp _ _ _ _ _
  refine seq_plain hw6 [0, 1, 2, 3, 4, 5, 6] (by rfl) ?_
  refine L_val (.slice (some ⟨g3, 0, none⟩) 32 32) (by rfl) (by rfl) (gives_slice_arr g3 32 1 (by rfl) und_d32 u8_sz) ?_
  refine L_freshP (vl := [.slice (some ⟨g3, 0, none⟩) 32 32]) 5 .u8 32 (mac bs0 bs1) (by rfl) (by rfl) Want.none (by kernel_rfl) (by rfl) (fun w h => c_copy w _ _ _ (mac bs0 bs1) (lit_reads (h.blk 1 (by rfl)) rfl (mac_len _ _)) (by omega)) ?_; intro g5 cap_4 cs_4 hn_4
  refine L_val (.slice A2 n2 c2) (by rfl) (by rfl) (gives_value _ fun _ => by rfl) ?_
  refine L_freshP (vl := [.slice A2 n2 c2]) 5 .u8 n2 bs2 (by rfl) (by rfl) Want.none (by kernel_rfl) (by rfl) (fun w h => c_copy w _ _ _ bs2 ((hr2.below h.below).more h.below.size) (by omega)) ?_; intro g6 cap_5 cs_5 hn_5
  refine L_val (.int .i64 N) (by rfl) (by rfl) (gives_value _ fun _ => by rfl) ?_
  refine L_val (.slice none 0 0) (by rfl) (by rfl) (gives_call (vl := [.slice (some ⟨g5, 0, none⟩) 32 cap_4, .slice (some ⟨g6, 0, none⟩) n2 cap_5, .int .i64 N]) (by kernel_rfl) (by rfl) (fun w h => c_expand_out w _ _ _ _ _ _ _ (by omega))) ?_
  refine L_val (.slice none 0 0) (by rfl) (by rfl) (gives_value _ fun _ => by rfl) ?_
  refine L_end ?_
  intro w7 hw7
  refine seq_plain hw7 [0, 1, 2, 3, 4, 5, 6] (by rfl) ?_
  refine L_val (.slice (some ⟨g3, 0, none⟩) 32 32) (by rfl) (by rfl) (gives_slice_arr g3 32 1 (by rfl) und_d32 u8_sz) ?_
  refine L_freshP (vl := [.slice (some ⟨g3, 0, none⟩) 32 32]) 5 .u8 32 (mac bs0 bs1) (by rfl) (by rfl) Want.none (by kernel_rfl) (by rfl) (fun w h => c_copy w _ _ _ (mac bs0 bs1) (lit_reads (h.blk 3 (by rfl)) rfl (mac_len _ _)) (by omega)) ?_; intro g7 cap_6 cs_6 hn_6
  refine L_val (.slice A2 n2 c2) (by rfl) (by rfl) (gives_value _ fun _ => by rfl) ?_
  refine L_freshP (vl := [.slice A2 n2 c2]) 5 .u8 n2 bs2 (by rfl) (by rfl) Want.none (by kernel_rfl) (by rfl) (fun w h => c_copy w _ _ _ bs2 ((hr2.below h.below).more h.below.size) (by omega)) ?_; intro g8 cap_7 cs_7 hn_7
  refine L_val (.int .i64 N) (by rfl) (by rfl) (gives_value _ fun _ => by rfl) ?_
  refine L_val (.slice none 0 0) (by rfl) (by rfl) (gives_call (vl := [.slice (some ⟨g7, 0, none⟩) 32 cap_6, .slice (some ⟨g8, 0, none⟩) n2 cap_7, .int .i64 N]) (by kernel_rfl) (by rfl) (fun w h => c_expand_out w _ _ _ _ _ _ _ (by omega))) ?_
  refine L_val (.slice none 0 0) (by rfl) (by rfl) (gives_value _ fun _ => by rfl) ?_
  refine L_end ?_
  intro w8 hw8
  refine seq_plain hw8 [0, 1, 2, 3, 4] (by rfl) ?_
  refine L_val (.slice (some ⟨g3, 0, none⟩) 32 32) (by rfl) (by rfl) (gives_slice_arr g3 32 1 (by rfl) und_d32 u8_sz) ?_
  refine L_val (.slice A2 n2 c2) (by rfl) (by rfl) (gives_value _ fun _ => by rfl) ?_
  refine L_val (.int .i64 N) (by rfl) (by rfl) (gives_value _ fun _ => by rfl) ?_
  refine L_val (.slice none 0 0) (by rfl) (by rfl) (gives_call (vl := [.slice (some ⟨g3, 0, none⟩) 32 32, .slice A2 n2 c2, .int .i64 N]) (by kernel_rfl) (by rfl) (fun w h => refexp_big _ _ _ _ _ _ _ w (by omega))) ?_
  refine L_val (.slice none 0 0) (by rfl) (by rfl) (gives_value _ fun _ => by rfl) ?_
  refine L_end ?_
  intro w9 hw9
  refine wp_seq ?_
  refine seq_plain hw9 [0, 1, 2, 3] (by rfl) ?_
  refine L_val (.slice none 0 0) (by rfl) (by rfl) (gives_value _ fun _ => by rfl) ?_
  refine L_val (.slice none 0 0) (by rfl) (by rfl) (gives_value _ fun _ => by rfl) ?_
  refine L_val (.bool true) (by rfl) (by rfl) (gives_call (vl := [.slice none 0 0, .slice none 0 0]) (by kernel_rfl) (by rfl) (fun w h => n_same w _ _ _ _ _ _ ([]) ([]) Reads.nil_ Reads.nil_ (by omega) (by omega) rfl)) ?_
  refine L_val (.bool false) (by rfl) (by rfl) (gives_value _ fun _ => by rfl) ?_
  refine L_end ?_
  intro w10 hw10
  refine wp_cond_false (fr_at _ _ (by rfl) _) ?_
  refine wp_skip ?_
  change Code.wp _ _ _ _ _
  refine wp_seq ?_
  refine seq_plain hw10 [0, 1, 2] (by rfl) ?_
  refine L_val (.slice none 0 0) (by rfl) (by rfl) (gives_value _ fun _ => by rfl) ?_
  refine L_val (.int .i64 (0 : Int)) (by rfl) (by rfl) (gives_len _ 0 0 und_u8s (by rfl)) ?_
  refine L_val (.int .i64 0) (by rfl) (by rfl) (gives_value _ fun _ => by rfl) ?_
  refine L_end ?_
  intro w11 hw11
  refine wp_block ?_
  refine rounds_firstS 0 ?_
  refine seq_plain hw11 [0] (by rfl) ?_
  refine L_val (.bool false) (by rfl) (by rfl) (gives_lss (k := .i64) (0) ((0 : Int)) false (by rfl) (by rfl) (decide_eq_false (by omega))) ?_
  refine L_end ?_
  intro w12 hw12
  refine wp_seq ?_
  refine wp_cond_false (fr_at _ _ (by rfl) _) ?_
  refine wp_exit ?_
  change Code.wp _ _ _ _ _
  change Code.wp _ _ _ _ _
  refine seq_plain hw12 [0, 1, 2, 3] (by rfl) ?_
  refine L_val (.slice none 0 0) (by rfl) (by rfl) (gives_value _ fun _ => by rfl) ?_
  refine L_val (.slice none 0 0) (by rfl) (by rfl) (gives_value _ fun _ => by rfl) ?_
  refine L_val (.bool true) (by rfl) (by rfl) (gives_call (vl := [.slice none 0 0, .slice none 0 0]) (by kernel_rfl) (by rfl) (fun w h => n_same w _ _ _ _ _ _ ([]) ([]) Reads.nil_ Reads.nil_ (by omega) (by omega) rfl)) ?_
  refine L_val (.bool true) (by rfl) (by rfl) (gives_value _ fun _ => by rfl) ?_
  refine L_end ?_
  intro w13 hw13
  refine wp_ret ?_
  change bodyPost _ _ _ Exit.ret _ _
  refine (ret_tmp (by rfl) (by rfl) (by rfl) ⟨rfl, hw13.below⟩)
theorem keys_any (A0 : Option Addr) (n0 c0 : Nat) (bs0 : List Int) (A1 : Option Addr) (n1 c1 : Nat) (bs1 : List Int) (A2 : Option Addr) (n2 c2 : Nat) (bs2 : List Int) (N : Int) (v : World) (hr0 : Reads v v.heap.size A0 n0 (bs0.map (Value.int .u8))) (hnc0 : n0 ≤ c0) (hr1 : Reads v v.heap.size A1 n1 (bs1.map (Value.int .u8))) (hnc1 : n1 ≤ c1) (hr2 : Reads v v.heap.size A2 n2 (bs2.map (Value.int .u8))) (hnc2 : n2 ≤ c2) (hl0 : n0 ≤ 140737488351232) (hl1 : n1 ≤ 140737488351232) (hl2 : n2 ≤ 140737488351232) (hgl : Glob v) (h2 : 2 ≤ v.heap.size) : Rets 6 #[.slice A0 n0 c0, .slice A1 n1 c1, .slice A2 n2 c2, .int .i64 N] v (.bool true) := by
  by_cases hs : 4096 < n0 + n1 + n2
  · exact keys_long A0 n0 c0 bs0 A1 n1 c1 bs1 A2 n2 c2 bs2 N v hr0 hnc0 hr1 hnc1 hr2 hnc2 hl0 hl1 hl2 hgl h2 hs
  by_cases h0 : N < 0
  · exact keys_neg A0 n0 c0 bs0 A1 n1 c1 bs1 A2 n2 c2 bs2 N v hr0 hnc0 hr1 hnc1 hr2 hnc2 hl0 hl1 hl2 hgl h2 (by omega) h0
  by_cases h8 : 8160 < N
  · exact keys_big A0 n0 c0 bs0 A1 n1 c1 bs1 A2 n2 c2 bs2 N v hr0 hnc0 hr1 hnc1 hr2 hnc2 hl0 hl1 hl2 hgl h2 (by omega) h8
  obtain ⟨M, rfl⟩ := Int.eq_ofNat_of_zero_le (by omega : 0 ≤ N)
  by_cases h4 : M ≤ 400
  · exact keys_in A0 n0 c0 bs0 A1 n1 c1 bs1 A2 n2 c2 bs2 M v hr0 hnc0 hr1 hnc1 hr2 hnc2 hl0 hl1 hl2 hgl h2 (by omega) h4
  · exact keys_wrap A0 n0 c0 bs0 A1 n1 c1 bs1 A2 n2 c2 bs2 M v hr0 hnc0 hr1 hnc1 hr2 hnc2 hl0 hl1 hl2 hgl h2 (by omega) ⟨by omega, by omega⟩
end Go.Proofs.YtgkfkfodeooogaaDoor
