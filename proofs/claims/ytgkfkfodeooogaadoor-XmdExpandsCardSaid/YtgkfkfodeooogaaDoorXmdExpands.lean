/-
  XmdExpands: the walk.
-/
import Derived.Test.YtgkfkfodeooogaaDoorXmR
namespace Go.Proofs.YtgkfkfodeooogaaDoor
set_option linter.unusedSimpArgs false
set_option linter.unusedVariables false
open Go.RowKit
attribute [local irreducible] wpL wpF fr Code.wp bodyPost
set_option maxRecDepth 100000 in
set_option maxHeartbeats 4000000 in
theorem expands_long0 (A0 : Option Addr) (n0 c0 : Nat) (bs0 : List Int) (A1 : Option Addr) (n1 c1 : Nat) (bs1 : List Int) (N : Int) (v : World) (hr0 : Reads v v.heap.size A0 n0 (bs0.map (Value.int .u8))) (hnc0 : n0 ≤ c0) (hr1 : Reads v v.heap.size A1 n1 (bs1.map (Value.int .u8))) (hnc1 : n1 ≤ c1) (hl0 : n0 ≤ 140737488351232) (hl1 : n1 ≤ 140737488351232) (hgl : Glob v) (h2 : 2 ≤ v.heap.size) (hs : 4096 < n0) : Rets 7 #[.slice A0 n0 c0, .slice A1 n1 c1, .int .i64 N] v (.bool true) := by
  refine calls_fr3 Tryd.func7 rfl (by rfl : _ = 95) (by rfl) ?_
  have hw := Hbl.nil v
  refine seq_plain hw [0] (by rfl) ?_
  refine L_val (.bool false) (by rfl) (by rfl) (gives_value _ fun _ => by rfl) ?_
  refine L_end ?_
  intro w1 hw1
  refine wp_seq ?_
  refine seq_plain hw1 [0, 1] (by rfl) ?_
  refine L_val (.bool true) (by rfl) (by rfl) (gives_call (vl := []) (by kernel_rfl) (by rfl) (fun w h => x_head w (hgl.below h.below h2) (Nat.le_trans h2 h.below.size))) ?_
  refine L_val (.bool false) (by rfl) (by rfl) (gives_value _ fun _ => by rfl) ?_
  refine L_end ?_
  intro w2 hw2
  refine wp_cond_false (fr_at _ _ (by rfl) _) ?_
  refine wp_skip ?_
  change Code.wp _ _ _ _ _
  refine wp_seq ?_
  refine seq_plain hw2 [0, 1, 2, 3, 4, 5, 6, 7] (by rfl) ?_
  refine L_val (.slice A0 n0 c0) (by rfl) (by rfl) (gives_value _ fun _ => by rfl) ?_
  refine L_val (.int .i64 (n0 : Int)) (by rfl) (by rfl) (gives_len _ n0 c0 und_u8s (by rfl)) ?_
  refine L_val (.bool true) (by rfl) (by rfl) (gives_gtr (k := .i64) ((n0 : Int)) (4096) true (by rfl) (by rfl) (decide_eq_true (by omega))) ?_
  refine L_val (.bool true) (by rfl) (by rfl) (gives_value _ fun _ => by rfl) ?_
  refine L_skip (dj := 21) (by rfl) (by rfl) (by rfl) (by rfl) (by rfl) ?_
  refine L_skip (dj := 21) (by rfl) (by rfl) (by rfl) (by rfl) (by rfl) ?_
  refine L_skip (dj := 21) (by rfl) (by rfl) (by rfl) (by rfl) (by rfl) ?_
  refine L_val (.bool true) (by rfl) (by rfl) (gives_value _ fun _ => by rfl) ?_
  refine L_end ?_
  intro w3 hw3
  refine wp_cond_true (fr_at _ _ (by rfl) _) ?_
  refine seq_plain hw3 [0] (by rfl) ?_
  refine L_val (.bool true) (by rfl) (by rfl) (gives_value _ fun _ => by rfl) ?_
  refine L_end ?_
  intro w4 hw4
  refine wp_ret ?_
  change bodyPost _ _ _ Exit.ret _ _
  refine (ret_tmp (by rfl) (by rfl) (by rfl) ⟨rfl, hw4.below⟩)
set_option maxRecDepth 100000 in
set_option maxHeartbeats 4000000 in
theorem expands_long1 (A0 : Option Addr) (n0 c0 : Nat) (bs0 : List Int) (A1 : Option Addr) (n1 c1 : Nat) (bs1 : List Int) (N : Int) (v : World) (hr0 : Reads v v.heap.size A0 n0 (bs0.map (Value.int .u8))) (hnc0 : n0 ≤ c0) (hr1 : Reads v v.heap.size A1 n1 (bs1.map (Value.int .u8))) (hnc1 : n1 ≤ c1) (hl0 : n0 ≤ 140737488351232) (hl1 : n1 ≤ 140737488351232) (hgl : Glob v) (h2 : 2 ≤ v.heap.size) (hs : n0 ≤ 4096 ∧ 4096 < n1) : Rets 7 #[.slice A0 n0 c0, .slice A1 n1 c1, .int .i64 N] v (.bool true) := by
  refine calls_fr3 Tryd.func7 rfl (by rfl : _ = 95) (by rfl) ?_
  have hw := Hbl.nil v
  refine seq_plain hw [0] (by rfl) ?_
  refine L_val (.bool false) (by rfl) (by rfl) (gives_value _ fun _ => by rfl) ?_
  refine L_end ?_
  intro w1 hw1
  refine wp_seq ?_
  refine seq_plain hw1 [0, 1] (by rfl) ?_
  refine L_val (.bool true) (by rfl) (by rfl) (gives_call (vl := []) (by kernel_rfl) (by rfl) (fun w h => x_head w (hgl.below h.below h2) (Nat.le_trans h2 h.below.size))) ?_
  refine L_val (.bool false) (by rfl) (by rfl) (gives_value _ fun _ => by rfl) ?_
  refine L_end ?_
  intro w2 hw2
  refine wp_cond_false (fr_at _ _ (by rfl) _) ?_
  refine wp_skip ?_
  change Code.wp _ _ _ _ _
  refine wp_seq ?_
  refine seq_plain hw2 [0, 1, 2, 3, 4, 5, 6, 7] (by rfl) ?_
  refine L_val (.slice A0 n0 c0) (by rfl) (by rfl) (gives_value _ fun _ => by rfl) ?_
  refine L_val (.int .i64 (n0 : Int)) (by rfl) (by rfl) (gives_len _ n0 c0 und_u8s (by rfl)) ?_
  refine L_val (.bool false) (by rfl) (by rfl) (gives_gtr (k := .i64) ((n0 : Int)) (4096) false (by rfl) (by rfl) (decide_eq_false (by omega))) ?_
  refine L_val (.bool false) (by rfl) (by rfl) (gives_value _ fun _ => by rfl) ?_
  refine L_val_g (dj := 21) (.slice A1 n1 c1) (by rfl) (by rfl) (by rfl) (by rfl) (by rfl) (gives_value _ fun _ => by rfl) ?_
  refine L_val_g (dj := 21) (.int .i64 (n1 : Int)) (by rfl) (by rfl) (by rfl) (by rfl) (by rfl) (gives_len _ n1 c1 und_u8s (by rfl)) ?_
  refine L_val_g (dj := 21) (.bool true) (by rfl) (by rfl) (by rfl) (by rfl) (by rfl) (gives_gtr (k := .i64) ((n1 : Int)) (4096) true (by rfl) (by rfl) (decide_eq_true (by omega))) ?_
  refine L_val (.bool true) (by rfl) (by rfl) (gives_value _ fun _ => by rfl) ?_
  refine L_end ?_
  intro w3 hw3
  refine wp_cond_true (fr_at _ _ (by rfl) _) ?_
  refine seq_plain hw3 [0] (by rfl) ?_
  refine L_val (.bool true) (by rfl) (by rfl) (gives_value _ fun _ => by rfl) ?_
  refine L_end ?_
  intro w4 hw4
  refine wp_ret ?_
  change bodyPost _ _ _ Exit.ret _ _
  refine (ret_tmp (by rfl) (by rfl) (by rfl) ⟨rfl, hw4.below⟩)
set_option maxRecDepth 100000 in
set_option maxHeartbeats 4000000 in
theorem expands_in (A0 : Option Addr) (n0 c0 : Nat) (bs0 : List Int) (A1 : Option Addr) (n1 c1 : Nat) (bs1 : List Int) (N : Nat) (v : World) (hr0 : Reads v v.heap.size A0 n0 (bs0.map (Value.int .u8))) (hnc0 : n0 ≤ c0) (hr1 : Reads v v.heap.size A1 n1 (bs1.map (Value.int .u8))) (hnc1 : n1 ≤ c1) (hl0 : n0 ≤ 140737488351232) (hl1 : n1 ≤ 140737488351232) (hgl : Glob v) (h2 : 2 ≤ v.heap.size) (hs : n0 ≤ 4096 ∧ n1 ≤ 4096) (hN : N ≤ 300) : Rets 7 #[.slice A0 n0 c0, .slice A1 n1 c1, .int .i64 (N : Int)] v (.bool true) := by
  refine calls_fr3 Tryd.func7 rfl (by rfl : _ = 95) (by rfl) ?_
  have hw := Hbl.nil v
  refine seq_plain hw [0] (by rfl) ?_
  refine L_val (.bool false) (by rfl) (by rfl) (gives_value _ fun _ => by rfl) ?_
  refine L_end ?_
  intro w1 hw1
  refine wp_seq ?_
  refine seq_plain hw1 [0, 1] (by rfl) ?_
  refine L_val (.bool true) (by rfl) (by rfl) (gives_call (vl := []) (by kernel_rfl) (by rfl) (fun w h => x_head w (hgl.below h.below h2) (Nat.le_trans h2 h.below.size))) ?_
  refine L_val (.bool false) (by rfl) (by rfl) (gives_value _ fun _ => by rfl) ?_
  refine L_end ?_
  intro w2 hw2
  refine wp_cond_false (fr_at _ _ (by rfl) _) ?_
  refine wp_skip ?_
  change Code.wp _ _ _ _ _
  refine wp_seq ?_
  refine seq_plain hw2 [0, 1, 2, 3, 4, 5, 6, 7] (by rfl) ?_
  refine L_val (.slice A0 n0 c0) (by rfl) (by rfl) (gives_value _ fun _ => by rfl) ?_
  refine L_val (.int .i64 (n0 : Int)) (by rfl) (by rfl) (gives_len _ n0 c0 und_u8s (by rfl)) ?_
  refine L_val (.bool false) (by rfl) (by rfl) (gives_gtr (k := .i64) ((n0 : Int)) (4096) false (by rfl) (by rfl) (decide_eq_false (by omega))) ?_
  refine L_val (.bool false) (by rfl) (by rfl) (gives_value _ fun _ => by rfl) ?_
  refine L_val_g (dj := 21) (.slice A1 n1 c1) (by rfl) (by rfl) (by rfl) (by rfl) (by rfl) (gives_value _ fun _ => by rfl) ?_
  refine L_val_g (dj := 21) (.int .i64 (n1 : Int)) (by rfl) (by rfl) (by rfl) (by rfl) (by rfl) (gives_len _ n1 c1 und_u8s (by rfl)) ?_
  refine L_val_g (dj := 21) (.bool false) (by rfl) (by rfl) (by rfl) (by rfl) (by rfl) (gives_gtr (k := .i64) ((n1 : Int)) (4096) false (by rfl) (by rfl) (decide_eq_false (by omega))) ?_
  refine L_val (.bool false) (by rfl) (by rfl) (gives_value _ fun _ => by rfl) ?_
  refine L_end ?_
  intro w3 hw3
  refine wp_cond_false (fr_at _ _ (by rfl) _) ?_
  refine wp_skip ?_
  change Code.wp _ _ _ _ _
  refine wp_seq ?_
  refine seq_plain hw3 [0, 1, 2, 3, 4, 5] (by rfl) ?_
  refine L_val (.int .i64 (N : Int)) (by rfl) (by rfl) (gives_value _ fun _ => by rfl) ?_
  refine L_val (.bool false) (by rfl) (by rfl) (gives_gtr (k := .i64) ((N : Int)) (300) false (by rfl) (by rfl) (decide_eq_false (by omega))) ?_
  refine L_val (.bool false) (by rfl) (by rfl) (gives_value _ fun _ => by rfl) ?_
  refine L_skip (dj := 28) (by rfl) (by rfl) (by rfl) (by rfl) (by rfl) ?_
  refine L_skip (dj := 28) (by rfl) (by rfl) (by rfl) (by rfl) (by rfl) ?_
  refine L_val (.bool false) (by rfl) (by rfl) (gives_value _ fun _ => by rfl) ?_
  refine L_end ?_
  intro w4 hw4
  refine wp_cond_false (fr_at _ _ (by rfl) _) ?_
  refine wp_skip ?_
  change Code.wp _ _ _ _ _
  refine seq_plain hw4 [0, 1, 2] (by rfl) ?_
  refine L_val (.slice A0 n0 c0) (by rfl) (by rfl) (gives_value _ fun _ => by rfl) ?_
  refine L_freshP (vl := [.slice A0 n0 c0]) 5 .u8 n0 bs0 (by rfl) (by rfl) Want.none (by kernel_rfl) (by rfl) (fun w h => c_copy w _ _ _ bs0 ((hr0.below h.below).more h.below.size) (by omega)) ?_; intro g1 cap_1 cs_1 hn_1
  refine L_val (.slice (some ⟨g1, 0, none⟩) n0 cap_1) (by rfl) (by rfl) (gives_value _ fun _ => by rfl) ?_
  refine L_end ?_
  intro w5 hw5
  refine seq_plain hw5 [0, 1, 2] (by rfl) ?_
  refine L_val (.slice A1 n1 c1) (by rfl) (by rfl) (gives_value _ fun _ => by rfl) ?_
  refine L_freshP (vl := [.slice A1 n1 c1]) 5 .u8 n1 bs1 (by rfl) (by rfl) Want.none (by kernel_rfl) (by rfl) (fun w h => c_copy w _ _ _ bs1 ((hr1.below h.below).more h.below.size) (by omega)) ?_; intro g2 cap_2 cs_2 hn_2
  refine L_val (.slice (some ⟨g2, 0, none⟩) n1 cap_2) (by rfl) (by rfl) (gives_value _ fun _ => by rfl) ?_
  refine L_end ?_
  intro w6 hw6
  refine seq_plain hw6 [0, 1, 2, 3, 4, 5, 6, 7, 8] (by rfl) ?_
  refine L_val (.slice A0 n0 c0) (by rfl) (by rfl) (gives_value _ fun _ => by rfl) ?_
  refine L_val (.slice A1 n1 c1) (by rfl) (by rfl) (gives_value _ fun _ => by rfl) ?_
  refine L_val (.int .i64 (N : Int)) (by rfl) (by rfl) (gives_value _ fun _ => by rfl) ?_
  refine L_freshT2 (vl := [.slice A0 n0 c0, .slice A1 n1 c1, .int .i64 (N : Int)]) N (expandL bs0 bs1 N) (by rfl) (by rfl) Want.none (by kernel_rfl) (by rfl) (fun w h => x_ref _ _ _ bs0 _ _ _ bs1 N w ((hr0.below h.below).more h.below.size) ((hr1.below h.below).more h.below.size) (hgl.below h.below h2) (Nat.le_trans h2 h.below.size) (by omega) (by omega) (by omega)) ?_; intro g3 cap_3 cs_3 hn_3
  refine L_val (.tuple #[.slice (some ⟨g3, 0, none⟩) N cap_3, .int .i64 0]) (by rfl) (by rfl) (gives_value _ fun _ => by rfl) ?_
  refine L_val (.slice (some ⟨g3, 0, none⟩) N cap_3) (by rfl) (by rfl) (gives_value _ fun _ => by kernel_rfl) ?_
  refine L_val (.int .i64 0) (by rfl) (by rfl) (gives_value _ fun _ => by kernel_rfl) ?_
  refine L_val (.slice (some ⟨g3, 0, none⟩) N cap_3) (by rfl) (by rfl) (gives_value _ fun _ => by rfl) ?_
  refine L_val (.int .i64 0) (by rfl) (by rfl) (gives_value _ fun _ => by rfl) ?_
  refine L_end ?_
  intro w7 hw7
  refine seq_plain hw7 [0, 1, 2, 3, 4, 5, 6, 7, 8] (by rfl) ?_
  refine L_val (.slice (some ⟨g1, 0, none⟩) n0 cap_1) (by rfl) (by rfl) (gives_value _ fun _ => by rfl) ?_
  refine L_val (.slice (some ⟨g2, 0, none⟩) n1 cap_2) (by rfl) (by rfl) (gives_value _ fun _ => by rfl) ?_
  refine L_val (.int .i64 (N : Int)) (by rfl) (by rfl) (gives_value _ fun _ => by rfl) ?_
  refine L_freshT (vl := [.slice (some ⟨g1, 0, none⟩) n0 cap_1, .slice (some ⟨g2, 0, none⟩) n1 cap_2, .int .i64 (N : Int)]) N (expandL bs0 bs1 N) (by rfl) (by rfl) Want.none (by kernel_rfl) (by rfl) (fun w h => x_expand _ _ _ bs0 _ _ _ bs1 N w (hn_1.reads (h.blk 2 (by rfl))) (hn_1.le) (hn_2.reads (h.blk 1 (by rfl))) (hn_2.le) (hgl.below h.below h2) (Nat.le_trans h2 h.below.size) (by omega) (by omega) (by omega)) ?_; intro g4 cap_4 cs_4 hn_4
  refine L_val (.tuple #[.slice (some ⟨g4, 0, none⟩) N N, .int .i64 0]) (by rfl) (by rfl) (gives_value _ fun _ => by rfl) ?_
  refine L_val (.slice (some ⟨g4, 0, none⟩) N N) (by rfl) (by rfl) (gives_value _ fun _ => by kernel_rfl) ?_
  refine L_val (.int .i64 0) (by rfl) (by rfl) (gives_value _ fun _ => by kernel_rfl) ?_
  refine L_val (.slice (some ⟨g4, 0, none⟩) N N) (by rfl) (by rfl) (gives_value _ fun _ => by rfl) ?_
  refine L_val (.int .i64 0) (by rfl) (by rfl) (gives_value _ fun _ => by rfl) ?_
  refine L_end ?_
  intro w8 hw8
  refine seq_plain hw8 [0, 1, 2, 3, 4, 5, 6, 7, 8] (by rfl) ?_
  refine L_val (.slice (some ⟨g1, 0, none⟩) n0 cap_1) (by rfl) (by rfl) (gives_value _ fun _ => by rfl) ?_
  refine L_val (.slice (some ⟨g2, 0, none⟩) n1 cap_2) (by rfl) (by rfl) (gives_value _ fun _ => by rfl) ?_
  refine L_val (.int .i64 (N : Int)) (by rfl) (by rfl) (gives_value _ fun _ => by rfl) ?_
  refine L_freshT (vl := [.slice (some ⟨g1, 0, none⟩) n0 cap_1, .slice (some ⟨g2, 0, none⟩) n1 cap_2, .int .i64 (N : Int)]) N (expandL bs0 bs1 N) (by rfl) (by rfl) Want.none (by kernel_rfl) (by rfl) (fun w h => x_expand _ _ _ bs0 _ _ _ bs1 N w (hn_1.reads (h.blk 3 (by rfl))) (hn_1.le) (hn_2.reads (h.blk 2 (by rfl))) (hn_2.le) (hgl.below h.below h2) (Nat.le_trans h2 h.below.size) (by omega) (by omega) (by omega)) ?_; intro g5 cap_5 cs_5 hn_5
  refine L_val (.tuple #[.slice (some ⟨g5, 0, none⟩) N N, .int .i64 0]) (by rfl) (by rfl) (gives_value _ fun _ => by rfl) ?_
  refine L_val (.slice (some ⟨g5, 0, none⟩) N N) (by rfl) (by rfl) (gives_value _ fun _ => by kernel_rfl) ?_
  refine L_val (.int .i64 0) (by rfl) (by rfl) (gives_value _ fun _ => by kernel_rfl) ?_
  refine L_val (.slice (some ⟨g5, 0, none⟩) N N) (by rfl) (by rfl) (gives_value _ fun _ => by rfl) ?_
  refine L_val (.int .i64 0) (by rfl) (by rfl) (gives_value _ fun _ => by rfl) ?_
  refine L_end ?_
  intro w9 hw9
  refine wp_seq ?_
  refine seq_plain hw9 [0, 1, 2, 3, 4, 5, 6, 7, 8, 9, 10, 11, 12, 13, 14, 15, 16, 17, 18, 19, 20] (by rfl) ?_
  refine L_val (.int .i64 0) (by rfl) (by rfl) (gives_value _ fun _ => by rfl) ?_
  refine L_val (.int .i64 0) (by rfl) (by rfl) (gives_value _ fun _ => by rfl) ?_
  refine L_val (.bool false) (by rfl) (by rfl) (gives_ine (k := .i64) (0) (0) false (by rfl) (by rfl) (decide_eq_false (by omega))) ?_
  refine L_val (.bool false) (by rfl) (by rfl) (gives_value _ fun _ => by rfl) ?_
  refine L_val_g (dj := 62) (.slice (some ⟨g4, 0, none⟩) N N) (by rfl) (by rfl) (by rfl) (by rfl) (by rfl) (gives_value _ fun _ => by rfl) ?_
  refine L_val_g (dj := 62) (.slice (some ⟨g3, 0, none⟩) N cap_3) (by rfl) (by rfl) (by rfl) (by rfl) (by rfl) (gives_value _ fun _ => by rfl) ?_
  refine L_val_g (dj := 62) (.bool true) (by rfl) (by rfl) (by rfl) (by rfl) (by rfl) (gives_call (vl := [.slice (some ⟨g4, 0, none⟩) N N, .slice (some ⟨g3, 0, none⟩) N cap_3]) (by kernel_rfl) (by rfl) (fun w h => n_same w _ _ _ _ _ _ (expandL bs0 bs1 N) (expandL bs0 bs1 N) (hn_4.reads (h.blk 1 (by rfl))) (hn_3.reads (h.blk 2 (by rfl))) (by omega) (by omega) rfl)) ?_
  refine L_val_g (dj := 62) (.bool false) (by rfl) (by rfl) (by rfl) (by rfl) (by rfl) (gives_value _ fun _ => by rfl) ?_
  refine L_val (.bool false) (by rfl) (by rfl) (gives_value _ fun _ => by rfl) ?_
  refine L_val (.bool false) (by rfl) (by rfl) (gives_value _ fun _ => by rfl) ?_
  refine L_val_g (dj := 68) (.slice (some ⟨g1, 0, none⟩) n0 cap_1) (by rfl) (by rfl) (by rfl) (by rfl) (by rfl) (gives_value _ fun _ => by rfl) ?_
  refine L_val_g (dj := 68) (.slice A0 n0 c0) (by rfl) (by rfl) (by rfl) (by rfl) (by rfl) (gives_value _ fun _ => by rfl) ?_
  refine L_val_g (dj := 68) (.bool true) (by rfl) (by rfl) (by rfl) (by rfl) (by rfl) (gives_call (vl := [.slice (some ⟨g1, 0, none⟩) n0 cap_1, .slice A0 n0 c0]) (by kernel_rfl) (by rfl) (fun w h => n_same w _ _ _ _ _ _ (bs0) (bs0) (hn_1.reads (h.blk 4 (by rfl))) ((hr0.below h.below).more h.below.size) (by omega) (by omega) rfl)) ?_
  refine L_val_g (dj := 68) (.bool false) (by rfl) (by rfl) (by rfl) (by rfl) (by rfl) (gives_value _ fun _ => by rfl) ?_
  refine L_val (.bool false) (by rfl) (by rfl) (gives_value _ fun _ => by rfl) ?_
  refine L_val (.bool false) (by rfl) (by rfl) (gives_value _ fun _ => by rfl) ?_
  refine L_val_g (dj := 74) (.slice (some ⟨g2, 0, none⟩) n1 cap_2) (by rfl) (by rfl) (by rfl) (by rfl) (by rfl) (gives_value _ fun _ => by rfl) ?_
  refine L_val_g (dj := 74) (.slice A1 n1 c1) (by rfl) (by rfl) (by rfl) (by rfl) (by rfl) (gives_value _ fun _ => by rfl) ?_
  refine L_val_g (dj := 74) (.bool true) (by rfl) (by rfl) (by rfl) (by rfl) (by rfl) (gives_call (vl := [.slice (some ⟨g2, 0, none⟩) n1 cap_2, .slice A1 n1 c1]) (by kernel_rfl) (by rfl) (fun w h => n_same w _ _ _ _ _ _ (bs1) (bs1) (hn_2.reads (h.blk 3 (by rfl))) ((hr1.below h.below).more h.below.size) (by omega) (by omega) rfl)) ?_
  refine L_val_g (dj := 74) (.bool false) (by rfl) (by rfl) (by rfl) (by rfl) (by rfl) (gives_value _ fun _ => by rfl) ?_
  refine L_val (.bool false) (by rfl) (by rfl) (gives_value _ fun _ => by rfl) ?_
  refine L_end ?_
  intro w10 hw10
  refine wp_cond_false (fr_at _ _ (by rfl) _) ?_
  refine wp_skip ?_
  change Code.wp _ _ _ _ _
  refine wp_seq ?_
  refine seq_plain hw10 [0, 1, 2] (by rfl) ?_
  refine L_val (.slice (some ⟨g4, 0, none⟩) N N) (by rfl) (by rfl) (gives_value _ fun _ => by rfl) ?_
  refine L_val (.int .i64 (N : Int)) (by rfl) (by rfl) (gives_len _ N N und_u8s (by rfl)) ?_
  refine L_val (.int .i64 0) (by rfl) (by rfl) (gives_value _ fun _ => by rfl) ?_
  refine L_end ?_
  intro w11 hw11
  refine wp_block ?_
  refine loop_down (fun (r_ : Nat) a w => ∃ (i : Nat) (lx : List Int) (csx : Array Value) (l_1 : List (Nat × Value)), N - i = r_ ∧ inFr 95 l_1 = true ∧ a = fr 95 ((11, .slice (some ⟨g4, 0, none⟩) N N) :: (9, .slice (some ⟨g3, 0, none⟩) N cap_3) :: (13, .slice (some ⟨g5, 0, none⟩) N N) :: (81, .int .i64 (N : Int)) :: (82, .int .i64 (i : Int)) :: l_1) ∧ (i ≤ N) ∧ (Nms .u8 csx cap_4 N lx) ∧ Hbl v [(g5, 5, cs_5), (g4, 5, csx), (g3, 5, cs_3), (g2, 5, cs_2), (g1, 5, cs_1)] w) ?_ _ _ _ ⟨0, expandL bs0 bs1 N, cs_4, [(82, .int .i64 0), (81, .int .i64 (N : Int)), (80, .slice (some ⟨g4, 0, none⟩) N N), (79, .bool false), (78, .bool false), (77, .bool true), (76, .slice A1 n1 c1), (75, .slice (some ⟨g2, 0, none⟩) n1 cap_2), (74, .bool false), (73, .bool false), (72, .bool false), (71, .bool true), (70, .slice A0 n0 c0), (69, .slice (some ⟨g1, 0, none⟩) n0 cap_1), (68, .bool false), (67, .bool false), (66, .bool false), (65, .bool true), (64, .slice (some ⟨g3, 0, none⟩) N cap_3), (63, .slice (some ⟨g4, 0, none⟩) N N), (62, .bool false), (61, .bool false), (60, .int .i64 0), (59, .int .i64 0), (14, .int .i64 0), (13, .slice (some ⟨g5, 0, none⟩) N N), (58, .int .i64 0), (57, .slice (some ⟨g5, 0, none⟩) N N), (52, .tuple #[.slice (some ⟨g5, 0, none⟩) N N, .int .i64 0]), (56, .tuple #[.slice (some ⟨g5, 0, none⟩) N N, .int .i64 0]), (55, .int .i64 (N : Int)), (54, .slice (some ⟨g2, 0, none⟩) n1 cap_2), (53, .slice (some ⟨g1, 0, none⟩) n0 cap_1), (12, .int .i64 0), (11, .slice (some ⟨g4, 0, none⟩) N N), (51, .int .i64 0), (50, .slice (some ⟨g4, 0, none⟩) N N), (45, .tuple #[.slice (some ⟨g4, 0, none⟩) N N, .int .i64 0]), (49, .tuple #[.slice (some ⟨g4, 0, none⟩) N N, .int .i64 0]), (48, .int .i64 (N : Int)), (47, .slice (some ⟨g2, 0, none⟩) n1 cap_2), (46, .slice (some ⟨g1, 0, none⟩) n0 cap_1), (10, .int .i64 0), (9, .slice (some ⟨g3, 0, none⟩) N cap_3), (44, .int .i64 0), (43, .slice (some ⟨g3, 0, none⟩) N cap_3), (38, .tuple #[.slice (some ⟨g3, 0, none⟩) N cap_3, .int .i64 0]), (42, .tuple #[.slice (some ⟨g3, 0, none⟩) N cap_3, .int .i64 0]), (41, .int .i64 (N : Int)), (40, .slice A1 n1 c1), (39, .slice A0 n0 c0), (8, .slice (some ⟨g2, 0, none⟩) n1 cap_2), (37, .slice (some ⟨g2, 0, none⟩) n1 cap_2), (36, .slice A1 n1 c1), (7, .slice (some ⟨g1, 0, none⟩) n0 cap_1), (35, .slice (some ⟨g1, 0, none⟩) n0 cap_1), (34, .slice A0 n0 c0), (31, .bool false), (30, undef), (29, undef), (28, .bool false), (27, .bool false), (26, .int .i64 (N : Int)), (25, .bool false), (24, .bool false), (23, .int .i64 (n1 : Int)), (22, .slice A1 n1 c1), (21, .bool false), (20, .bool false), (19, .int .i64 (n0 : Int)), (18, .slice A0 n0 c0), (17, .bool false), (16, .bool true), (6, .bool false), (2, .int .i64 (N : Int)), (1, .slice A1 n1 c1), (0, .slice A0 n0 c0)], rfl, (by rfl), (Eq.trans (Eq.trans (Eq.trans (Eq.trans (fr_dup _ _ 82 _ (by rfl) (by rfl) (by rfl)).symm (fr_dup _ _ 81 _ (by rfl) (by rfl) (by rfl)).symm) (fr_dup _ _ 13 _ (by rfl) (by rfl) (by rfl)).symm) (fr_dup _ _ 9 _ (by rfl) (by rfl) (by rfl)).symm) (fr_dup _ _ 11 _ (by rfl) (by rfl) (by rfl)).symm), Nat.zero_le _, hn_4, hw11⟩
  rintro r_1 a0 w0_1 ⟨i, lx, csx, l_1, hr_1, hl_1, rfl, hi, hx, hw0_1⟩
  by_cases hlt : i < N
  ·
    refine seq_plain hw0_1 [0] (by rfl) ?_
    refine L_val (.bool true) (by rfl) (by exact hl_1) (gives_lss (k := .i64) ((i : Int)) ((N : Int)) true (by rfl) (by rfl) (decide_eq_true (by omega))) ?_
    refine L_end ?_
    intro w12 hw12
    refine wp_seq ?_
    refine wp_cond_true (fr_at _ _ (by exact hl_1) _) ?_
    refine wp_skip ?_
    change Code.wp _ _ _ _ _
    refine wp_seq ?_
    refine wp_block ?_
    refine seq_plain hw12 [0, 1] (by rfl) ?_
    refine L_val (.int .i64 (i : Int)) (by rfl) (by exact hl_1) (gives_value _ fun _ => by rfl) ?_
    refine L_val (.int .i64 (i : Int)) (by rfl) (by exact hl_1) (gives_value _ fun _ => by rfl) ?_
    refine L_end ?_
    intro w13 hw13
    refine one_plain hw13 [0, 1, 2, 3, 4, 5, 6] (by rfl) ?_
    refine L_val (.slice (some ⟨g4, 0, none⟩) N N) (by rfl) (by exact hl_1) (gives_value _ fun _ => by rfl) ?_
    refine L_val (.int .i64 (i : Int)) (by rfl) (by exact hl_1) (gives_value _ fun _ => by rfl) ?_
    refine L_val (.pointer (some ⟨g4, 0 + (i), none⟩)) (by rfl) (by exact hl_1) (gives_index g4 0 (N) (N) ((i : Int)) (i) (by rfl) (by rfl) und_u8s u8_sz rfl (by omega)) ?_
    refine L_val (.int .u8 (gt lx i)) (by rfl) (by exact hl_1) (gives_load1 g4 (0 + (i)) _ csx (.int .u8 (gt lx i)) (by rfl) (fun _ h => h.blk 1 (by rfl)) (hx.get (by omega)) und_u8') ?_
    refine L_val (.int .u8 (bits .xor .u8 (gt lx i) 255)) (by rfl) (by exact hl_1) (gives_xorB (k := .u8) (gt lx i) (255) (by rfl) (by rfl)) ?_
    refine L_val (.pointer (some ⟨g4, 0 + (i), none⟩)) (by rfl) (by exact hl_1) (gives_index g4 0 (N) (N) ((i : Int)) (i) (by rfl) (by rfl) und_u8s u8_sz rfl (by omega)) ?_
    refine L_store1 1 g4 (0 + (i)) _ csx (.int .u8 (bits .xor .u8 (gt lx i) 255)) (by rfl) (by exact hl_1) (by rfl) (by rfl) rfl (by rfl) u8_sz (by have := hx.le; rw [hx.size]; omega) ?_
    simp only [List.set_cons_zero, List.set_cons_succ]
    have hn_6 := hx.set i (bits .xor .u8 (gt lx i) 255)
    refine L_end ?_
    intro w14 hw14
    change Code.wp _ _ _ _ _
    refine one_plain hw14 [0, 1] (by rfl) ?_
    refine L_val (.int .i64 ((i : Int) + 1)) (by rfl) (by exact hl_1) (gives_add (k := .i64) ((i : Int)) (1) ((i : Int) + 1) (by rfl) (by rfl) (IntWalk.i64_in _ (by omega))) ?_
    refine L_val (.int .i64 ((i : Int) + 1)) (by rfl) (by exact hl_1) (gives_value _ fun _ => by rfl) ?_
    refine L_end ?_
    intro w15 hw15
    change ∃ r' : Nat, r' < r_1 ∧ _
    refine ⟨_, ?_, i + 1, lx.set i (bits .xor .u8 (gt lx i) 255), (csx.setIfInBounds (0 + (i)) (.int .u8 (bits .xor .u8 (gt lx i) 255))), ((82, .int .i64 ((i : Int) + 1)) :: (91, .int .i64 ((i : Int) + 1)) :: (90, .pointer (some ⟨g4, 0 + (i), none⟩)) :: (89, .int .u8 (bits .xor .u8 (gt lx i) 255)) :: (88, .int .u8 (gt lx i)) :: (87, .pointer (some ⟨g4, 0 + (i), none⟩)) :: (86, .int .i64 (i : Int)) :: (85, .slice (some ⟨g4, 0, none⟩) N N) :: (15, .int .i64 (i : Int)) :: (84, .int .i64 (i : Int)) :: (83, .bool true) :: (11, .slice (some ⟨g4, 0, none⟩) N N) :: (9, .slice (some ⟨g3, 0, none⟩) N cap_3) :: (13, .slice (some ⟨g5, 0, none⟩) N N) :: (81, .int .i64 (N : Int)) :: (82, .int .i64 (i : Int)) :: l_1), rfl, (by exact hl_1), (Eq.trans (Eq.trans (Eq.trans (Eq.trans (fr_dup _ _ 82 _ (by exact hl_1) (by rfl) (by rfl)).symm (fr_dup _ _ 81 _ (by exact hl_1) (by rfl) (by rfl)).symm) (fr_dup _ _ 13 _ (by exact hl_1) (by rfl) (by rfl)).symm) (fr_dup _ _ 9 _ (by exact hl_1) (by rfl) (by rfl)).symm) (fr_dup _ _ 11 _ (by exact hl_1) (by rfl) (by rfl)).symm), by omega, hn_6, hw15⟩
    omega
  ·
    refine seq_plain hw0_1 [0] (by rfl) ?_
    refine L_val (.bool false) (by rfl) (by exact hl_1) (gives_lss (k := .i64) ((i : Int)) ((N : Int)) false (by rfl) (by rfl) (decide_eq_false (by omega))) ?_
    refine L_end ?_
    intro w16 hw16
    refine wp_seq ?_
    refine wp_cond_false (fr_at _ _ (by exact hl_1) _) ?_
    refine wp_exit ?_
    change Code.wp _ _ _ _ _
    change Code.wp _ _ _ _ _
    refine seq_plain hw16 [0, 1, 2, 3] (by rfl) ?_
    refine L_val (.slice (some ⟨g5, 0, none⟩) N N) (by rfl) (by exact hl_1) (gives_value _ fun _ => by rfl) ?_
    refine L_val (.slice (some ⟨g3, 0, none⟩) N cap_3) (by rfl) (by exact hl_1) (gives_value _ fun _ => by rfl) ?_
    refine L_val (.bool true) (by rfl) (by exact hl_1) (gives_call (vl := [.slice (some ⟨g5, 0, none⟩) N N, .slice (some ⟨g3, 0, none⟩) N cap_3]) (by kernel_rfl) (by rfl) (fun w h => n_same w _ _ _ _ _ _ (expandL bs0 bs1 N) (expandL bs0 bs1 N) (hn_5.reads (h.blk 0 (by rfl))) (hn_3.reads (h.blk 2 (by rfl))) (by omega) (by omega) rfl)) ?_
    refine L_val (.bool true) (by rfl) (by exact hl_1) (gives_value _ fun _ => by rfl) ?_
    refine L_end ?_
    intro w17 hw17
    refine wp_ret ?_
    change bodyPost _ _ _ Exit.ret _ _
    refine (ret_tmp (by rfl) (by exact hl_1) (by rfl) ⟨rfl, hw17.below⟩)
set_option maxRecDepth 100000 in
set_option maxHeartbeats 4000000 in
theorem expands_wrap (A0 : Option Addr) (n0 c0 : Nat) (bs0 : List Int) (A1 : Option Addr) (n1 c1 : Nat) (bs1 : List Int) (N : Nat) (v : World) (hr0 : Reads v v.heap.size A0 n0 (bs0.map (Value.int .u8))) (hnc0 : n0 ≤ c0) (hr1 : Reads v v.heap.size A1 n1 (bs1.map (Value.int .u8))) (hnc1 : n1 ≤ c1) (hl0 : n0 ≤ 140737488351232) (hl1 : n1 ≤ 140737488351232) (hgl : Glob v) (h2 : 2 ≤ v.heap.size) (hs : n0 ≤ 4096 ∧ n1 ≤ 4096) (hN : 300 < N ∧ N ≤ 8160) : Rets 7 #[.slice A0 n0 c0, .slice A1 n1 c1, .int .i64 (N : Int)] v (.bool true) := by
  refine calls_fr3 Tryd.func7 rfl (by rfl : _ = 95) (by rfl) ?_
  have hw := Hbl.nil v
  refine seq_plain hw [0] (by rfl) ?_
  refine L_val (.bool false) (by rfl) (by rfl) (gives_value _ fun _ => by rfl) ?_
  refine L_end ?_
  intro w1 hw1
  refine wp_seq ?_
  refine seq_plain hw1 [0, 1] (by rfl) ?_
  refine L_val (.bool true) (by rfl) (by rfl) (gives_call (vl := []) (by kernel_rfl) (by rfl) (fun w h => x_head w (hgl.below h.below h2) (Nat.le_trans h2 h.below.size))) ?_
  refine L_val (.bool false) (by rfl) (by rfl) (gives_value _ fun _ => by rfl) ?_
  refine L_end ?_
  intro w2 hw2
  refine wp_cond_false (fr_at _ _ (by rfl) _) ?_
  refine wp_skip ?_
  change Code.wp _ _ _ _ _
  refine wp_seq ?_
  refine seq_plain hw2 [0, 1, 2, 3, 4, 5, 6, 7] (by rfl) ?_
  refine L_val (.slice A0 n0 c0) (by rfl) (by rfl) (gives_value _ fun _ => by rfl) ?_
  refine L_val (.int .i64 (n0 : Int)) (by rfl) (by rfl) (gives_len _ n0 c0 und_u8s (by rfl)) ?_
  refine L_val (.bool false) (by rfl) (by rfl) (gives_gtr (k := .i64) ((n0 : Int)) (4096) false (by rfl) (by rfl) (decide_eq_false (by omega))) ?_
  refine L_val (.bool false) (by rfl) (by rfl) (gives_value _ fun _ => by rfl) ?_
  refine L_val_g (dj := 21) (.slice A1 n1 c1) (by rfl) (by rfl) (by rfl) (by rfl) (by rfl) (gives_value _ fun _ => by rfl) ?_
  refine L_val_g (dj := 21) (.int .i64 (n1 : Int)) (by rfl) (by rfl) (by rfl) (by rfl) (by rfl) (gives_len _ n1 c1 und_u8s (by rfl)) ?_
  refine L_val_g (dj := 21) (.bool false) (by rfl) (by rfl) (by rfl) (by rfl) (by rfl) (gives_gtr (k := .i64) ((n1 : Int)) (4096) false (by rfl) (by rfl) (decide_eq_false (by omega))) ?_
  refine L_val (.bool false) (by rfl) (by rfl) (gives_value _ fun _ => by rfl) ?_
  refine L_end ?_
  intro w3 hw3
  refine wp_cond_false (fr_at _ _ (by rfl) _) ?_
  refine wp_skip ?_
  change Code.wp _ _ _ _ _
  refine wp_seq ?_
  refine seq_plain hw3 [0, 1, 2, 3, 4, 5] (by rfl) ?_
  refine L_val (.int .i64 (N : Int)) (by rfl) (by rfl) (gives_value _ fun _ => by rfl) ?_
  refine L_val (.bool true) (by rfl) (by rfl) (gives_gtr (k := .i64) ((N : Int)) (300) true (by rfl) (by rfl) (decide_eq_true (by omega))) ?_
  refine L_val (.bool true) (by rfl) (by rfl) (gives_value _ fun _ => by rfl) ?_
  refine L_val_g (dj := 28) (.int .i64 (N : Int)) (by rfl) (by rfl) (by rfl) (by rfl) (by rfl) (gives_value _ fun _ => by rfl) ?_
  refine L_val_g (dj := 28) (.bool true) (by rfl) (by rfl) (by rfl) (by rfl) (by rfl) (gives_leq (k := .i64) ((N : Int)) (8160) true (by rfl) (by rfl) (decide_eq_true (by omega))) ?_
  refine L_val (.bool true) (by rfl) (by rfl) (gives_value _ fun _ => by rfl) ?_
  refine L_end ?_
  intro w4 hw4
  refine wp_cond_true (fr_at _ _ (by rfl) _) ?_
  refine one_plain hw4 [0, 1, 2] (by rfl) ?_
  refine L_val (.int .i64 (N : Int)) (by rfl) (by rfl) (gives_value _ fun _ => by rfl) ?_
  refine L_val (.int .i64 ((N % 256 : Nat) : Int)) (by rfl) (by rfl) (gives_and (k := .i64) (N : Int) 255 ((N % 256 : Nat) : Int) (by rfl) (by rfl) ((and_255 _ (by omega) (by omega)).trans (by omega))) ?_
  refine L_val (.int .i64 ((N % 256 : Nat) : Int)) (by rfl) (by rfl) (gives_value _ fun _ => by rfl) ?_
  refine L_end ?_
  intro w5 hw5
  change Code.wp _ _ _ _ _
  refine seq_plain hw5 [0, 1, 2] (by rfl) ?_
  refine L_val (.slice A0 n0 c0) (by rfl) (by rfl) (gives_value _ fun _ => by rfl) ?_
  refine L_freshP (vl := [.slice A0 n0 c0]) 5 .u8 n0 bs0 (by rfl) (by rfl) Want.none (by kernel_rfl) (by rfl) (fun w h => c_copy w _ _ _ bs0 ((hr0.below h.below).more h.below.size) (by omega)) ?_; intro g1 cap_1 cs_1 hn_1
  refine L_val (.slice (some ⟨g1, 0, none⟩) n0 cap_1) (by rfl) (by rfl) (gives_value _ fun _ => by rfl) ?_
  refine L_end ?_
  intro w6 hw6
  refine seq_plain hw6 [0, 1, 2] (by rfl) ?_
  refine L_val (.slice A1 n1 c1) (by rfl) (by rfl) (gives_value _ fun _ => by rfl) ?_
  refine L_freshP (vl := [.slice A1 n1 c1]) 5 .u8 n1 bs1 (by rfl) (by rfl) Want.none (by kernel_rfl) (by rfl) (fun w h => c_copy w _ _ _ bs1 ((hr1.below h.below).more h.below.size) (by omega)) ?_; intro g2 cap_2 cs_2 hn_2
  refine L_val (.slice (some ⟨g2, 0, none⟩) n1 cap_2) (by rfl) (by rfl) (gives_value _ fun _ => by rfl) ?_
  refine L_end ?_
  intro w7 hw7
  refine seq_plain hw7 [0, 1, 2, 3, 4, 5, 6, 7, 8] (by rfl) ?_
  refine L_val (.slice A0 n0 c0) (by rfl) (by rfl) (gives_value _ fun _ => by rfl) ?_
  refine L_val (.slice A1 n1 c1) (by rfl) (by rfl) (gives_value _ fun _ => by rfl) ?_
  refine L_val (.int .i64 ((N % 256 : Nat) : Int)) (by rfl) (by rfl) (gives_value _ fun _ => by rfl) ?_
  refine L_freshT2 (vl := [.slice A0 n0 c0, .slice A1 n1 c1, .int .i64 ((N % 256 : Nat) : Int)]) (N % 256) (expandL bs0 bs1 (N % 256)) (by rfl) (by rfl) Want.none (by kernel_rfl) (by rfl) (fun w h => x_ref _ _ _ bs0 _ _ _ bs1 (N % 256) w ((hr0.below h.below).more h.below.size) ((hr1.below h.below).more h.below.size) (hgl.below h.below h2) (Nat.le_trans h2 h.below.size) (by omega) (by omega) (by omega)) ?_; intro g3 cap_3 cs_3 hn_3
  refine L_val (.tuple #[.slice (some ⟨g3, 0, none⟩) (N % 256) cap_3, .int .i64 0]) (by rfl) (by rfl) (gives_value _ fun _ => by rfl) ?_
  refine L_val (.slice (some ⟨g3, 0, none⟩) (N % 256) cap_3) (by rfl) (by rfl) (gives_value _ fun _ => by kernel_rfl) ?_
  refine L_val (.int .i64 0) (by rfl) (by rfl) (gives_value _ fun _ => by kernel_rfl) ?_
  refine L_val (.slice (some ⟨g3, 0, none⟩) (N % 256) cap_3) (by rfl) (by rfl) (gives_value _ fun _ => by rfl) ?_
  refine L_val (.int .i64 0) (by rfl) (by rfl) (gives_value _ fun _ => by rfl) ?_
  refine L_end ?_
  intro w8 hw8
  refine seq_plain hw8 [0, 1, 2, 3, 4, 5, 6, 7, 8] (by rfl) ?_
  refine L_val (.slice (some ⟨g1, 0, none⟩) n0 cap_1) (by rfl) (by rfl) (gives_value _ fun _ => by rfl) ?_
  refine L_val (.slice (some ⟨g2, 0, none⟩) n1 cap_2) (by rfl) (by rfl) (gives_value _ fun _ => by rfl) ?_
  refine L_val (.int .i64 ((N % 256 : Nat) : Int)) (by rfl) (by rfl) (gives_value _ fun _ => by rfl) ?_
  refine L_freshT (vl := [.slice (some ⟨g1, 0, none⟩) n0 cap_1, .slice (some ⟨g2, 0, none⟩) n1 cap_2, .int .i64 ((N % 256 : Nat) : Int)]) (N % 256) (expandL bs0 bs1 (N % 256)) (by rfl) (by rfl) Want.none (by kernel_rfl) (by rfl) (fun w h => x_expand _ _ _ bs0 _ _ _ bs1 (N % 256) w (hn_1.reads (h.blk 2 (by rfl))) (hn_1.le) (hn_2.reads (h.blk 1 (by rfl))) (hn_2.le) (hgl.below h.below h2) (Nat.le_trans h2 h.below.size) (by omega) (by omega) (by omega)) ?_; intro g4 cap_4 cs_4 hn_4
  refine L_val (.tuple #[.slice (some ⟨g4, 0, none⟩) (N % 256) (N % 256), .int .i64 0]) (by rfl) (by rfl) (gives_value _ fun _ => by rfl) ?_
  refine L_val (.slice (some ⟨g4, 0, none⟩) (N % 256) (N % 256)) (by rfl) (by rfl) (gives_value _ fun _ => by kernel_rfl) ?_
  refine L_val (.int .i64 0) (by rfl) (by rfl) (gives_value _ fun _ => by kernel_rfl) ?_
  refine L_val (.slice (some ⟨g4, 0, none⟩) (N % 256) (N % 256)) (by rfl) (by rfl) (gives_value _ fun _ => by rfl) ?_
  refine L_val (.int .i64 0) (by rfl) (by rfl) (gives_value _ fun _ => by rfl) ?_
  refine L_end ?_
  intro w9 hw9
  refine seq_plain hw9 [0, 1, 2, 3, 4, 5, 6, 7, 8] (by rfl) ?_
  refine L_val (.slice (some ⟨g1, 0, none⟩) n0 cap_1) (by rfl) (by rfl) (gives_value _ fun _ => by rfl) ?_
  refine L_val (.slice (some ⟨g2, 0, none⟩) n1 cap_2) (by rfl) (by rfl) (gives_value _ fun _ => by rfl) ?_
  refine L_val (.int .i64 ((N % 256 : Nat) : Int)) (by rfl) (by rfl) (gives_value _ fun _ => by rfl) ?_
  refine L_freshT (vl := [.slice (some ⟨g1, 0, none⟩) n0 cap_1, .slice (some ⟨g2, 0, none⟩) n1 cap_2, .int .i64 ((N % 256 : Nat) : Int)]) (N % 256) (expandL bs0 bs1 (N % 256)) (by rfl) (by rfl) Want.none (by kernel_rfl) (by rfl) (fun w h => x_expand _ _ _ bs0 _ _ _ bs1 (N % 256) w (hn_1.reads (h.blk 3 (by rfl))) (hn_1.le) (hn_2.reads (h.blk 2 (by rfl))) (hn_2.le) (hgl.below h.below h2) (Nat.le_trans h2 h.below.size) (by omega) (by omega) (by omega)) ?_; intro g5 cap_5 cs_5 hn_5
  refine L_val (.tuple #[.slice (some ⟨g5, 0, none⟩) (N % 256) (N % 256), .int .i64 0]) (by rfl) (by rfl) (gives_value _ fun _ => by rfl) ?_
  refine L_val (.slice (some ⟨g5, 0, none⟩) (N % 256) (N % 256)) (by rfl) (by rfl) (gives_value _ fun _ => by kernel_rfl) ?_
  refine L_val (.int .i64 0) (by rfl) (by rfl) (gives_value _ fun _ => by kernel_rfl) ?_
  refine L_val (.slice (some ⟨g5, 0, none⟩) (N % 256) (N % 256)) (by rfl) (by rfl) (gives_value _ fun _ => by rfl) ?_
  refine L_val (.int .i64 0) (by rfl) (by rfl) (gives_value _ fun _ => by rfl) ?_
  refine L_end ?_
  intro w10 hw10
  refine wp_seq ?_
  refine seq_plain hw10 [0, 1, 2, 3, 4, 5, 6, 7, 8, 9, 10, 11, 12, 13, 14, 15, 16, 17, 18, 19, 20] (by rfl) ?_
  refine L_val (.int .i64 0) (by rfl) (by rfl) (gives_value _ fun _ => by rfl) ?_
  refine L_val (.int .i64 0) (by rfl) (by rfl) (gives_value _ fun _ => by rfl) ?_
  refine L_val (.bool false) (by rfl) (by rfl) (gives_ine (k := .i64) (0) (0) false (by rfl) (by rfl) (decide_eq_false (by omega))) ?_
  refine L_val (.bool false) (by rfl) (by rfl) (gives_value _ fun _ => by rfl) ?_
  refine L_val_g (dj := 62) (.slice (some ⟨g4, 0, none⟩) (N % 256) (N % 256)) (by rfl) (by rfl) (by rfl) (by rfl) (by rfl) (gives_value _ fun _ => by rfl) ?_
  refine L_val_g (dj := 62) (.slice (some ⟨g3, 0, none⟩) (N % 256) cap_3) (by rfl) (by rfl) (by rfl) (by rfl) (by rfl) (gives_value _ fun _ => by rfl) ?_
  refine L_val_g (dj := 62) (.bool true) (by rfl) (by rfl) (by rfl) (by rfl) (by rfl) (gives_call (vl := [.slice (some ⟨g4, 0, none⟩) (N % 256) (N % 256), .slice (some ⟨g3, 0, none⟩) (N % 256) cap_3]) (by kernel_rfl) (by rfl) (fun w h => n_same w _ _ _ _ _ _ (expandL bs0 bs1 (N % 256)) (expandL bs0 bs1 (N % 256)) (hn_4.reads (h.blk 1 (by rfl))) (hn_3.reads (h.blk 2 (by rfl))) (by omega) (by omega) rfl)) ?_
  refine L_val_g (dj := 62) (.bool false) (by rfl) (by rfl) (by rfl) (by rfl) (by rfl) (gives_value _ fun _ => by rfl) ?_
  refine L_val (.bool false) (by rfl) (by rfl) (gives_value _ fun _ => by rfl) ?_
  refine L_val (.bool false) (by rfl) (by rfl) (gives_value _ fun _ => by rfl) ?_
  refine L_val_g (dj := 68) (.slice (some ⟨g1, 0, none⟩) n0 cap_1) (by rfl) (by rfl) (by rfl) (by rfl) (by rfl) (gives_value _ fun _ => by rfl) ?_
  refine L_val_g (dj := 68) (.slice A0 n0 c0) (by rfl) (by rfl) (by rfl) (by rfl) (by rfl) (gives_value _ fun _ => by rfl) ?_
  refine L_val_g (dj := 68) (.bool true) (by rfl) (by rfl) (by rfl) (by rfl) (by rfl) (gives_call (vl := [.slice (some ⟨g1, 0, none⟩) n0 cap_1, .slice A0 n0 c0]) (by kernel_rfl) (by rfl) (fun w h => n_same w _ _ _ _ _ _ (bs0) (bs0) (hn_1.reads (h.blk 4 (by rfl))) ((hr0.below h.below).more h.below.size) (by omega) (by omega) rfl)) ?_
  refine L_val_g (dj := 68) (.bool false) (by rfl) (by rfl) (by rfl) (by rfl) (by rfl) (gives_value _ fun _ => by rfl) ?_
  refine L_val (.bool false) (by rfl) (by rfl) (gives_value _ fun _ => by rfl) ?_
  refine L_val (.bool false) (by rfl) (by rfl) (gives_value _ fun _ => by rfl) ?_
  refine L_val_g (dj := 74) (.slice (some ⟨g2, 0, none⟩) n1 cap_2) (by rfl) (by rfl) (by rfl) (by rfl) (by rfl) (gives_value _ fun _ => by rfl) ?_
  refine L_val_g (dj := 74) (.slice A1 n1 c1) (by rfl) (by rfl) (by rfl) (by rfl) (by rfl) (gives_value _ fun _ => by rfl) ?_
  refine L_val_g (dj := 74) (.bool true) (by rfl) (by rfl) (by rfl) (by rfl) (by rfl) (gives_call (vl := [.slice (some ⟨g2, 0, none⟩) n1 cap_2, .slice A1 n1 c1]) (by kernel_rfl) (by rfl) (fun w h => n_same w _ _ _ _ _ _ (bs1) (bs1) (hn_2.reads (h.blk 3 (by rfl))) ((hr1.below h.below).more h.below.size) (by omega) (by omega) rfl)) ?_
  refine L_val_g (dj := 74) (.bool false) (by rfl) (by rfl) (by rfl) (by rfl) (by rfl) (gives_value _ fun _ => by rfl) ?_
  refine L_val (.bool false) (by rfl) (by rfl) (gives_value _ fun _ => by rfl) ?_
  refine L_end ?_
  intro w11 hw11
  refine wp_cond_false (fr_at _ _ (by rfl) _) ?_
  refine wp_skip ?_
  change Code.wp _ _ _ _ _
  refine wp_seq ?_
  refine seq_plain hw11 [0, 1, 2] (by rfl) ?_
  refine L_val (.slice (some ⟨g4, 0, none⟩) (N % 256) (N % 256)) (by rfl) (by rfl) (gives_value _ fun _ => by rfl) ?_
  refine L_val (.int .i64 (((N % 256) : Nat) : Int)) (by rfl) (by rfl) (gives_len _ (N % 256) (N % 256) und_u8s (by rfl)) ?_
  refine L_val (.int .i64 0) (by rfl) (by rfl) (gives_value _ fun _ => by rfl) ?_
  refine L_end ?_
  intro w12 hw12
  refine wp_block ?_
  refine loop_down (fun (r_ : Nat) a w => ∃ (i : Nat) (lx : List Int) (csx : Array Value) (l_1 : List (Nat × Value)), (N % 256) - i = r_ ∧ inFr 95 l_1 = true ∧ a = fr 95 ((11, .slice (some ⟨g4, 0, none⟩) (N % 256) (N % 256)) :: (9, .slice (some ⟨g3, 0, none⟩) (N % 256) cap_3) :: (13, .slice (some ⟨g5, 0, none⟩) (N % 256) (N % 256)) :: (81, .int .i64 (((N % 256) : Nat) : Int)) :: (82, .int .i64 (i : Int)) :: l_1) ∧ (i ≤ (N % 256)) ∧ (Nms .u8 csx cap_4 (N % 256) lx) ∧ Hbl v [(g5, 5, cs_5), (g4, 5, csx), (g3, 5, cs_3), (g2, 5, cs_2), (g1, 5, cs_1)] w) ?_ _ _ _ ⟨0, expandL bs0 bs1 (N % 256), cs_4, [(82, .int .i64 0), (81, .int .i64 (((N % 256) : Nat) : Int)), (80, .slice (some ⟨g4, 0, none⟩) (N % 256) (N % 256)), (79, .bool false), (78, .bool false), (77, .bool true), (76, .slice A1 n1 c1), (75, .slice (some ⟨g2, 0, none⟩) n1 cap_2), (74, .bool false), (73, .bool false), (72, .bool false), (71, .bool true), (70, .slice A0 n0 c0), (69, .slice (some ⟨g1, 0, none⟩) n0 cap_1), (68, .bool false), (67, .bool false), (66, .bool false), (65, .bool true), (64, .slice (some ⟨g3, 0, none⟩) (N % 256) cap_3), (63, .slice (some ⟨g4, 0, none⟩) (N % 256) (N % 256)), (62, .bool false), (61, .bool false), (60, .int .i64 0), (59, .int .i64 0), (14, .int .i64 0), (13, .slice (some ⟨g5, 0, none⟩) (N % 256) (N % 256)), (58, .int .i64 0), (57, .slice (some ⟨g5, 0, none⟩) (N % 256) (N % 256)), (52, .tuple #[.slice (some ⟨g5, 0, none⟩) (N % 256) (N % 256), .int .i64 0]), (56, .tuple #[.slice (some ⟨g5, 0, none⟩) (N % 256) (N % 256), .int .i64 0]), (55, .int .i64 ((N % 256 : Nat) : Int)), (54, .slice (some ⟨g2, 0, none⟩) n1 cap_2), (53, .slice (some ⟨g1, 0, none⟩) n0 cap_1), (12, .int .i64 0), (11, .slice (some ⟨g4, 0, none⟩) (N % 256) (N % 256)), (51, .int .i64 0), (50, .slice (some ⟨g4, 0, none⟩) (N % 256) (N % 256)), (45, .tuple #[.slice (some ⟨g4, 0, none⟩) (N % 256) (N % 256), .int .i64 0]), (49, .tuple #[.slice (some ⟨g4, 0, none⟩) (N % 256) (N % 256), .int .i64 0]), (48, .int .i64 ((N % 256 : Nat) : Int)), (47, .slice (some ⟨g2, 0, none⟩) n1 cap_2), (46, .slice (some ⟨g1, 0, none⟩) n0 cap_1), (10, .int .i64 0), (9, .slice (some ⟨g3, 0, none⟩) (N % 256) cap_3), (44, .int .i64 0), (43, .slice (some ⟨g3, 0, none⟩) (N % 256) cap_3), (38, .tuple #[.slice (some ⟨g3, 0, none⟩) (N % 256) cap_3, .int .i64 0]), (42, .tuple #[.slice (some ⟨g3, 0, none⟩) (N % 256) cap_3, .int .i64 0]), (41, .int .i64 ((N % 256 : Nat) : Int)), (40, .slice A1 n1 c1), (39, .slice A0 n0 c0), (8, .slice (some ⟨g2, 0, none⟩) n1 cap_2), (37, .slice (some ⟨g2, 0, none⟩) n1 cap_2), (36, .slice A1 n1 c1), (7, .slice (some ⟨g1, 0, none⟩) n0 cap_1), (35, .slice (some ⟨g1, 0, none⟩) n0 cap_1), (34, .slice A0 n0 c0), (2, .int .i64 ((N % 256 : Nat) : Int)), (33, .int .i64 ((N % 256 : Nat) : Int)), (32, .int .i64 (N : Int)), (31, .bool true), (30, .bool true), (29, .int .i64 (N : Int)), (28, .bool true), (27, .bool true), (26, .int .i64 (N : Int)), (25, .bool false), (24, .bool false), (23, .int .i64 (n1 : Int)), (22, .slice A1 n1 c1), (21, .bool false), (20, .bool false), (19, .int .i64 (n0 : Int)), (18, .slice A0 n0 c0), (17, .bool false), (16, .bool true), (6, .bool false), (2, .int .i64 (N : Int)), (1, .slice A1 n1 c1), (0, .slice A0 n0 c0)], rfl, (by rfl), (Eq.trans (Eq.trans (Eq.trans (Eq.trans (fr_dup _ _ 82 _ (by rfl) (by rfl) (by rfl)).symm (fr_dup _ _ 81 _ (by rfl) (by rfl) (by rfl)).symm) (fr_dup _ _ 13 _ (by rfl) (by rfl) (by rfl)).symm) (fr_dup _ _ 9 _ (by rfl) (by rfl) (by rfl)).symm) (fr_dup _ _ 11 _ (by rfl) (by rfl) (by rfl)).symm), Nat.zero_le _, hn_4, hw12⟩
  rintro r_1 a0 w0_1 ⟨i, lx, csx, l_1, hr_1, hl_1, rfl, hi, hx, hw0_1⟩
  by_cases hlt : i < (N % 256)
  ·
    refine seq_plain hw0_1 [0] (by rfl) ?_
    refine L_val (.bool true) (by rfl) (by exact hl_1) (gives_lss (k := .i64) ((i : Int)) ((((N % 256) : Nat) : Int)) true (by rfl) (by rfl) (decide_eq_true (by omega))) ?_
    refine L_end ?_
    intro w13 hw13
    refine wp_seq ?_
    refine wp_cond_true (fr_at _ _ (by exact hl_1) _) ?_
    refine wp_skip ?_
    change Code.wp _ _ _ _ _
    refine wp_seq ?_
    refine wp_block ?_
    refine seq_plain hw13 [0, 1] (by rfl) ?_
    refine L_val (.int .i64 (i : Int)) (by rfl) (by exact hl_1) (gives_value _ fun _ => by rfl) ?_
    refine L_val (.int .i64 (i : Int)) (by rfl) (by exact hl_1) (gives_value _ fun _ => by rfl) ?_
    refine L_end ?_
    intro w14 hw14
    refine one_plain hw14 [0, 1, 2, 3, 4, 5, 6] (by rfl) ?_
    refine L_val (.slice (some ⟨g4, 0, none⟩) (N % 256) (N % 256)) (by rfl) (by exact hl_1) (gives_value _ fun _ => by rfl) ?_
    refine L_val (.int .i64 (i : Int)) (by rfl) (by exact hl_1) (gives_value _ fun _ => by rfl) ?_
    refine L_val (.pointer (some ⟨g4, 0 + (i), none⟩)) (by rfl) (by exact hl_1) (gives_index g4 0 ((N % 256)) ((N % 256)) ((i : Int)) (i) (by rfl) (by rfl) und_u8s u8_sz rfl (by omega)) ?_
    refine L_val (.int .u8 (gt lx i)) (by rfl) (by exact hl_1) (gives_load1 g4 (0 + (i)) _ csx (.int .u8 (gt lx i)) (by rfl) (fun _ h => h.blk 1 (by rfl)) (hx.get (by omega)) und_u8') ?_
    refine L_val (.int .u8 (bits .xor .u8 (gt lx i) 255)) (by rfl) (by exact hl_1) (gives_xorB (k := .u8) (gt lx i) (255) (by rfl) (by rfl)) ?_
    refine L_val (.pointer (some ⟨g4, 0 + (i), none⟩)) (by rfl) (by exact hl_1) (gives_index g4 0 ((N % 256)) ((N % 256)) ((i : Int)) (i) (by rfl) (by rfl) und_u8s u8_sz rfl (by omega)) ?_
    refine L_store1 1 g4 (0 + (i)) _ csx (.int .u8 (bits .xor .u8 (gt lx i) 255)) (by rfl) (by exact hl_1) (by rfl) (by rfl) rfl (by rfl) u8_sz (by have := hx.le; rw [hx.size]; omega) ?_
    simp only [List.set_cons_zero, List.set_cons_succ]
    have hn_6 := hx.set i (bits .xor .u8 (gt lx i) 255)
    refine L_end ?_
    intro w15 hw15
    change Code.wp _ _ _ _ _
    refine one_plain hw15 [0, 1] (by rfl) ?_
    refine L_val (.int .i64 ((i : Int) + 1)) (by rfl) (by exact hl_1) (gives_add (k := .i64) ((i : Int)) (1) ((i : Int) + 1) (by rfl) (by rfl) (IntWalk.i64_in _ (by omega))) ?_
    refine L_val (.int .i64 ((i : Int) + 1)) (by rfl) (by exact hl_1) (gives_value _ fun _ => by rfl) ?_
    refine L_end ?_
    intro w16 hw16
    change ∃ r' : Nat, r' < r_1 ∧ _
    refine ⟨_, ?_, i + 1, lx.set i (bits .xor .u8 (gt lx i) 255), (csx.setIfInBounds (0 + (i)) (.int .u8 (bits .xor .u8 (gt lx i) 255))), ((82, .int .i64 ((i : Int) + 1)) :: (91, .int .i64 ((i : Int) + 1)) :: (90, .pointer (some ⟨g4, 0 + (i), none⟩)) :: (89, .int .u8 (bits .xor .u8 (gt lx i) 255)) :: (88, .int .u8 (gt lx i)) :: (87, .pointer (some ⟨g4, 0 + (i), none⟩)) :: (86, .int .i64 (i : Int)) :: (85, .slice (some ⟨g4, 0, none⟩) (N % 256) (N % 256)) :: (15, .int .i64 (i : Int)) :: (84, .int .i64 (i : Int)) :: (83, .bool true) :: (11, .slice (some ⟨g4, 0, none⟩) (N % 256) (N % 256)) :: (9, .slice (some ⟨g3, 0, none⟩) (N % 256) cap_3) :: (13, .slice (some ⟨g5, 0, none⟩) (N % 256) (N % 256)) :: (81, .int .i64 (((N % 256) : Nat) : Int)) :: (82, .int .i64 (i : Int)) :: l_1), rfl, (by exact hl_1), (Eq.trans (Eq.trans (Eq.trans (Eq.trans (fr_dup _ _ 82 _ (by exact hl_1) (by rfl) (by rfl)).symm (fr_dup _ _ 81 _ (by exact hl_1) (by rfl) (by rfl)).symm) (fr_dup _ _ 13 _ (by exact hl_1) (by rfl) (by rfl)).symm) (fr_dup _ _ 9 _ (by exact hl_1) (by rfl) (by rfl)).symm) (fr_dup _ _ 11 _ (by exact hl_1) (by rfl) (by rfl)).symm), by omega, hn_6, hw16⟩
    omega
  ·
    refine seq_plain hw0_1 [0] (by rfl) ?_
    refine L_val (.bool false) (by rfl) (by exact hl_1) (gives_lss (k := .i64) ((i : Int)) ((((N % 256) : Nat) : Int)) false (by rfl) (by rfl) (decide_eq_false (by omega))) ?_
    refine L_end ?_
    intro w17 hw17
    refine wp_seq ?_
    refine wp_cond_false (fr_at _ _ (by exact hl_1) _) ?_
    refine wp_exit ?_
    change Code.wp _ _ _ _ _
    change Code.wp _ _ _ _ _
    refine seq_plain hw17 [0, 1, 2, 3] (by rfl) ?_
    refine L_val (.slice (some ⟨g5, 0, none⟩) (N % 256) (N % 256)) (by rfl) (by exact hl_1) (gives_value _ fun _ => by rfl) ?_
    refine L_val (.slice (some ⟨g3, 0, none⟩) (N % 256) cap_3) (by rfl) (by exact hl_1) (gives_value _ fun _ => by rfl) ?_
    refine L_val (.bool true) (by rfl) (by exact hl_1) (gives_call (vl := [.slice (some ⟨g5, 0, none⟩) (N % 256) (N % 256), .slice (some ⟨g3, 0, none⟩) (N % 256) cap_3]) (by kernel_rfl) (by rfl) (fun w h => n_same w _ _ _ _ _ _ (expandL bs0 bs1 (N % 256)) (expandL bs0 bs1 (N % 256)) (hn_5.reads (h.blk 0 (by rfl))) (hn_3.reads (h.blk 2 (by rfl))) (by omega) (by omega) rfl)) ?_
    refine L_val (.bool true) (by rfl) (by exact hl_1) (gives_value _ fun _ => by rfl) ?_
    refine L_end ?_
    intro w18 hw18
    refine wp_ret ?_
    change bodyPost _ _ _ Exit.ret _ _
    refine (ret_tmp (by rfl) (by exact hl_1) (by rfl) ⟨rfl, hw18.below⟩)
set_option maxRecDepth 100000 in
set_option maxHeartbeats 4000000 in
theorem expands_neg (A0 : Option Addr) (n0 c0 : Nat) (bs0 : List Int) (A1 : Option Addr) (n1 c1 : Nat) (bs1 : List Int) (N : Int) (v : World) (hr0 : Reads v v.heap.size A0 n0 (bs0.map (Value.int .u8))) (hnc0 : n0 ≤ c0) (hr1 : Reads v v.heap.size A1 n1 (bs1.map (Value.int .u8))) (hnc1 : n1 ≤ c1) (hl0 : n0 ≤ 140737488351232) (hl1 : n1 ≤ 140737488351232) (hgl : Glob v) (h2 : 2 ≤ v.heap.size) (hs : n0 ≤ 4096 ∧ n1 ≤ 4096) (hN : N < 0) : Rets 7 #[.slice A0 n0 c0, .slice A1 n1 c1, .int .i64 N] v (.bool true) := by
  refine calls_fr3 Tryd.func7 rfl (by rfl : _ = 95) (by rfl) ?_
  have hw := Hbl.nil v
  refine seq_plain hw [0] (by rfl) ?_
  refine L_val (.bool false) (by rfl) (by rfl) (gives_value _ fun _ => by rfl) ?_
  refine L_end ?_
  intro w1 hw1
  refine wp_seq ?_
  refine seq_plain hw1 [0, 1] (by rfl) ?_
  refine L_val (.bool true) (by rfl) (by rfl) (gives_call (vl := []) (by kernel_rfl) (by rfl) (fun w h => x_head w (hgl.below h.below h2) (Nat.le_trans h2 h.below.size))) ?_
  refine L_val (.bool false) (by rfl) (by rfl) (gives_value _ fun _ => by rfl) ?_
  refine L_end ?_
  intro w2 hw2
  refine wp_cond_false (fr_at _ _ (by rfl) _) ?_
  refine wp_skip ?_
  change Code.wp _ _ _ _ _
  refine wp_seq ?_
  refine seq_plain hw2 [0, 1, 2, 3, 4, 5, 6, 7] (by rfl) ?_
  refine L_val (.slice A0 n0 c0) (by rfl) (by rfl) (gives_value _ fun _ => by rfl) ?_
  refine L_val (.int .i64 (n0 : Int)) (by rfl) (by rfl) (gives_len _ n0 c0 und_u8s (by rfl)) ?_
  refine L_val (.bool false) (by rfl) (by rfl) (gives_gtr (k := .i64) ((n0 : Int)) (4096) false (by rfl) (by rfl) (decide_eq_false (by omega))) ?_
  refine L_val (.bool false) (by rfl) (by rfl) (gives_value _ fun _ => by rfl) ?_
  refine L_val_g (dj := 21) (.slice A1 n1 c1) (by rfl) (by rfl) (by rfl) (by rfl) (by rfl) (gives_value _ fun _ => by rfl) ?_
  refine L_val_g (dj := 21) (.int .i64 (n1 : Int)) (by rfl) (by rfl) (by rfl) (by rfl) (by rfl) (gives_len _ n1 c1 und_u8s (by rfl)) ?_
  refine L_val_g (dj := 21) (.bool false) (by rfl) (by rfl) (by rfl) (by rfl) (by rfl) (gives_gtr (k := .i64) ((n1 : Int)) (4096) false (by rfl) (by rfl) (decide_eq_false (by omega))) ?_
  refine L_val (.bool false) (by rfl) (by rfl) (gives_value _ fun _ => by rfl) ?_
  refine L_end ?_
  intro w3 hw3
  refine wp_cond_false (fr_at _ _ (by rfl) _) ?_
  refine wp_skip ?_
  change Code.wp _ _ _ _ _
  refine wp_seq ?_
  refine seq_plain hw3 [0, 1, 2, 3, 4, 5] (by rfl) ?_
  refine L_val (.int .i64 N) (by rfl) (by rfl) (gives_value _ fun _ => by rfl) ?_
  refine L_val (.bool false) (by rfl) (by rfl) (gives_gtr (k := .i64) (N) (300) false (by rfl) (by rfl) (decide_eq_false (by omega))) ?_
  refine L_val (.bool false) (by rfl) (by rfl) (gives_value _ fun _ => by rfl) ?_
  refine L_skip (dj := 28) (by rfl) (by rfl) (by rfl) (by rfl) (by rfl) ?_
  refine L_skip (dj := 28) (by rfl) (by rfl) (by rfl) (by rfl) (by rfl) ?_
  refine L_val (.bool false) (by rfl) (by rfl) (gives_value _ fun _ => by rfl) ?_
  refine L_end ?_
  intro w4 hw4
  refine wp_cond_false (fr_at _ _ (by rfl) _) ?_
  refine wp_skip ?_
  change Code.wp _ _ _ _ _
  refine seq_plain hw4 [0, 1, 2] (by rfl) ?_
  refine L_val (.slice A0 n0 c0) (by rfl) (by rfl) (gives_value _ fun _ => by rfl) ?_
  refine L_freshP (vl := [.slice A0 n0 c0]) 5 .u8 n0 bs0 (by rfl) (by rfl) Want.none (by kernel_rfl) (by rfl) (fun w h => c_copy w _ _ _ bs0 ((hr0.below h.below).more h.below.size) (by omega)) ?_; intro g1 cap_1 cs_1 hn_1
  refine L_val (.slice (some ⟨g1, 0, none⟩) n0 cap_1) (by rfl) (by rfl) (gives_value _ fun _ => by rfl) ?_
  refine L_end ?_
  intro w5 hw5
  refine seq_plain hw5 [0, 1, 2] (by rfl) ?_
  refine L_val (.slice A1 n1 c1) (by rfl) (by rfl) (gives_value _ fun _ => by rfl) ?_
  refine L_freshP (vl := [.slice A1 n1 c1]) 5 .u8 n1 bs1 (by rfl) (by rfl) Want.none (by kernel_rfl) (by rfl) (fun w h => c_copy w _ _ _ bs1 ((hr1.below h.below).more h.below.size) (by omega)) ?_; intro g2 cap_2 cs_2 hn_2
  refine L_val (.slice (some ⟨g2, 0, none⟩) n1 cap_2) (by rfl) (by rfl) (gives_value _ fun _ => by rfl) ?_
  refine L_end ?_
  intro w6 hw6
  refine seq_plain hw6 [0, 1, 2, 3, 4, 5, 6, 7, 8] (by rfl) ?_
  refine L_val (.slice A0 n0 c0) (by rfl) (by rfl) (gives_value _ fun _ => by rfl) ?_
  refine L_val (.slice A1 n1 c1) (by rfl) (by rfl) (gives_value _ fun _ => by rfl) ?_
  refine L_val (.int .i64 N) (by rfl) (by rfl) (gives_value _ fun _ => by rfl) ?_
  refine L_val (.tuple #[.slice none 0 0, .int .i64 1]) (by rfl) (by rfl) (gives_call (vl := [.slice A0 n0 c0, .slice A1 n1 c1, .int .i64 N]) (by kernel_rfl) (by rfl) (fun w h => x_ref_neg _ _ _ _ _ _ _ w (by omega))) ?_
  refine L_val (.tuple #[.slice none 0 0, .int .i64 1]) (by rfl) (by rfl) (gives_value _ fun _ => by rfl) ?_
  refine L_val (.slice none 0 0) (by rfl) (by rfl) (gives_value _ fun _ => by kernel_rfl) ?_
  refine L_val (.int .i64 1) (by rfl) (by rfl) (gives_value _ fun _ => by kernel_rfl) ?_
  refine L_val (.slice none 0 0) (by rfl) (by rfl) (gives_value _ fun _ => by rfl) ?_
  refine L_val (.int .i64 1) (by rfl) (by rfl) (gives_value _ fun _ => by rfl) ?_
  refine L_end ?_
  intro w7 hw7
  refine seq_plain hw7 [0, 1, 2, 3, 4, 5, 6, 7, 8] (by rfl) ?_
  refine L_val (.slice (some ⟨g1, 0, none⟩) n0 cap_1) (by rfl) (by rfl) (gives_value _ fun _ => by rfl) ?_
  refine L_val (.slice (some ⟨g2, 0, none⟩) n1 cap_2) (by rfl) (by rfl) (gives_value _ fun _ => by rfl) ?_
  refine L_val (.int .i64 N) (by rfl) (by rfl) (gives_value _ fun _ => by rfl) ?_
  refine L_val (.tuple #[.slice none 0 0, .int .i64 1]) (by rfl) (by rfl) (gives_call (vl := [.slice (some ⟨g1, 0, none⟩) n0 cap_1, .slice (some ⟨g2, 0, none⟩) n1 cap_2, .int .i64 N]) (by kernel_rfl) (by rfl) (fun w h => x_out_neg _ _ _ _ _ _ _ w (by omega))) ?_
  refine L_val (.tuple #[.slice none 0 0, .int .i64 1]) (by rfl) (by rfl) (gives_value _ fun _ => by rfl) ?_
  refine L_val (.slice none 0 0) (by rfl) (by rfl) (gives_value _ fun _ => by kernel_rfl) ?_
  refine L_val (.int .i64 1) (by rfl) (by rfl) (gives_value _ fun _ => by kernel_rfl) ?_
  refine L_val (.slice none 0 0) (by rfl) (by rfl) (gives_value _ fun _ => by rfl) ?_
  refine L_val (.int .i64 1) (by rfl) (by rfl) (gives_value _ fun _ => by rfl) ?_
  refine L_end ?_
  intro w8 hw8
  refine seq_plain hw8 [0, 1, 2, 3, 4, 5, 6, 7, 8] (by rfl) ?_
  refine L_val (.slice (some ⟨g1, 0, none⟩) n0 cap_1) (by rfl) (by rfl) (gives_value _ fun _ => by rfl) ?_
  refine L_val (.slice (some ⟨g2, 0, none⟩) n1 cap_2) (by rfl) (by rfl) (gives_value _ fun _ => by rfl) ?_
  refine L_val (.int .i64 N) (by rfl) (by rfl) (gives_value _ fun _ => by rfl) ?_
  refine L_val (.tuple #[.slice none 0 0, .int .i64 1]) (by rfl) (by rfl) (gives_call (vl := [.slice (some ⟨g1, 0, none⟩) n0 cap_1, .slice (some ⟨g2, 0, none⟩) n1 cap_2, .int .i64 N]) (by kernel_rfl) (by rfl) (fun w h => x_out_neg _ _ _ _ _ _ _ w (by omega))) ?_
  refine L_val (.tuple #[.slice none 0 0, .int .i64 1]) (by rfl) (by rfl) (gives_value _ fun _ => by rfl) ?_
  refine L_val (.slice none 0 0) (by rfl) (by rfl) (gives_value _ fun _ => by kernel_rfl) ?_
  refine L_val (.int .i64 1) (by rfl) (by rfl) (gives_value _ fun _ => by kernel_rfl) ?_
  refine L_val (.slice none 0 0) (by rfl) (by rfl) (gives_value _ fun _ => by rfl) ?_
  refine L_val (.int .i64 1) (by rfl) (by rfl) (gives_value _ fun _ => by rfl) ?_
  refine L_end ?_
  intro w9 hw9
  refine wp_seq ?_
  refine seq_plain hw9 [0, 1, 2, 3, 4, 5, 6, 7, 8, 9, 10, 11, 12, 13, 14, 15, 16, 17, 18, 19, 20] (by rfl) ?_
  refine L_val (.int .i64 1) (by rfl) (by rfl) (gives_value _ fun _ => by rfl) ?_
  refine L_val (.int .i64 1) (by rfl) (by rfl) (gives_value _ fun _ => by rfl) ?_
  refine L_val (.bool false) (by rfl) (by rfl) (gives_ine (k := .i64) (1) (1) false (by rfl) (by rfl) (decide_eq_false (by omega))) ?_
  refine L_val (.bool false) (by rfl) (by rfl) (gives_value _ fun _ => by rfl) ?_
  refine L_val_g (dj := 62) (.slice none 0 0) (by rfl) (by rfl) (by rfl) (by rfl) (by rfl) (gives_value _ fun _ => by rfl) ?_
  refine L_val_g (dj := 62) (.slice none 0 0) (by rfl) (by rfl) (by rfl) (by rfl) (by rfl) (gives_value _ fun _ => by rfl) ?_
  refine L_val_g (dj := 62) (.bool true) (by rfl) (by rfl) (by rfl) (by rfl) (by rfl) (gives_call (vl := [.slice none 0 0, .slice none 0 0]) (by kernel_rfl) (by rfl) (fun w h => n_same w _ _ _ _ _ _ ([]) ([]) Reads.nil_ Reads.nil_ (by omega) (by omega) rfl)) ?_
  refine L_val_g (dj := 62) (.bool false) (by rfl) (by rfl) (by rfl) (by rfl) (by rfl) (gives_value _ fun _ => by rfl) ?_
  refine L_val (.bool false) (by rfl) (by rfl) (gives_value _ fun _ => by rfl) ?_
  refine L_val (.bool false) (by rfl) (by rfl) (gives_value _ fun _ => by rfl) ?_
  refine L_val_g (dj := 68) (.slice (some ⟨g1, 0, none⟩) n0 cap_1) (by rfl) (by rfl) (by rfl) (by rfl) (by rfl) (gives_value _ fun _ => by rfl) ?_
  refine L_val_g (dj := 68) (.slice A0 n0 c0) (by rfl) (by rfl) (by rfl) (by rfl) (by rfl) (gives_value _ fun _ => by rfl) ?_
  refine L_val_g (dj := 68) (.bool true) (by rfl) (by rfl) (by rfl) (by rfl) (by rfl) (gives_call (vl := [.slice (some ⟨g1, 0, none⟩) n0 cap_1, .slice A0 n0 c0]) (by kernel_rfl) (by rfl) (fun w h => n_same w _ _ _ _ _ _ (bs0) (bs0) (hn_1.reads (h.blk 1 (by rfl))) ((hr0.below h.below).more h.below.size) (by omega) (by omega) rfl)) ?_
  refine L_val_g (dj := 68) (.bool false) (by rfl) (by rfl) (by rfl) (by rfl) (by rfl) (gives_value _ fun _ => by rfl) ?_
  refine L_val (.bool false) (by rfl) (by rfl) (gives_value _ fun _ => by rfl) ?_
  refine L_val (.bool false) (by rfl) (by rfl) (gives_value _ fun _ => by rfl) ?_
  refine L_val_g (dj := 74) (.slice (some ⟨g2, 0, none⟩) n1 cap_2) (by rfl) (by rfl) (by rfl) (by rfl) (by rfl) (gives_value _ fun _ => by rfl) ?_
  refine L_val_g (dj := 74) (.slice A1 n1 c1) (by rfl) (by rfl) (by rfl) (by rfl) (by rfl) (gives_value _ fun _ => by rfl) ?_
  refine L_val_g (dj := 74) (.bool true) (by rfl) (by rfl) (by rfl) (by rfl) (by rfl) (gives_call (vl := [.slice (some ⟨g2, 0, none⟩) n1 cap_2, .slice A1 n1 c1]) (by kernel_rfl) (by rfl) (fun w h => n_same w _ _ _ _ _ _ (bs1) (bs1) (hn_2.reads (h.blk 0 (by rfl))) ((hr1.below h.below).more h.below.size) (by omega) (by omega) rfl)) ?_
  refine L_val_g (dj := 74) (.bool false) (by rfl) (by rfl) (by rfl) (by rfl) (by rfl) (gives_value _ fun _ => by rfl) ?_
  refine L_val (.bool false) (by rfl) (by rfl) (gives_value _ fun _ => by rfl) ?_
  refine L_end ?_
  intro w10 hw10
  refine wp_cond_false (fr_at _ _ (by rfl) _) ?_
  refine wp_skip ?_
  change Code.wp _ _ _ _ _
  refine wp_seq ?_
  refine seq_plain hw10 [0, 1, 2] (by rfl) ?_
  refine L_val (.slice none 0 0) (by rfl) (by rfl) (gives_value _ fun _ => by rfl) ?_
  refine L_val (.int .i64 0) (by rfl) (by rfl) (gives_value _ fun _ => by kernel_rfl) ?_
  refine L_val (.int .i64 0) (by rfl) (by rfl) (gives_value _ fun _ => by rfl) ?_
  refine L_end ?_
  intro w11 hw11
  refine wp_block ?_
  refine rounds_firstS 0 ?_
  refine seq_plain hw11 [0] (by rfl) ?_
  refine L_val (.bool false) (by rfl) (by rfl) (gives_lss (k := .i64) 0 0 false (by rfl) (by rfl) (by rfl)) ?_
  refine L_end ?_
  intro w12 hw12
  refine wp_seq ?_
  refine wp_cond_false (fr_at _ _ (by rfl) _) ?_
  refine wp_exit ?_
  change Code.wp _ _ _ _ _
  change Code.wp _ _ _ _ _
  refine seq_plain hw12 [0, 1, 2, 3] (by rfl) ?_
  refine L_val (.slice none 0 0) (by rfl) (by rfl) (gives_value _ fun _ => by rfl) ?_
  refine L_val (.slice none 0 0) (by rfl) (by rfl) (gives_value _ fun _ => by rfl) ?_
  refine L_val (.bool true) (by rfl) (by rfl) (gives_call (vl := [.slice none 0 0, .slice none 0 0]) (by kernel_rfl) (by rfl) (fun w h => n_same w _ _ _ _ _ _ ([]) ([]) Reads.nil_ Reads.nil_ (by omega) (by omega) rfl)) ?_
  refine L_val (.bool true) (by rfl) (by rfl) (gives_value _ fun _ => by rfl) ?_
  refine L_end ?_
  intro w13 hw13
  refine wp_ret ?_
  change bodyPost _ _ _ Exit.ret _ _
  refine (ret_tmp (by rfl) (by rfl) (by rfl) ⟨rfl, hw13.below⟩)
set_option maxRecDepth 100000 in
set_option maxHeartbeats 4000000 in
theorem expands_big (A0 : Option Addr) (n0 c0 : Nat) (bs0 : List Int) (A1 : Option Addr) (n1 c1 : Nat) (bs1 : List Int) (N : Int) (v : World) (hr0 : Reads v v.heap.size A0 n0 (bs0.map (Value.int .u8))) (hnc0 : n0 ≤ c0) (hr1 : Reads v v.heap.size A1 n1 (bs1.map (Value.int .u8))) (hnc1 : n1 ≤ c1) (hl0 : n0 ≤ 140737488351232) (hl1 : n1 ≤ 140737488351232) (hgl : Glob v) (h2 : 2 ≤ v.heap.size) (hs : n0 ≤ 4096 ∧ n1 ≤ 4096) (hN : 8160 < N) : Rets 7 #[.slice A0 n0 c0, .slice A1 n1 c1, .int .i64 N] v (.bool true) := by
  refine calls_fr3 Tryd.func7 rfl (by rfl : _ = 95) (by rfl) ?_
  have hw := Hbl.nil v
  refine seq_plain hw [0] (by rfl) ?_
  refine L_val (.bool false) (by rfl) (by rfl) (gives_value _ fun _ => by rfl) ?_
  refine L_end ?_
  intro w1 hw1
  refine wp_seq ?_
  refine seq_plain hw1 [0, 1] (by rfl) ?_
  refine L_val (.bool true) (by rfl) (by rfl) (gives_call (vl := []) (by kernel_rfl) (by rfl) (fun w h => x_head w (hgl.below h.below h2) (Nat.le_trans h2 h.below.size))) ?_
  refine L_val (.bool false) (by rfl) (by rfl) (gives_value _ fun _ => by rfl) ?_
  refine L_end ?_
  intro w2 hw2
  refine wp_cond_false (fr_at _ _ (by rfl) _) ?_
  refine wp_skip ?_
  change Code.wp _ _ _ _ _
  refine wp_seq ?_
  refine seq_plain hw2 [0, 1, 2, 3, 4, 5, 6, 7] (by rfl) ?_
  refine L_val (.slice A0 n0 c0) (by rfl) (by rfl) (gives_value _ fun _ => by rfl) ?_
  refine L_val (.int .i64 (n0 : Int)) (by rfl) (by rfl) (gives_len _ n0 c0 und_u8s (by rfl)) ?_
  refine L_val (.bool false) (by rfl) (by rfl) (gives_gtr (k := .i64) ((n0 : Int)) (4096) false (by rfl) (by rfl) (decide_eq_false (by omega))) ?_
  refine L_val (.bool false) (by rfl) (by rfl) (gives_value _ fun _ => by rfl) ?_
  refine L_val_g (dj := 21) (.slice A1 n1 c1) (by rfl) (by rfl) (by rfl) (by rfl) (by rfl) (gives_value _ fun _ => by rfl) ?_
  refine L_val_g (dj := 21) (.int .i64 (n1 : Int)) (by rfl) (by rfl) (by rfl) (by rfl) (by rfl) (gives_len _ n1 c1 und_u8s (by rfl)) ?_
  refine L_val_g (dj := 21) (.bool false) (by rfl) (by rfl) (by rfl) (by rfl) (by rfl) (gives_gtr (k := .i64) ((n1 : Int)) (4096) false (by rfl) (by rfl) (decide_eq_false (by omega))) ?_
  refine L_val (.bool false) (by rfl) (by rfl) (gives_value _ fun _ => by rfl) ?_
  refine L_end ?_
  intro w3 hw3
  refine wp_cond_false (fr_at _ _ (by rfl) _) ?_
  refine wp_skip ?_
  change Code.wp _ _ _ _ _
  refine wp_seq ?_
  refine seq_plain hw3 [0, 1, 2, 3, 4, 5] (by rfl) ?_
  refine L_val (.int .i64 N) (by rfl) (by rfl) (gives_value _ fun _ => by rfl) ?_
  refine L_val (.bool true) (by rfl) (by rfl) (gives_gtr (k := .i64) (N) (300) true (by rfl) (by rfl) (decide_eq_true (by omega))) ?_
  refine L_val (.bool true) (by rfl) (by rfl) (gives_value _ fun _ => by rfl) ?_
  refine L_val_g (dj := 28) (.int .i64 N) (by rfl) (by rfl) (by rfl) (by rfl) (by rfl) (gives_value _ fun _ => by rfl) ?_
  refine L_val_g (dj := 28) (.bool false) (by rfl) (by rfl) (by rfl) (by rfl) (by rfl) (gives_leq (k := .i64) (N) (8160) false (by rfl) (by rfl) (decide_eq_false (by omega))) ?_
  refine L_val (.bool false) (by rfl) (by rfl) (gives_value _ fun _ => by rfl) ?_
  refine L_end ?_
  intro w4 hw4
  refine wp_cond_false (fr_at _ _ (by rfl) _) ?_
  refine wp_skip ?_
  change Code.wp _ _ _ _ _
  refine seq_plain hw4 [0, 1, 2] (by rfl) ?_
  refine L_val (.slice A0 n0 c0) (by rfl) (by rfl) (gives_value _ fun _ => by rfl) ?_
  refine L_freshP (vl := [.slice A0 n0 c0]) 5 .u8 n0 bs0 (by rfl) (by rfl) Want.none (by kernel_rfl) (by rfl) (fun w h => c_copy w _ _ _ bs0 ((hr0.below h.below).more h.below.size) (by omega)) ?_; intro g1 cap_1 cs_1 hn_1
  refine L_val (.slice (some ⟨g1, 0, none⟩) n0 cap_1) (by rfl) (by rfl) (gives_value _ fun _ => by rfl) ?_
  refine L_end ?_
  intro w5 hw5
  refine seq_plain hw5 [0, 1, 2] (by rfl) ?_
  refine L_val (.slice A1 n1 c1) (by rfl) (by rfl) (gives_value _ fun _ => by rfl) ?_
  refine L_freshP (vl := [.slice A1 n1 c1]) 5 .u8 n1 bs1 (by rfl) (by rfl) Want.none (by kernel_rfl) (by rfl) (fun w h => c_copy w _ _ _ bs1 ((hr1.below h.below).more h.below.size) (by omega)) ?_; intro g2 cap_2 cs_2 hn_2
  refine L_val (.slice (some ⟨g2, 0, none⟩) n1 cap_2) (by rfl) (by rfl) (gives_value _ fun _ => by rfl) ?_
  refine L_end ?_
  intro w6 hw6
  refine seq_plain hw6 [0, 1, 2, 3, 4, 5, 6, 7, 8] (by rfl) ?_
  refine L_val (.slice A0 n0 c0) (by rfl) (by rfl) (gives_value _ fun _ => by rfl) ?_
  refine L_val (.slice A1 n1 c1) (by rfl) (by rfl) (gives_value _ fun _ => by rfl) ?_
  refine L_val (.int .i64 N) (by rfl) (by rfl) (gives_value _ fun _ => by rfl) ?_
  refine L_val (.tuple #[.slice none 0 0, .int .i64 1]) (by rfl) (by rfl) (gives_call (vl := [.slice A0 n0 c0, .slice A1 n1 c1, .int .i64 N]) (by kernel_rfl) (by rfl) (fun w h => x_ref_big _ _ _ _ _ _ _ w (by omega))) ?_
  refine L_val (.tuple #[.slice none 0 0, .int .i64 1]) (by rfl) (by rfl) (gives_value _ fun _ => by rfl) ?_
  refine L_val (.slice none 0 0) (by rfl) (by rfl) (gives_value _ fun _ => by kernel_rfl) ?_
  refine L_val (.int .i64 1) (by rfl) (by rfl) (gives_value _ fun _ => by kernel_rfl) ?_
  refine L_val (.slice none 0 0) (by rfl) (by rfl) (gives_value _ fun _ => by rfl) ?_
  refine L_val (.int .i64 1) (by rfl) (by rfl) (gives_value _ fun _ => by rfl) ?_
  refine L_end ?_
  intro w7 hw7
  refine seq_plain hw7 [0, 1, 2, 3, 4, 5, 6, 7, 8] (by rfl) ?_
  refine L_val (.slice (some ⟨g1, 0, none⟩) n0 cap_1) (by rfl) (by rfl) (gives_value _ fun _ => by rfl) ?_
  refine L_val (.slice (some ⟨g2, 0, none⟩) n1 cap_2) (by rfl) (by rfl) (gives_value _ fun _ => by rfl) ?_
  refine L_val (.int .i64 N) (by rfl) (by rfl) (gives_value _ fun _ => by rfl) ?_
  refine L_val (.tuple #[.slice none 0 0, .int .i64 1]) (by rfl) (by rfl) (gives_call (vl := [.slice (some ⟨g1, 0, none⟩) n0 cap_1, .slice (some ⟨g2, 0, none⟩) n1 cap_2, .int .i64 N]) (by kernel_rfl) (by rfl) (fun w h => x_out_big _ _ _ _ _ _ _ w (by omega))) ?_
  refine L_val (.tuple #[.slice none 0 0, .int .i64 1]) (by rfl) (by rfl) (gives_value _ fun _ => by rfl) ?_
  refine L_val (.slice none 0 0) (by rfl) (by rfl) (gives_value _ fun _ => by kernel_rfl) ?_
  refine L_val (.int .i64 1) (by rfl) (by rfl) (gives_value _ fun _ => by kernel_rfl) ?_
  refine L_val (.slice none 0 0) (by rfl) (by rfl) (gives_value _ fun _ => by rfl) ?_
  refine L_val (.int .i64 1) (by rfl) (by rfl) (gives_value _ fun _ => by rfl) ?_
  refine L_end ?_
  intro w8 hw8
  refine seq_plain hw8 [0, 1, 2, 3, 4, 5, 6, 7, 8] (by rfl) ?_
  refine L_val (.slice (some ⟨g1, 0, none⟩) n0 cap_1) (by rfl) (by rfl) (gives_value _ fun _ => by rfl) ?_
  refine L_val (.slice (some ⟨g2, 0, none⟩) n1 cap_2) (by rfl) (by rfl) (gives_value _ fun _ => by rfl) ?_
  refine L_val (.int .i64 N) (by rfl) (by rfl) (gives_value _ fun _ => by rfl) ?_
  refine L_val (.tuple #[.slice none 0 0, .int .i64 1]) (by rfl) (by rfl) (gives_call (vl := [.slice (some ⟨g1, 0, none⟩) n0 cap_1, .slice (some ⟨g2, 0, none⟩) n1 cap_2, .int .i64 N]) (by kernel_rfl) (by rfl) (fun w h => x_out_big _ _ _ _ _ _ _ w (by omega))) ?_
  refine L_val (.tuple #[.slice none 0 0, .int .i64 1]) (by rfl) (by rfl) (gives_value _ fun _ => by rfl) ?_
  refine L_val (.slice none 0 0) (by rfl) (by rfl) (gives_value _ fun _ => by kernel_rfl) ?_
  refine L_val (.int .i64 1) (by rfl) (by rfl) (gives_value _ fun _ => by kernel_rfl) ?_
  refine L_val (.slice none 0 0) (by rfl) (by rfl) (gives_value _ fun _ => by rfl) ?_
  refine L_val (.int .i64 1) (by rfl) (by rfl) (gives_value _ fun _ => by rfl) ?_
  refine L_end ?_
  intro w9 hw9
  refine wp_seq ?_
  refine seq_plain hw9 [0, 1, 2, 3, 4, 5, 6, 7, 8, 9, 10, 11, 12, 13, 14, 15, 16, 17, 18, 19, 20] (by rfl) ?_
  refine L_val (.int .i64 1) (by rfl) (by rfl) (gives_value _ fun _ => by rfl) ?_
  refine L_val (.int .i64 1) (by rfl) (by rfl) (gives_value _ fun _ => by rfl) ?_
  refine L_val (.bool false) (by rfl) (by rfl) (gives_ine (k := .i64) (1) (1) false (by rfl) (by rfl) (decide_eq_false (by omega))) ?_
  refine L_val (.bool false) (by rfl) (by rfl) (gives_value _ fun _ => by rfl) ?_
  refine L_val_g (dj := 62) (.slice none 0 0) (by rfl) (by rfl) (by rfl) (by rfl) (by rfl) (gives_value _ fun _ => by rfl) ?_
  refine L_val_g (dj := 62) (.slice none 0 0) (by rfl) (by rfl) (by rfl) (by rfl) (by rfl) (gives_value _ fun _ => by rfl) ?_
  refine L_val_g (dj := 62) (.bool true) (by rfl) (by rfl) (by rfl) (by rfl) (by rfl) (gives_call (vl := [.slice none 0 0, .slice none 0 0]) (by kernel_rfl) (by rfl) (fun w h => n_same w _ _ _ _ _ _ ([]) ([]) Reads.nil_ Reads.nil_ (by omega) (by omega) rfl)) ?_
  refine L_val_g (dj := 62) (.bool false) (by rfl) (by rfl) (by rfl) (by rfl) (by rfl) (gives_value _ fun _ => by rfl) ?_
  refine L_val (.bool false) (by rfl) (by rfl) (gives_value _ fun _ => by rfl) ?_
  refine L_val (.bool false) (by rfl) (by rfl) (gives_value _ fun _ => by rfl) ?_
  refine L_val_g (dj := 68) (.slice (some ⟨g1, 0, none⟩) n0 cap_1) (by rfl) (by rfl) (by rfl) (by rfl) (by rfl) (gives_value _ fun _ => by rfl) ?_
  refine L_val_g (dj := 68) (.slice A0 n0 c0) (by rfl) (by rfl) (by rfl) (by rfl) (by rfl) (gives_value _ fun _ => by rfl) ?_
  refine L_val_g (dj := 68) (.bool true) (by rfl) (by rfl) (by rfl) (by rfl) (by rfl) (gives_call (vl := [.slice (some ⟨g1, 0, none⟩) n0 cap_1, .slice A0 n0 c0]) (by kernel_rfl) (by rfl) (fun w h => n_same w _ _ _ _ _ _ (bs0) (bs0) (hn_1.reads (h.blk 1 (by rfl))) ((hr0.below h.below).more h.below.size) (by omega) (by omega) rfl)) ?_
  refine L_val_g (dj := 68) (.bool false) (by rfl) (by rfl) (by rfl) (by rfl) (by rfl) (gives_value _ fun _ => by rfl) ?_
  refine L_val (.bool false) (by rfl) (by rfl) (gives_value _ fun _ => by rfl) ?_
  refine L_val (.bool false) (by rfl) (by rfl) (gives_value _ fun _ => by rfl) ?_
  refine L_val_g (dj := 74) (.slice (some ⟨g2, 0, none⟩) n1 cap_2) (by rfl) (by rfl) (by rfl) (by rfl) (by rfl) (gives_value _ fun _ => by rfl) ?_
  refine L_val_g (dj := 74) (.slice A1 n1 c1) (by rfl) (by rfl) (by rfl) (by rfl) (by rfl) (gives_value _ fun _ => by rfl) ?_
  refine L_val_g (dj := 74) (.bool true) (by rfl) (by rfl) (by rfl) (by rfl) (by rfl) (gives_call (vl := [.slice (some ⟨g2, 0, none⟩) n1 cap_2, .slice A1 n1 c1]) (by kernel_rfl) (by rfl) (fun w h => n_same w _ _ _ _ _ _ (bs1) (bs1) (hn_2.reads (h.blk 0 (by rfl))) ((hr1.below h.below).more h.below.size) (by omega) (by omega) rfl)) ?_
  refine L_val_g (dj := 74) (.bool false) (by rfl) (by rfl) (by rfl) (by rfl) (by rfl) (gives_value _ fun _ => by rfl) ?_
  refine L_val (.bool false) (by rfl) (by rfl) (gives_value _ fun _ => by rfl) ?_
  refine L_end ?_
  intro w10 hw10
  refine wp_cond_false (fr_at _ _ (by rfl) _) ?_
  refine wp_skip ?_
  change Code.wp _ _ _ _ _
  refine wp_seq ?_
  refine seq_plain hw10 [0, 1, 2] (by rfl) ?_
  refine L_val (.slice none 0 0) (by rfl) (by rfl) (gives_value _ fun _ => by rfl) ?_
  refine L_val (.int .i64 0) (by rfl) (by rfl) (gives_value _ fun _ => by kernel_rfl) ?_
  refine L_val (.int .i64 0) (by rfl) (by rfl) (gives_value _ fun _ => by rfl) ?_
  refine L_end ?_
  intro w11 hw11
  refine wp_block ?_
  refine rounds_firstS 0 ?_
  refine seq_plain hw11 [0] (by rfl) ?_
  refine L_val (.bool false) (by rfl) (by rfl) (gives_lss (k := .i64) 0 0 false (by rfl) (by rfl) (by rfl)) ?_
  refine L_end ?_
  intro w12 hw12
  refine wp_seq ?_
  refine wp_cond_false (fr_at _ _ (by rfl) _) ?_
  refine wp_exit ?_
  change Code.wp _ _ _ _ _
  change Code.wp _ _ _ _ _
  refine seq_plain hw12 [0, 1, 2, 3] (by rfl) ?_
  refine L_val (.slice none 0 0) (by rfl) (by rfl) (gives_value _ fun _ => by rfl) ?_
  refine L_val (.slice none 0 0) (by rfl) (by rfl) (gives_value _ fun _ => by rfl) ?_
  refine L_val (.bool true) (by rfl) (by rfl) (gives_call (vl := [.slice none 0 0, .slice none 0 0]) (by kernel_rfl) (by rfl) (fun w h => n_same w _ _ _ _ _ _ ([]) ([]) Reads.nil_ Reads.nil_ (by omega) (by omega) rfl)) ?_
  refine L_val (.bool true) (by rfl) (by rfl) (gives_value _ fun _ => by rfl) ?_
  refine L_end ?_
  intro w13 hw13
  refine wp_ret ?_
  change bodyPost _ _ _ Exit.ret _ _
  refine (ret_tmp (by rfl) (by rfl) (by rfl) ⟨rfl, hw13.below⟩)
theorem expands_any (A0 : Option Addr) (n0 c0 : Nat) (bs0 : List Int) (A1 : Option Addr) (n1 c1 : Nat) (bs1 : List Int) (N : Int) (v : World) (hr0 : Reads v v.heap.size A0 n0 (bs0.map (Value.int .u8))) (hnc0 : n0 ≤ c0) (hr1 : Reads v v.heap.size A1 n1 (bs1.map (Value.int .u8))) (hnc1 : n1 ≤ c1) (hl0 : n0 ≤ 140737488351232) (hl1 : n1 ≤ 140737488351232) (hgl : Glob v) (h2 : 2 ≤ v.heap.size) : Rets 7 #[.slice A0 n0 c0, .slice A1 n1 c1, .int .i64 N] v (.bool true) := by
  by_cases hs0 : 4096 < n0
  · exact expands_long0 A0 n0 c0 bs0 A1 n1 c1 bs1 N v hr0 hnc0 hr1 hnc1 hl0 hl1 hgl h2 hs0
  by_cases hs1 : 4096 < n1
  · exact expands_long1 A0 n0 c0 bs0 A1 n1 c1 bs1 N v hr0 hnc0 hr1 hnc1 hl0 hl1 hgl h2 ⟨by omega, hs1⟩
  by_cases h0 : N < 0
  · exact expands_neg A0 n0 c0 bs0 A1 n1 c1 bs1 N v hr0 hnc0 hr1 hnc1 hl0 hl1 hgl h2 ⟨by omega, by omega⟩ h0
  by_cases h8 : 8160 < N
  · exact expands_big A0 n0 c0 bs0 A1 n1 c1 bs1 N v hr0 hnc0 hr1 hnc1 hl0 hl1 hgl h2 ⟨by omega, by omega⟩ h8
  obtain ⟨M, rfl⟩ := Int.eq_ofNat_of_zero_le (by omega : 0 ≤ N)
  by_cases h3 : M ≤ 300
  · exact expands_in A0 n0 c0 bs0 A1 n1 c1 bs1 M v hr0 hnc0 hr1 hnc1 hl0 hl1 hgl h2 ⟨by omega, by omega⟩ h3
  · exact expands_wrap A0 n0 c0 bs0 A1 n1 c1 bs1 M v hr0 hnc0 hr1 hnc1 hl0 hl1 hgl h2 ⟨by omega, by omega⟩ ⟨by omega, by omega⟩
end Go.Proofs.YtgkfkfodeooogaaDoor
