/-
  Layer 11: ending: the walk.
-/
import Derived.Test.YtialfoccalobpaaDoorWCXmBc
namespace Go.Proofs.YtialfoccalobpaaDoor
set_option linter.unusedSimpArgs false
set_option linter.unusedVariables false
open Go.RowKit
attribute [local irreducible] wpL wpF fr Code.wp bodyPost
set_option maxRecDepth 100000 in
set_option maxHeartbeats 4000000 in
theorem x_ending_long (A0 : Option Addr) (n0 c0 : Nat) (bs0 : List Int) (v : World) (hr0 : Reads v v.heap.size A0 n0 (bs0.map (Value.int .u8))) (hnc0 : n0 ≤ c0) (hgl : Glob v) (h2 : 3 ≤ v.heap.size) (hn0 : n0 ≤ 1000000) (hc : 255 < n0) : RetsP 106 #[.slice A0 n0 c0] v 5 .u8 ((tagT bs0).length + 1) (tagE bs0) := by
  have hl0 : bs0.length = n0 := by simpa using hr0.1
  refine calls_fr1 Tryd.func106 rfl (by rfl : _ = 20) (by rfl) ?_
  have hw := Hbl.nil v
  refine seq_plain hw [0] (by rfl) ?_
  refine L_val (.slice none 0 0) (by rfl) (by rfl) (gives_value _ fun _ => by rfl) ?_
  refine L_end ?_
  intro w1 hw1
  refine wp_seq ?_
  refine seq_plain hw1 [0, 1, 2] (by rfl) ?_
  refine L_val (.slice A0 n0 c0) (by rfl) (by rfl) (gives_value _ fun _ => by rfl) ?_
  refine L_val (.int .i64 (n0 : Int)) (by rfl) (by rfl) (gives_len _ n0 c0 und_u8s (by rfl)) ?_
  refine L_val (.bool true) (by rfl) (by rfl) (gives_gtr (k := .i64) ((n0 : Int)) (255) true (by rfl) (by rfl) (decide_eq_true (by omega))) ?_
  refine L_end ?_
  intro w2 hw2
  refine wp_cond_true (fr_at _ _ (by rfl) _) ?_
  refine seq_plain hw2 [0, 1, 2, 3, 4, 5, 6] (by rfl) ?_
  refine L_buildV 17 (.int .u8 0) [.int .u8 72, .int .u8 50, .int .u8 67, .int .u8 45, .int .u8 79, .int .u8 86, .int .u8 69, .int .u8 82, .int .u8 83, .int .u8 73, .int .u8 90, .int .u8 69, .int .u8 45, .int .u8 68, .int .u8 83, .int .u8 84, .int .u8 45] (by rfl) (by rfl) Want.none und_u8s u8_zs (by rfl) (by rfl) (by rfl) (by intro u hu; simp only [List.mem_cons, List.not_mem_nil, or_false] at hu; rcases hu with rfl | rfl | rfl | rfl | rfl | rfl | rfl | rfl | rfl | rfl | rfl | rfl | rfl | rfl | rfl | rfl | rfl <;> rfl) (by rfl) (by rfl) ?_; intro g1
  have hn_1 : Nms .u8 ([.int .u8 72, .int .u8 50, .int .u8 67, .int .u8 45, .int .u8 79, .int .u8 86, .int .u8 69, .int .u8 82, .int .u8 83, .int .u8 73, .int .u8 90, .int .u8 69, .int .u8 45, .int .u8 68, .int .u8 83, .int .u8 84, .int .u8 45] : List Value).toArray 17 17 [72, 50, 67, 45, 79, 86, 69, 82, 83, 73, 90, 69, 45, 68, 83, 84, 45] := Nms.all (by rfl) (by rfl) (by omega)
  refine L_lit 0 g1 17 17 ([72, 50, 67, 45, 79, 86, 69, 82, 83, 73, 90, 69, 45, 68, 83, 84, 45]) ([.int .u8 72, .int .u8 50, .int .u8 67, .int .u8 45, .int .u8 79, .int .u8 86, .int .u8 69, .int .u8 82, .int .u8 83, .int .u8 73, .int .u8 90, .int .u8 69, .int .u8 45, .int .u8 68, .int .u8 83, .int .u8 84, .int .u8 45] : List Value).toArray (by rfl) (by rfl) (by rfl) (by rfl) hn_1 und_u8s und_u8' ?_; intro v hbv hsv hrL; have hncL : 17 ≤ 17 := Nat.le_refl _
  have hr0 := (hr0.below hbv).more hsv
  have hgl := hgl.below hbv h2
  have h2 := Nat.le_trans h2 hsv
  refine L_val (.slice A0 n0 c0) (by rfl) (by rfl) (gives_value _ fun _ => by rfl) ?_
  refine L_buildV 2 (.slice none 0 0) [.slice (some ⟨g1, 0, none⟩) 17 17, .slice A0 n0 c0] (by rfl) (by rfl) Want.none und_pss slice_zs (by rfl) (by rfl) (by rfl) (by intro u hu; simp only [List.mem_cons, List.not_mem_nil, or_false] at hu; rcases hu with rfl | rfl <;> rfl) (by rfl) (by rfl) ?_; intro g2
  refine L_val (.agg (agg8 (digest (([72, 50, 67, 45, 79, 86, 69, 82, 83, 73, 90, 69, 45, 68, 83, 84, 45]) ++ bs0)))) (by rfl) (by rfl) (gives_call (vl := [.slice (some ⟨g2, 0, none⟩) 2 2]) (by kernel_rfl) (by rfl) (fun w h => c_of w _ _ _ ([[72, 50, 67, 45, 79, 86, 69, 82, 83, 73, 90, 69, 45, 68, 83, 84, 45], bs0]) (([72, 50, 67, 45, 79, 86, 69, 82, 83, 73, 90, 69, 45, 68, 83, 84, 45]) ++ bs0) (by simp) (pieces_lit (ps := [[72, 50, 67, 45, 79, 86, 69, 82, 83, 73, 90, 69, 45, 68, 83, 84, 45], bs0]) (h.blk 0 (by rfl)) (pvc (piece_of ((hrL.below h.below).more h.below.size) hncL) (pvc (piece_of ((hr0.below h.below).more h.below.size) hnc0) pvn)) rfl) (hgl.below h.below h2) (Nat.le_trans h2 h.below.size) (by omega) (by rw [List.length_append, hl0]; simp; omega))) ?_
  refine L_alloc _ (by rfl) (by rfl) z_d32 (agg8 (List.replicate 32 (0 : Int))) rfl ?_; intro g3
  refine L_store (t := 50) 0 g3 (agg8 (List.replicate 32 (0 : Int))) (agg8 (digest (([72, 50, 67, 45, 79, 86, 69, 82, 83, 73, 90, 69, 45, 68, 83, 84, 45]) ++ bs0))) (by rfl) (by rfl) (by rfl) (by rfl) (by rfl) (hi_d32 _ (digest_len _)) (by rw [agg8_size, agg8_size, show (digest (([72, 50, 67, 45, 79, 86, 69, 82, 83, 73, 90, 69, 45, 68, 83, 84, 45]) ++ bs0)).length = 32 from (digest_len _), show (List.replicate 32 (0 : Int)).length = 32 from (by simp)]) (agg8_one _) ?_
  simp only [List.set_cons_zero, List.set_cons_succ]
  refine L_end ?_
  intro w3 hw3
  refine one_plain hw3 [0, 1] (by rfl) ?_
  refine L_val (.slice (some ⟨g3, 0, none⟩) 32 32) (by rfl) (by rfl) (gives_slice_arr g3 32 1 (by rfl) und_d32 u8_sz) ?_
  refine L_val (.slice (some ⟨g3, 0, none⟩) 32 32) (by rfl) (by rfl) (gives_value _ fun _ => by rfl) ?_
  refine L_end ?_
  intro w4 hw4
  change Code.wp _ _ _ _ _
  refine seq_plain hw4 [0, 1, 2, 3, 4, 5, 6, 7] (by rfl) ?_
  refine L_val (.slice (some ⟨g3, 0, none⟩) 32 32) (by rfl) (by rfl) (gives_value _ fun _ => by rfl) ?_
  refine L_val (.slice (some ⟨g3, 0, none⟩) 32 32) (by rfl) (by rfl) (gives_value _ fun _ => by rfl) ?_
  refine L_val (.int .i64 (32 : Int)) (by rfl) (by rfl) (gives_len _ 32 32 und_u8s (by rfl)) ?_
  refine L_val (.int .u8 ((32 : Int) % 256)) (by rfl) (by rfl) (gives_conv (k2 := .u8) ((32 : Int)) ((32 : Int) % 256) (by rfl) und_int und_u8' (u8wrap _)) ?_
  refine L_buildV 1 (.int .u8 0) [.int .u8 ((32 : Int) % 256)] (by rfl) (by rfl) Want.none und_u8s u8_zs (by rfl) (by rfl) (by rfl) (by intro u hu; simp only [List.mem_cons, List.not_mem_nil, or_false] at hu; rcases hu with rfl <;> rfl) (by rfl) (by rfl) ?_; intro g4
  have hn_2 : Nms .u8 ([.int .u8 ((32 : Int) % 256)] : List Value).toArray 1 1 [(32 : Int) % 256] := Nms.all (by rfl) (by rfl) (by omega)
  refine L_buildV 2 (.slice none 0 0) [.slice (some ⟨g3, 0, none⟩) 32 32, .slice (some ⟨g4, 0, none⟩) 1 1] (by rfl) (by rfl) Want.none und_pss slice_zs (by rfl) (by rfl) (by rfl) (by intro u hu; simp only [List.mem_cons, List.not_mem_nil, or_false] at hu; rcases hu with rfl | rfl <;> rfl) (by rfl) (by rfl) ?_; intro g5
  refine L_freshP (vl := [.slice (some ⟨g5, 0, none⟩) 2 2]) 5 .u8 (32 + 1) ((digest (([72, 50, 67, 45, 79, 86, 69, 82, 83, 73, 90, 69, 45, 68, 83, 84, 45]) ++ bs0)) ++ ([(32 : Int) % 256])) (by rfl) (by rfl) Want.none (by kernel_rfl) (by rfl) (fun w h => x_concat _ _ _ ([digest (([72, 50, 67, 45, 79, 86, 69, 82, 83, 73, 90, 69, 45, 68, 83, 84, 45]) ++ bs0), [(32 : Int) % 256]]) ((digest (([72, 50, 67, 45, 79, 86, 69, 82, 83, 73, 90, 69, 45, 68, 83, 84, 45]) ++ bs0)) ++ ([(32 : Int) % 256])) (32 + 1) w (by simp) (by rw [List.length_append, digest_len]; rfl) (pieces_lit (ps := [digest (([72, 50, 67, 45, 79, 86, 69, 82, 83, 73, 90, 69, 45, 68, 83, 84, 45]) ++ bs0), [(32 : Int) % 256]]) (h.blk 0 (by rfl)) (pvc (piece_of (lit_reads (h.blk 2 (by rfl)) rfl (digest_len _)) (Nat.le_refl _)) (pvc (piece_of (hn_2.reads (h.blk 1 (by rfl))) (Nat.le_refl _)) pvn)) rfl) (by omega) (by omega)) ?_; intro g6 cap_3 cs_3 hn_3
  refine L_val (.slice (some ⟨g6, 0, none⟩) (32 + 1) cap_3) (by rfl) (by rfl) (gives_value _ fun _ => by rfl) ?_
  refine L_end ?_
  intro w5 hw5
  refine wp_ret ?_
  change bodyPost _ _ _ Exit.ret _ _
  refine (ret_tmp (by rfl) (by rfl) (by rfl) ⟨_, _, _, congrArg Ending.returned (congrArg (fun q => Value.slice _ (q + 1) _) (by rw [tagT_long (by omega), digest_len])), hn_3.list (by rw [tagE, tagT_long (by omega)]; rw [digest_len]; rfl) (by rw [tagT_long (by omega)]; rw [digest_len]), Nat.le_trans hsv (hw5.ge 0 (by rfl)), hw5.blk 0 (by rfl), hbv.trans (hw5.below.mono hsv)⟩)
set_option maxRecDepth 100000 in
set_option maxHeartbeats 4000000 in
theorem x_ending_short (A0 : Option Addr) (n0 c0 : Nat) (bs0 : List Int) (v : World) (hr0 : Reads v v.heap.size A0 n0 (bs0.map (Value.int .u8))) (hnc0 : n0 ≤ c0) (hgl : Glob v) (h2 : 3 ≤ v.heap.size) (hn0 : n0 ≤ 1000000) (hc : n0 ≤ 255) : RetsP 106 #[.slice A0 n0 c0] v 5 .u8 ((tagT bs0).length + 1) (tagE bs0) := by
  have hl0 : bs0.length = n0 := by simpa using hr0.1
  refine calls_fr1 Tryd.func106 rfl (by rfl : _ = 20) (by rfl) ?_
  have hw := Hbl.nil v
  refine seq_plain hw [0] (by rfl) ?_
  refine L_val (.slice none 0 0) (by rfl) (by rfl) (gives_value _ fun _ => by rfl) ?_
  refine L_end ?_
  intro w1 hw1
  refine wp_seq ?_
  refine seq_plain hw1 [0, 1, 2] (by rfl) ?_
  refine L_val (.slice A0 n0 c0) (by rfl) (by rfl) (gives_value _ fun _ => by rfl) ?_
  refine L_val (.int .i64 (n0 : Int)) (by rfl) (by rfl) (gives_len _ n0 c0 und_u8s (by rfl)) ?_
  refine L_val (.bool false) (by rfl) (by rfl) (gives_gtr (k := .i64) ((n0 : Int)) (255) false (by rfl) (by rfl) (decide_eq_false (by omega))) ?_
  refine L_end ?_
  intro w2 hw2
  refine wp_cond_false (fr_at _ _ (by rfl) _) ?_
  refine wp_skip ?_
  change Code.wp _ _ _ _ _
  refine seq_plain hw2 [0, 1, 2, 3, 4, 5, 6, 7] (by rfl) ?_
  refine L_val (.slice A0 n0 c0) (by rfl) (by rfl) (gives_value _ fun _ => by rfl) ?_
  refine L_val (.slice A0 n0 c0) (by rfl) (by rfl) (gives_value _ fun _ => by rfl) ?_
  refine L_val (.int .i64 (n0 : Int)) (by rfl) (by rfl) (gives_len _ n0 c0 und_u8s (by rfl)) ?_
  refine L_val (.int .u8 ((n0 : Int) % 256)) (by rfl) (by rfl) (gives_conv (k2 := .u8) ((n0 : Int)) ((n0 : Int) % 256) (by rfl) und_int und_u8' (u8wrap _)) ?_
  refine L_buildV 1 (.int .u8 0) [.int .u8 ((n0 : Int) % 256)] (by rfl) (by rfl) Want.none und_u8s u8_zs (by rfl) (by rfl) (by rfl) (by intro u hu; simp only [List.mem_cons, List.not_mem_nil, or_false] at hu; rcases hu with rfl <;> rfl) (by rfl) (by rfl) ?_; intro g1
  have hn_1 : Nms .u8 ([.int .u8 ((n0 : Int) % 256)] : List Value).toArray 1 1 [(n0 : Int) % 256] := Nms.all (by rfl) (by rfl) (by omega)
  refine L_buildV 2 (.slice none 0 0) [.slice A0 n0 c0, .slice (some ⟨g1, 0, none⟩) 1 1] (by rfl) (by rfl) Want.none und_pss slice_zs (by rfl) (by rfl) (by rfl) (by intro u hu; simp only [List.mem_cons, List.not_mem_nil, or_false] at hu; rcases hu with rfl | rfl <;> rfl) (by rfl) (by rfl) ?_; intro g2
  refine L_freshP (vl := [.slice (some ⟨g2, 0, none⟩) 2 2]) 5 .u8 (n0 + 1) (bs0 ++ ([(n0 : Int) % 256])) (by rfl) (by rfl) Want.none (by kernel_rfl) (by rfl) (fun w h => x_concat _ _ _ ([bs0, [(n0 : Int) % 256]]) (bs0 ++ ([(n0 : Int) % 256])) (n0 + 1) w (by simp) (by rw [List.length_append, hl0]; rfl) (pieces_lit (ps := [bs0, [(n0 : Int) % 256]]) (h.blk 0 (by rfl)) (pvc (piece_of ((hr0.below h.below).more h.below.size) hnc0) (pvc (piece_of (hn_1.reads (h.blk 1 (by rfl))) (Nat.le_refl _)) pvn)) rfl) (by omega) (by omega)) ?_; intro g3 cap_2 cs_2 hn_2
  refine L_val (.slice (some ⟨g3, 0, none⟩) (n0 + 1) cap_2) (by rfl) (by rfl) (gives_value _ fun _ => by rfl) ?_
  refine L_end ?_
  intro w3 hw3
  refine wp_ret ?_
  change bodyPost _ _ _ Exit.ret _ _
  refine (ret_tmp (by rfl) (by rfl) (by rfl) ⟨_, _, _, congrArg Ending.returned (congrArg (fun q => Value.slice _ (q + 1) _) (by rw [tagT_short (by omega), hl0])), hn_2.list (by rw [tagE, tagT_short (by omega)]; rw [hl0]) (by rw [tagT_short (by omega)]; rw [hl0]), hw3.ge 0 (by rfl), hw3.blk 0 (by rfl), hw3.below⟩)
theorem x_ending (A0 : Option Addr) (n0 c0 : Nat) (bs0 : List Int) (v : World) (hr0 : Reads v v.heap.size A0 n0 (bs0.map (Value.int .u8))) (hnc0 : n0 ≤ c0) (hgl : Glob v) (h2 : 3 ≤ v.heap.size) (hn0 : n0 ≤ 1000000) : RetsP 106 #[.slice A0 n0 c0] v 5 .u8 ((tagT bs0).length + 1) (tagE bs0) := by
  by_cases hc : 255 < n0
  · exact x_ending_long A0 n0 c0 bs0 v hr0 hnc0 hgl h2 hn0 hc
  · exact x_ending_short A0 n0 c0 bs0 v hr0 hnc0 hgl h2 hn0 (by omega)
end Go.Proofs.YtialfoccalobpaaDoor
