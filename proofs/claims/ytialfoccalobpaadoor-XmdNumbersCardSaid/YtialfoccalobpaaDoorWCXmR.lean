/-
  Layer 11: the reference.
-/
import Derived.Test.YtialfoccalobpaaDoorWCXmM
namespace Go.Proofs.YtialfoccalobpaaDoor
set_option linter.unusedSimpArgs false
set_option linter.unusedVariables false
open Go.RowKit
attribute [local irreducible] wpL wpF fr Code.wp bodyPost
set_option maxRecDepth 100000 in
set_option maxHeartbeats 4000000 in
theorem x_ref_long (A0 : Option Addr) (n0 c0 : Nat) (bs0 : List Int) (A1 : Option Addr) (n1 c1 : Nat) (bs1 : List Int) (N : Nat) (v : World) (hr0 : Reads v v.heap.size A0 n0 (bs0.map (Value.int .u8))) (hr1 : Reads v v.heap.size A1 n1 (bs1.map (Value.int .u8))) (hgl : Glob v) (h2 : 3 ≤ v.heap.size) (hn0 : n0 ≤ 1000000) (hn1 : n1 ≤ 1000000) (hN : N ≤ 8160) (hc : 255 < n1) : RetsT2 11 #[.slice A0 n0 c0, .slice A1 n1 c1, .int .i64 (N : Int)] v N (expandL bs0 bs1 N) := by
  have hl0 : bs0.length = n0 := by simpa using hr0.1
  have hl1 : bs1.length = n1 := by simpa using hr1.1
  refine calls_fr3 Tryd.func11 rfl (by rfl : _ = 93) (by rfl) ?_
  have hw := Hbl.nil v
  refine seq_plain hw [0, 1] (by rfl) ?_
  refine L_val (.slice none 0 0) (by rfl) (by rfl) (gives_value _ fun _ => by rfl) ?_
  refine L_val (.int .i64 0) (by rfl) (by rfl) (gives_value _ fun _ => by rfl) ?_
  refine L_end ?_
  intro w1 hw1
  refine wp_seq ?_
  refine seq_plain hw1 [0, 1, 2, 3, 4, 5] (by rfl) ?_
  refine L_val (.int .i64 (N : Int)) (by rfl) (by rfl) (gives_value _ fun _ => by rfl) ?_
  refine L_val (.bool false) (by rfl) (by rfl) (gives_lss (k := .i64) ((N : Int)) (0) false (by rfl) (by rfl) (decide_eq_false (by omega))) ?_
  refine L_val (.bool false) (by rfl) (by rfl) (gives_value _ fun _ => by rfl) ?_
  refine L_val_g (dj := 18) (.int .i64 (N : Int)) (by rfl) (by rfl) (by rfl) (by rfl) (by rfl) (gives_value _ fun _ => by rfl) ?_
  refine L_val_g (dj := 18) (.bool false) (by rfl) (by rfl) (by rfl) (by rfl) (by rfl) (gives_gtr (k := .i64) ((N : Int)) (8160) false (by rfl) (by rfl) (decide_eq_false (by omega))) ?_
  refine L_val (.bool false) (by rfl) (by rfl) (gives_value _ fun _ => by rfl) ?_
  refine L_end ?_
  intro w2 hw2
  refine wp_cond_false (fr_at _ _ (by rfl) _) ?_
  refine wp_skip ?_
  change Code.wp _ _ _ _ _
  refine wp_seq ?_
  refine seq_plain hw2 [0, 1, 2] (by rfl) ?_
  refine L_val (.slice A1 n1 c1) (by rfl) (by rfl) (gives_value _ fun _ => by rfl) ?_
  refine L_val (.int .i64 (n1 : Int)) (by rfl) (by rfl) (gives_len _ n1 c1 und_u8s (by rfl)) ?_
  refine L_val (.bool true) (by rfl) (by rfl) (gives_gtr (k := .i64) ((n1 : Int)) (255) true (by rfl) (by rfl) (decide_eq_true (by omega))) ?_
  refine L_end ?_
  intro w3 hw3
  refine wp_cond_true (fr_at _ _ (by rfl) _) ?_
  refine one_plain hw3 [0, 1, 2, 3, 4, 5] (by rfl) ?_
  refine L_buildV 17 (.int .u8 0) [.int .u8 72, .int .u8 50, .int .u8 67, .int .u8 45, .int .u8 79, .int .u8 86, .int .u8 69, .int .u8 82, .int .u8 83, .int .u8 73, .int .u8 90, .int .u8 69, .int .u8 45, .int .u8 68, .int .u8 83, .int .u8 84, .int .u8 45] (by rfl) (by rfl) Want.none und_u8s u8_zs (by rfl) (by rfl) (by rfl) (by intro u hu; simp only [List.mem_cons, List.not_mem_nil, or_false] at hu; rcases hu with rfl | rfl | rfl | rfl | rfl | rfl | rfl | rfl | rfl | rfl | rfl | rfl | rfl | rfl | rfl | rfl | rfl <;> rfl) (by rfl) (by rfl) ?_; intro g1
  have hn_1 : Nms .u8 ([.int .u8 72, .int .u8 50, .int .u8 67, .int .u8 45, .int .u8 79, .int .u8 86, .int .u8 69, .int .u8 82, .int .u8 83, .int .u8 73, .int .u8 90, .int .u8 69, .int .u8 45, .int .u8 68, .int .u8 83, .int .u8 84, .int .u8 45] : List Value).toArray 17 17 [72, 50, 67, 45, 79, 86, 69, 82, 83, 73, 90, 69, 45, 68, 83, 84, 45] := Nms.all (by rfl) (by rfl) (by omega)
  refine L_lit 0 g1 17 17 ([72, 50, 67, 45, 79, 86, 69, 82, 83, 73, 90, 69, 45, 68, 83, 84, 45]) ([.int .u8 72, .int .u8 50, .int .u8 67, .int .u8 45, .int .u8 79, .int .u8 86, .int .u8 69, .int .u8 82, .int .u8 83, .int .u8 73, .int .u8 90, .int .u8 69, .int .u8 45, .int .u8 68, .int .u8 83, .int .u8 84, .int .u8 45] : List Value).toArray (by rfl) (by rfl) (by rfl) (by rfl) hn_1 und_u8s und_u8' ?_; intro v hbv hsv hrL; have hncL : 17 ≤ 17 := Nat.le_refl _
  have hr0 := (hr0.below hbv).more hsv
  have hr1 := (hr1.below hbv).more hsv
  have hgl := hgl.below hbv h2
  have h2 := Nat.le_trans h2 hsv
  refine L_val (.slice A1 n1 c1) (by rfl) (by rfl) (gives_value _ fun _ => by rfl) ?_
  refine L_pushGrow 17 17 n1 c1 (some ⟨g1, 0, none⟩) A1 _ ([72, 50, 67, 45, 79, 86, 69, 82, 83, 73, 90, 69, 45, 68, 83, 84, 45]) bs1 (by rfl) (by rfl) und_u8s (by rfl) (by rfl) (by rfl) (by rfl) (by rfl) (by rfl) (by omega) (by omega) (by omega) (by omega) (fun w h => ((hrL.below h.below).more h.below.size)) (fun w h => ((hr1.below h.below).more h.below.size)) ?_; intro g2 cap_2 cs_2 hn_2
  refine L_freshP (vl := [.slice (some ⟨g2, 0, none⟩) (17 + n1) cap_2]) 5 .u8 32 (digest (([72, 50, 67, 45, 79, 86, 69, 82, 83, 73, 90, 69, 45, 68, 83, 84, 45]) ++ bs1)) (by rfl) (by rfl) Want.none (by kernel_rfl) (by rfl) (fun w h => refsum_own _ _ _ (([72, 50, 67, 45, 79, 86, 69, 82, 83, 73, 90, 69, 45, 68, 83, 84, 45]) ++ bs1) w (hn_2.reads (h.blk 0 (by rfl))) (by omega)) ?_; intro g3 cap_3 cs_3 hn_3
  refine L_val (.slice (some ⟨g3, 0, none⟩) 32 cap_3) (by rfl) (by rfl) (gives_value _ fun _ => by rfl) ?_
  refine L_end ?_
  intro w4 hw4
  change Code.wp _ _ _ _ _
  refine seq_plain hw4 [0, 1, 2, 3, 4, 5, 6, 7] (by rfl) ?_
  refine L_val (.slice (some ⟨g3, 0, none⟩) 32 cap_3) (by rfl) (by rfl) (gives_value _ fun _ => by rfl) ?_
  refine L_freshP (vl := [.slice (some ⟨g3, 0, none⟩) 32 cap_3]) 5 .u8 32 (digest (([72, 50, 67, 45, 79, 86, 69, 82, 83, 73, 90, 69, 45, 68, 83, 84, 45]) ++ bs1)) (by rfl) (by rfl) Want.none (by kernel_rfl) (by rfl) (fun w h => c_copy w _ _ _ (digest (([72, 50, 67, 45, 79, 86, 69, 82, 83, 73, 90, 69, 45, 68, 83, 84, 45]) ++ bs1)) (hn_3.reads (h.blk 0 (by rfl))) (by omega)) ?_; intro g4 cap_4 cs_4 hn_4
  refine L_val (.slice (some ⟨g3, 0, none⟩) 32 cap_3) (by rfl) (by rfl) (gives_value _ fun _ => by rfl) ?_
  refine L_val (.int .i64 (32 : Int)) (by rfl) (by rfl) (gives_len _ 32 cap_3 und_u8s (by rfl)) ?_
  refine L_val (.int .u8 ((32 : Int) % 256)) (by rfl) (by rfl) (gives_conv (k2 := .u8) ((32 : Int)) ((32 : Int) % 256) (by rfl) und_int und_u8' (u8wrap _)) ?_
  refine L_buildV 1 (.int .u8 0) [.int .u8 ((32 : Int) % 256)] (by rfl) (by rfl) Want.none und_u8s u8_zs (by rfl) (by rfl) (by rfl) (by intro u hu; simp only [List.mem_cons, List.not_mem_nil, or_false] at hu; rcases hu with rfl <;> rfl) (by rfl) (by rfl) ?_; intro g5
  have hn_5 : Nms .u8 ([.int .u8 ((32 : Int) % 256)] : List Value).toArray 1 1 [(32 : Int) % 256] := Nms.all (by rfl) (by rfl) (by omega)
  refine L_push 1 g4 32 cap_4 1 1 1 (some ⟨g5, 0, none⟩) .u8 (.int .u8 0) (digest (([72, 50, 67, 45, 79, 86, 69, 82, 83, 73, 90, 69, 45, 68, 83, 84, 45]) ++ bs1)) ([(32 : Int) % 256]) cs_4 (by rfl) (by rfl) Want.none und_u8s byte_info rfl (by rfl) (by rfl) (by rfl) hn_4 (fun w h => (hn_5.reads (h.blk 0 (by rfl)))) (by omega) (by rfl) [(g5, 5, ([.int .u8 ((32 : Int) % 256)] : List Value).toArray), (g3, 5, cs_3), (g2, 5, cs_2)] (by rfl) ?_; intro g6 cap_6 cs_6 hn_6
  refine L_val (.slice (some ⟨g6, 0, none⟩) (32 + 1) cap_6) (by rfl) (by rfl) (gives_value _ fun _ => by rfl) ?_
  refine L_end ?_
  intro w5 hw5
  refine seq_plain hw5 [0, 1, 2, 3] (by rfl) ?_
  refine L_makeC 64 64 _ (by rfl) (by rfl) und_u8s (by rfl) (by rfl) (by rfl) (by rfl) (by exact congrArg (Value.int .i64) (by omega : (64) = ((64 : Nat) : Int))) (by exact congrArg (Value.int .i64) (by omega : (64) = ((64 : Nat) : Int))) (by omega) (by omega) ?_; intro g7 cs_7 hn_7
  refine L_val (.slice A0 n0 c0) (by rfl) (by rfl) (gives_value _ fun _ => by rfl) ?_
  refine L_push 0 g7 64 64 n0 c0 1 A0 .u8 (.int .u8 0) (List.replicate 64 0) bs0 cs_7 (by rfl) (by rfl) Want.none und_u8s byte_info rfl (by rfl) (by rfl) (by rfl) hn_7 (fun w h => ((hr0.below h.below).more h.below.size)) (by omega) (by rfl) [(g6, 5, cs_6), (g5, 5, ([.int .u8 ((32 : Int) % 256)] : List Value).toArray), (g3, 5, cs_3), (g2, 5, cs_2)] (by rfl) ?_; intro g8 cap_8 cs_8 hn_8
  refine L_val (.slice (some ⟨g8, 0, none⟩) (64 + n0) cap_8) (by rfl) (by rfl) (gives_value _ fun _ => by rfl) ?_
  refine L_end ?_
  intro w6 hw6
  refine seq_plain hw6 [0, 1, 2, 3, 4, 5, 6, 7, 8, 9] (by rfl) ?_
  refine L_val (.slice (some ⟨g8, 0, none⟩) (64 + n0) cap_8) (by rfl) (by rfl) (gives_value _ fun _ => by rfl) ?_
  refine L_val (.int .i64 (N : Int)) (by rfl) (by rfl) (gives_value _ fun _ => by rfl) ?_
  refine L_val (.int .i64 ((N : Int) / 256)) (by rfl) (by rfl) (gives_quo (k := .i64) ((N : Int)) (256) ((N : Int) / 256) (by rfl) (by rfl) (by omega) (IntWalk.i64_quo _ _ (by omega))) ?_
  refine L_val (.int .u8 (((N : Int) / 256) % 256)) (by rfl) (by rfl) (gives_conv (k2 := .u8) ((N : Int) / 256) (((N : Int) / 256) % 256) (by rfl) und_int und_u8' (u8wrap _)) ?_
  refine L_val (.int .i64 (N : Int)) (by rfl) (by rfl) (gives_value _ fun _ => by rfl) ?_
  refine L_val (.int .i64 ((N : Int) % 256)) (by rfl) (by rfl) (gives_rem (k := .i64) ((N : Int)) (256) ((N : Int) % 256) (by rfl) (by rfl) (by omega) (IntWalk.rem_in _ _ (by omega))) ?_
  refine L_val (.int .u8 (((N : Int) % 256) % 256)) (by rfl) (by rfl) (gives_conv (k2 := .u8) ((N : Int) % 256) (((N : Int) % 256) % 256) (by rfl) und_int und_u8' (u8wrap _)) ?_
  refine L_buildV 3 (.int .u8 0) [.int .u8 (((N : Int) / 256) % 256), .int .u8 (((N : Int) % 256) % 256), .int .u8 0] (by rfl) (by rfl) Want.none und_u8s u8_zs (by rfl) (by rfl) (by rfl) (by intro u hu; simp only [List.mem_cons, List.not_mem_nil, or_false] at hu; rcases hu with rfl | rfl | rfl <;> rfl) (by rfl) (by rfl) ?_; intro g9
  have hn_9 : Nms .u8 ([.int .u8 (((N : Int) / 256) % 256), .int .u8 (((N : Int) % 256) % 256), .int .u8 0] : List Value).toArray 3 3 [((N : Int) / 256) % 256, ((N : Int) % 256) % 256, 0] := Nms.all (by rfl) (by rfl) (by omega)
  refine L_push 1 g8 (64 + n0) cap_8 3 3 1 (some ⟨g9, 0, none⟩) .u8 (.int .u8 0) ((List.replicate 64 0) ++ bs0) ([((N : Int) / 256) % 256, ((N : Int) % 256) % 256, 0]) cs_8 (by rfl) (by rfl) Want.none und_u8s byte_info rfl (by rfl) (by rfl) (by rfl) hn_8 (fun w h => (hn_9.reads (h.blk 0 (by rfl)))) (by omega) (by rfl) [(g9, 5, ([.int .u8 (((N : Int) / 256) % 256), .int .u8 (((N : Int) % 256) % 256), .int .u8 0] : List Value).toArray), (g6, 5, cs_6), (g5, 5, ([.int .u8 ((32 : Int) % 256)] : List Value).toArray), (g3, 5, cs_3), (g2, 5, cs_2)] (by rfl) ?_; intro g10 cap_10 cs_10 hn_10
  refine L_val (.slice (some ⟨g10, 0, none⟩) ((64 + n0) + 3) cap_10) (by rfl) (by rfl) (gives_value _ fun _ => by rfl) ?_
  refine L_end ?_
  intro w7 hw7
  refine seq_plain hw7 [0, 1, 2, 3, 4] (by rfl) ?_
  refine L_val (.slice (some ⟨g10, 0, none⟩) ((64 + n0) + 3) cap_10) (by rfl) (by rfl) (gives_value _ fun _ => by rfl) ?_
  refine L_val (.slice (some ⟨g6, 0, none⟩) (32 + 1) cap_6) (by rfl) (by rfl) (gives_value _ fun _ => by rfl) ?_
  refine L_push 0 g10 ((64 + n0) + 3) cap_10 (32 + 1) cap_6 1 (some ⟨g6, 0, none⟩) .u8 (.int .u8 0) (((List.replicate 64 0) ++ bs0) ++ ([((N : Int) / 256) % 256, ((N : Int) % 256) % 256, 0])) ((digest (([72, 50, 67, 45, 79, 86, 69, 82, 83, 73, 90, 69, 45, 68, 83, 84, 45]) ++ bs1)) ++ ([(32 : Int) % 256])) cs_10 (by rfl) (by rfl) Want.none und_u8s byte_info rfl (by rfl) (by rfl) (by rfl) hn_10 (fun w h => (hn_6.reads (h.blk 2 (by rfl)))) (by omega) (by rfl) [(g9, 5, ([.int .u8 (((N : Int) / 256) % 256), .int .u8 (((N : Int) % 256) % 256), .int .u8 0] : List Value).toArray), (g6, 5, cs_6), (g5, 5, ([.int .u8 ((32 : Int) % 256)] : List Value).toArray), (g3, 5, cs_3), (g2, 5, cs_2)] (by rfl) ?_; intro g11 cap_11 cs_11 hn_11
  refine L_freshP (vl := [.slice (some ⟨g11, 0, none⟩) (((64 + n0) + 3) + (32 + 1)) cap_11]) 5 .u8 32 (digest ((((List.replicate 64 0) ++ bs0) ++ ([((N : Int) / 256) % 256, ((N : Int) % 256) % 256, 0])) ++ ((digest (([72, 50, 67, 45, 79, 86, 69, 82, 83, 73, 90, 69, 45, 68, 83, 84, 45]) ++ bs1)) ++ ([(32 : Int) % 256])))) (by rfl) (by rfl) Want.none (by kernel_rfl) (by rfl) (fun w h => refsum_own _ _ _ ((((List.replicate 64 0) ++ bs0) ++ ([((N : Int) / 256) % 256, ((N : Int) % 256) % 256, 0])) ++ ((digest (([72, 50, 67, 45, 79, 86, 69, 82, 83, 73, 90, 69, 45, 68, 83, 84, 45]) ++ bs1)) ++ ([(32 : Int) % 256]))) w (hn_11.reads (h.blk 0 (by rfl))) (by omega)) ?_; intro g12 cap_12 cs_12 hn_12
  refine L_val (.slice (some ⟨g12, 0, none⟩) 32 cap_12) (by rfl) (by rfl) (gives_value _ fun _ => by rfl) ?_
  refine L_end ?_
  intro w8 hw8
  refine seq_plain hw8 [0, 1] (by rfl) ?_
  refine L_build0 1 (by rfl) (by rfl) und_u8s u8_sz ?_; intro g13; have hn_13 := Nms.nil .u8
  refine L_val (.slice (some ⟨g13, 0, none⟩) 0 0) (by rfl) (by rfl) (gives_value _ fun _ => by rfl) ?_
  refine L_end ?_
  intro w9 hw9
  refine seq_plain hw9 [0, 1] (by rfl) ?_
  refine L_makeC 32 32 _ (by rfl) (by rfl) und_u8s (by rfl) (by rfl) (by rfl) (by rfl) (by exact congrArg (Value.int .i64) (by omega : (32) = ((32 : Nat) : Int))) (by exact congrArg (Value.int .i64) (by omega : (32) = ((32 : Nat) : Int))) (by omega) (by omega) ?_; intro g14 cs_14 hn_14
  refine L_val (.slice (some ⟨g14, 0, none⟩) 32 32) (by rfl) (by rfl) (gives_value _ fun _ => by rfl) ?_
  refine L_end ?_
  intro w10 hw10
  refine wp_seq ?_
  refine seq_plain hw10 [0] (by rfl) ?_
  refine L_val (.int .i64 1) (by rfl) (by rfl) (gives_value _ fun _ => by rfl) ?_
  refine L_end ?_
  intro w11 hw11
  refine wp_block ?_
  have hTE := hn_6.list (show _ = tagE bs1 by rw [tagE, tagT_long (by omega)]; rw [digest_len]; rfl) rfl
  have hHB := hn_12.list (show _ = headB bs0 bs1 N by rw [headB, tagE, tagT_long (by omega), digest_len]; simp only [List.append_assoc, Int.emod_emod]; rfl) rfl
  refine loop_down (fun (r_ : Nat) a w => ∃ (e : Nat) (go : Nat) (co : Nat) (so : Array Value) (gl : Nat) (cl : Nat) (sl : Array Value) (l_1 : List (Nat × Value)), N - 32 * e = r_ ∧ inFr 93 l_1 = true ∧ a = fr 93 ((2, .int .i64 (N : Int)) :: (8, .slice (some ⟨g6, 0, none⟩) (32 + 1) cap_6) :: (10, .slice (some ⟨g12, 0, none⟩) 32 cap_12) :: (11, .slice (some ⟨go, 0, none⟩) (32 * e) co) :: (12, .slice (some ⟨gl, 0, none⟩) 32 cl) :: (13, .int .i64 ((e + 1 : Nat) : Int)) :: l_1) ∧ (32 * e < N + 32) ∧ (Nms .u8 so co (32 * e) (outB (headB bs0 bs1 N) (tagE bs1) e)) ∧ (Nms .u8 sl cl 32 (lastB (headB bs0 bs1 N) (tagE bs1) e)) ∧ Hbl v [(gl, 5, sl), (go, 5, so), (g12, 5, cs_12), (g6, 5, cs_6)] w) ?_ _ _ _ ⟨0, g13, 0, #[], g14, 32, cs_14, [(13, .int .i64 1), (12, .slice (some ⟨g14, 0, none⟩) 32 32), (54, .slice (some ⟨g14, 0, none⟩) 32 32), (11, .slice (some ⟨g13, 0, none⟩) 0 0), (53, .slice (some ⟨g13, 0, none⟩) 0 0), (10, .slice (some ⟨g12, 0, none⟩) 32 cap_12), (52, .slice (some ⟨g12, 0, none⟩) 32 cap_12), (51, .slice (some ⟨g11, 0, none⟩) (((64 + n0) + 3) + (32 + 1)) cap_11), (50, .slice (some ⟨g6, 0, none⟩) (32 + 1) cap_6), (49, .slice (some ⟨g10, 0, none⟩) ((64 + n0) + 3) cap_10), (9, .slice (some ⟨g10, 0, none⟩) ((64 + n0) + 3) cap_10), (48, .slice (some ⟨g10, 0, none⟩) ((64 + n0) + 3) cap_10), (47, .slice (some ⟨g9, 0, none⟩) 3 3), (46, .int .u8 (((N : Int) % 256) % 256)), (45, .int .i64 ((N : Int) % 256)), (44, .int .i64 (N : Int)), (43, .int .u8 (((N : Int) / 256) % 256)), (42, .int .i64 ((N : Int) / 256)), (41, .int .i64 (N : Int)), (40, .slice (some ⟨g8, 0, none⟩) (64 + n0) cap_8), (9, .slice (some ⟨g8, 0, none⟩) (64 + n0) cap_8), (39, .slice (some ⟨g8, 0, none⟩) (64 + n0) cap_8), (38, .slice A0 n0 c0), (37, .slice (some ⟨g7, 0, none⟩) 64 64), (8, .slice (some ⟨g6, 0, none⟩) (32 + 1) cap_6), (36, .slice (some ⟨g6, 0, none⟩) (32 + 1) cap_6), (35, .slice (some ⟨g5, 0, none⟩) 1 1), (34, .int .u8 ((32 : Int) % 256)), (33, .int .i64 (32 : Int)), (32, .slice (some ⟨g3, 0, none⟩) 32 cap_3), (31, .slice (some ⟨g4, 0, none⟩) 32 cap_4), (30, .slice (some ⟨g3, 0, none⟩) 32 cap_3), (1, .slice (some ⟨g3, 0, none⟩) 32 cap_3), (29, .slice (some ⟨g3, 0, none⟩) 32 cap_3), (28, .slice (some ⟨g2, 0, none⟩) (17 + n1) cap_2), (27, .slice A1 n1 c1), (26, .slice (some ⟨g1, 0, none⟩) 17 17), (25, .slice (some ⟨g1, 0, none⟩) 17 17), (24, .bool true), (23, .int .i64 (n1 : Int)), (22, .slice A1 n1 c1), (21, .bool false), (20, .bool false), (19, .int .i64 (N : Int)), (18, .bool false), (17, .bool false), (16, .int .i64 (N : Int)), (7, .int .i64 0), (6, .slice none 0 0), (2, .int .i64 (N : Int)), (1, .slice A1 n1 c1), (0, .slice A0 n0 c0)], rfl, (by rfl), (Eq.trans (Eq.trans (Eq.trans (Eq.trans (Eq.trans (fr_dup _ _ 13 _ (by rfl) (by rfl) (by rfl)).symm (fr_dup _ _ 12 _ (by rfl) (by rfl) (by rfl)).symm) (fr_dup _ _ 11 _ (by rfl) (by rfl) (by rfl)).symm) (fr_dup _ _ 10 _ (by rfl) (by rfl) (by rfl)).symm) (fr_dup _ _ 8 _ (by rfl) (by rfl) (by rfl)).symm) (fr_dup _ _ 2 _ (by rfl) (by rfl) (by rfl)).symm), by omega, Nms.nil .u8, hn_14.list (by rfl) rfl, (hw11.sub (List.Sublist.cons_cons _ (List.Sublist.cons_cons _ (List.Sublist.cons_cons _ (List.Sublist.cons _ (List.Sublist.cons _ (List.Sublist.cons_cons _ (List.Sublist.cons _ (List.Sublist.cons _ (List.Sublist.cons _ (List.Sublist.refl _)))))))))))⟩
  rintro r_1 a0 w0_1 ⟨e, go, co, so, gl, cl, sl, l_1, hr_1, hl_1, rfl, he, ho, hl, hw0_1⟩
  by_cases hlt : 32 * e < N
  ·
    refine wp_seq ?_
    refine seq_plain hw0_1 [0, 1, 2, 3] (by rfl) ?_
    refine L_val (.slice (some ⟨go, 0, none⟩) (32 * e) co) (by rfl) (by exact hl_1) (gives_value _ fun _ => by rfl) ?_
    refine L_val (.int .i64 (((32 * e) : Nat) : Int)) (by rfl) (by exact hl_1) (gives_len _ (32 * e) co und_u8s (by rfl)) ?_
    refine L_val (.int .i64 (N : Int)) (by rfl) (by exact hl_1) (gives_value _ fun _ => by rfl) ?_
    refine L_val (.bool true) (by rfl) (by exact hl_1) (gives_lss (k := .i64) ((((32 * e) : Nat) : Int)) ((N : Int)) true (by rfl) (by rfl) (decide_eq_true (by omega))) ?_
    refine L_end ?_
    intro w12 hw12
    refine wp_cond_true (fr_at _ _ (by exact hl_1) _) ?_
    refine wp_skip ?_
    change Code.wp _ _ _ _ _
    refine wp_seq ?_
    refine wp_block ?_
    refine seq_plain hw12 [0, 1] (by rfl) ?_
    refine L_build0 1 (by rfl) (by exact hl_1) und_u8s u8_sz ?_; intro g15; have hn_15 := Nms.nil .u8
    refine L_val (.slice (some ⟨g15, 0, none⟩) 0 0) (by rfl) (by exact hl_1) (gives_value _ fun _ => by rfl) ?_
    refine L_end ?_
    intro w13 hw13
    refine wp_seq ?_
    refine seq_plain hw13 [0] (by rfl) ?_
    refine L_val (.int .i64 0) (by rfl) (by exact hl_1) (gives_value _ fun _ => by rfl) ?_
    refine L_end ?_
    intro w14 hw14
    refine wp_block ?_
    refine loop_down (fun (r_ : Nat) a w => ∃ (k : Nat) (gx : Nat) (cx : Nat) (sx : Array Value) (l_2 : List (Nat × Value)), 32 - k = r_ ∧ inFr 93 l_2 = true ∧ a = fr 93 ((2, .int .i64 (N : Int)) :: (8, .slice (some ⟨g6, 0, none⟩) (32 + 1) cap_6) :: (10, .slice (some ⟨g12, 0, none⟩) 32 cap_12) :: (11, .slice (some ⟨go, 0, none⟩) (32 * e) co) :: (12, .slice (some ⟨gl, 0, none⟩) 32 cl) :: (13, .int .i64 ((e + 1 : Nat) : Int)) :: (14, .slice (some ⟨gx, 0, none⟩) k cx) :: (15, .int .i64 (k : Int)) :: l_2) ∧ (k ≤ 32) ∧ (Nms .u8 sx cx k (xl (headB bs0 bs1 N) (lastB (headB bs0 bs1 N) (tagE bs1) e) k)) ∧ Hbl v [(gx, 5, sx), (gl, 5, sl), (go, 5, so), (g12, 5, cs_12), (g6, 5, cs_6)] w) ?_ _ _ _ ⟨0, g15, 0, #[], ((15, .int .i64 0) :: (14, .slice (some ⟨g15, 0, none⟩) 0 0) :: (61, .slice (some ⟨g15, 0, none⟩) 0 0) :: (58, .bool true) :: (57, .int .i64 (N : Int)) :: (56, .int .i64 (((32 * e) : Nat) : Int)) :: (55, .slice (some ⟨go, 0, none⟩) (32 * e) co) :: (2, .int .i64 (N : Int)) :: (8, .slice (some ⟨g6, 0, none⟩) (32 + 1) cap_6) :: (10, .slice (some ⟨g12, 0, none⟩) 32 cap_12) :: (11, .slice (some ⟨go, 0, none⟩) (32 * e) co) :: (12, .slice (some ⟨gl, 0, none⟩) 32 cl) :: (13, .int .i64 ((e + 1 : Nat) : Int)) :: l_1), rfl, (by exact hl_1), (Eq.trans (Eq.trans (Eq.trans (Eq.trans (Eq.trans (Eq.trans (Eq.trans (fr_dup _ _ 15 _ (by exact hl_1) (by rfl) (by rfl)).symm (fr_dup _ _ 14 _ (by exact hl_1) (by rfl) (by rfl)).symm) (fr_dup _ _ 13 _ (by exact hl_1) (by rfl) (by rfl)).symm) (fr_dup _ _ 12 _ (by exact hl_1) (by rfl) (by rfl)).symm) (fr_dup _ _ 11 _ (by exact hl_1) (by rfl) (by rfl)).symm) (fr_dup _ _ 10 _ (by exact hl_1) (by rfl) (by rfl)).symm) (fr_dup _ _ 8 _ (by exact hl_1) (by rfl) (by rfl)).symm) (fr_dup _ _ 2 _ (by exact hl_1) (by rfl) (by rfl)).symm), Nat.zero_le _, Nms.nil .u8, hw14⟩
    rintro r_2 a0 w0_2 ⟨k, gx, cx, sx, l_2, hr_2, hl_2, rfl, hk, hx, hw0_2⟩
    by_cases hlt2 : k < 32
    ·
      refine wp_seq ?_
      refine seq_plain hw0_2 [0, 1] (by rfl) ?_
      refine L_val (.int .i64 (k : Int)) (by rfl) (by exact hl_2) (gives_value _ fun _ => by rfl) ?_
      refine L_val (.bool true) (by rfl) (by exact hl_2) (gives_lss (k := .i64) ((k : Int)) (32) true (by rfl) (by rfl) (decide_eq_true (by omega))) ?_
      refine L_end ?_
      intro w15 hw15
      refine wp_cond_true (fr_at _ _ (by exact hl_2) _) ?_
      refine wp_skip ?_
      change Code.wp _ _ _ _ _
      refine wp_seq ?_
      refine wp_block ?_
      refine one_flow (by kernel_rfl) hw15 [] [(gl, 5, sl), (go, 5, so), (g12, 5, cs_12), (g6, 5, cs_6)] 13 (by rfl) ?_
      refine flow_take (i := 0) (.slice (some ⟨gx, 0, none⟩) k cx) (by rfl) (by kernel_rfl) (by kernel_rfl) (by kernel_rfl) (by exact hl_2) (by kernel_rfl) (List.Sublist.cons _ (List.Sublist.refl _)) (gives_value _ fun _ => by rfl) ?_
      refine flow_take (i := 1) (.slice (some ⟨g12, 0, none⟩) 32 cap_12) (by rfl) (by kernel_rfl) (by kernel_rfl) (by kernel_rfl) (by exact hl_2) (by kernel_rfl) (List.Sublist.cons _ (List.Sublist.refl _)) (gives_value _ fun _ => by rfl) ?_
      refine flow_take (i := 2) (.int .i64 (k : Int)) (by rfl) (by kernel_rfl) (by kernel_rfl) (by kernel_rfl) (by exact hl_2) (by kernel_rfl) (List.Sublist.cons _ (List.Sublist.refl _)) (gives_value _ fun _ => by rfl) ?_
      refine flow_take (i := 3) (.pointer (some ⟨g12, 0 + (k), none⟩)) (by rfl) (by kernel_rfl) (by kernel_rfl) (by kernel_rfl) (by exact hl_2) (by kernel_rfl) (List.Sublist.cons _ (List.Sublist.refl _)) (gives_index g12 0 (32) (cap_12) ((k : Int)) (k) (by rfl) (by rfl) und_u8s u8_sz rfl (by omega)) ?_
      refine flow_take (i := 4) (.int .u8 (gt (headB bs0 bs1 N) k)) (by rfl) (by kernel_rfl) (by kernel_rfl) (by kernel_rfl) (by exact hl_2) (by kernel_rfl) (List.Sublist.cons _ (List.Sublist.refl _)) (gives_load1 g12 (0 + (k)) _ cs_12 (.int .u8 (gt (headB bs0 bs1 N) k)) (by rfl) (fun _ h => h.blk 2 (by rfl)) (hHB.get (by omega)) und_u8') ?_
      refine flow_take (i := 5) (.slice (some ⟨gl, 0, none⟩) 32 cl) (by rfl) (by kernel_rfl) (by kernel_rfl) (by kernel_rfl) (by exact hl_2) (by kernel_rfl) (List.Sublist.cons _ (List.Sublist.refl _)) (gives_value _ fun _ => by rfl) ?_
      refine flow_take (i := 6) (.int .i64 (k : Int)) (by rfl) (by kernel_rfl) (by kernel_rfl) (by kernel_rfl) (by exact hl_2) (by kernel_rfl) (List.Sublist.cons _ (List.Sublist.refl _)) (gives_value _ fun _ => by rfl) ?_
      refine flow_take (i := 7) (.pointer (some ⟨gl, 0 + (k), none⟩)) (by rfl) (by kernel_rfl) (by kernel_rfl) (by kernel_rfl) (by exact hl_2) (by kernel_rfl) (List.Sublist.cons _ (List.Sublist.refl _)) (gives_index gl 0 (32) (cl) ((k : Int)) (k) (by rfl) (by rfl) und_u8s u8_sz rfl (by omega)) ?_
      refine flow_take (i := 8) (.int .u8 (gt (lastB (headB bs0 bs1 N) (tagE bs1) e) k)) (by rfl) (by kernel_rfl) (by kernel_rfl) (by kernel_rfl) (by exact hl_2) (by kernel_rfl) (List.Sublist.cons _ (List.Sublist.refl _)) (gives_load1 gl (0 + (k)) _ sl (.int .u8 (gt (lastB (headB bs0 bs1 N) (tagE bs1) e) k)) (by rfl) (fun _ h => h.blk 0 (by rfl)) (hl.get (by omega)) und_u8') ?_
      refine flow_take (i := 9) (.int .u8 (bits .xor .u8 (gt (headB bs0 bs1 N) k) (gt (lastB (headB bs0 bs1 N) (tagE bs1) e) k))) (by rfl) (by kernel_rfl) (by kernel_rfl) (by kernel_rfl) (by exact hl_2) (by kernel_rfl) (List.Sublist.cons _ (List.Sublist.refl _)) (gives_xorB (k := .u8) (gt (headB bs0 bs1 N) k) (gt (lastB (headB bs0 bs1 N) (tagE bs1) e) k) (by rfl) (by rfl)) ?_
      refine flow_one 10 (by kernel_rfl) ?_
      refine F_buildV 1 (.int .u8 0) [.int .u8 (bits .xor .u8 (gt (headB bs0 bs1 N) k) (gt (lastB (headB bs0 bs1 N) (tagE bs1) e) k))] (by rfl) (by exact hl_2) Want.none und_u8s u8_zs (by rfl) (by rfl) (by rfl) (by intro u hu; simp only [List.mem_cons, List.not_mem_nil, or_false] at hu; rcases hu with rfl <;> rfl) (by rfl) (by rfl) (List.Sublist.cons _ (List.Sublist.refl _)) ?_; intro g16
      have hn_16 : Nms .u8 ([.int .u8 (bits .xor .u8 (gt (headB bs0 bs1 N) k) (gt (lastB (headB bs0 bs1 N) (tagE bs1) e) k))] : List Value).toArray 1 1 [bits .xor .u8 (gt (headB bs0 bs1 N) k) (gt (lastB (headB bs0 bs1 N) (tagE bs1) e) k)] := Nms.all (by rfl) (by rfl) (by omega)
      refine flow_one 11 (by kernel_rfl) ?_
      refine F_push 1 gx k cx 1 1 1 (some ⟨g16, 0, none⟩) .u8 (.int .u8 0) (xl (headB bs0 bs1 N) (lastB (headB bs0 bs1 N) (tagE bs1) e) k) ([bits .xor .u8 (gt (headB bs0 bs1 N) k) (gt (lastB (headB bs0 bs1 N) (tagE bs1) e) k)]) sx (by rfl) (by exact hl_2) Want.none und_u8s byte_info rfl (by rfl) (by rfl) (by rfl) hx (fun w h => (hn_16.reads (h.blk 0 (by rfl)))) (by omega) (by rfl) [(g16, 5, ([.int .u8 (bits .xor .u8 (gt (headB bs0 bs1 N) k) (gt (lastB (headB bs0 bs1 N) (tagE bs1) e) k))] : List Value).toArray), (gl, 5, sl), (go, 5, so), (g12, 5, cs_12), (g6, 5, cs_6)] (by rfl) (.inr (List.Sublist.cons _ (List.Sublist.refl _))) ?_; intro g17 cap_17 cs_17 hn_17
      refine flow_take (i := 12) (.slice (some ⟨g17, 0, none⟩) (k + 1) cap_17) (by rfl) (by kernel_rfl) (by kernel_rfl) (by kernel_rfl) (by exact hl_2) (by kernel_rfl) (List.Sublist.cons _ (List.Sublist.cons _ (List.Sublist.refl _))) (gives_value _ fun _ => by rfl) ?_
      refine flow_done (by kernel_rfl) ?_
      intro w16 hw16
      change Code.wp _ _ _ _ _
      refine one_plain hw16 [0, 1, 2] (by rfl) ?_
      refine L_val (.int .i64 (k : Int)) (by rfl) (by exact hl_2) (gives_value _ fun _ => by rfl) ?_
      refine L_val (.int .i64 ((k : Int) + 1)) (by rfl) (by exact hl_2) (gives_add (k := .i64) ((k : Int)) (1) ((k : Int) + 1) (by rfl) (by rfl) (IntWalk.i64_in _ (by omega))) ?_
      refine L_val (.int .i64 ((k : Int) + 1)) (by rfl) (by exact hl_2) (gives_value _ fun _ => by rfl) ?_
      refine L_end ?_
      intro w17 hw17
      change ∃ r' : Nat, r' < r_2 ∧ _
      refine ⟨_, ?_, k + 1, g17, cap_17, cs_17, ((15, .int .i64 ((k : Int) + 1)) :: (65, .int .i64 ((k : Int) + 1)) :: (64, .int .i64 (k : Int)) :: (14, .slice (some ⟨g17, 0, none⟩) (k + 1) cap_17) :: (77, .slice (some ⟨g17, 0, none⟩) (k + 1) cap_17) :: (76, .slice (some ⟨g16, 0, none⟩) 1 1) :: (75, .int .u8 (bits .xor .u8 (gt (headB bs0 bs1 N) k) (gt (lastB (headB bs0 bs1 N) (tagE bs1) e) k))) :: (74, .int .u8 (gt (lastB (headB bs0 bs1 N) (tagE bs1) e) k)) :: (73, .pointer (some ⟨gl, 0 + (k), none⟩)) :: (72, .int .i64 (k : Int)) :: (71, .slice (some ⟨gl, 0, none⟩) 32 cl) :: (70, .int .u8 (gt (headB bs0 bs1 N) k)) :: (69, .pointer (some ⟨g12, 0 + (k), none⟩)) :: (68, .int .i64 (k : Int)) :: (67, .slice (some ⟨g12, 0, none⟩) 32 cap_12) :: (66, .slice (some ⟨gx, 0, none⟩) k cx) :: (63, .bool true) :: (62, .int .i64 (k : Int)) :: (2, .int .i64 (N : Int)) :: (8, .slice (some ⟨g6, 0, none⟩) (32 + 1) cap_6) :: (10, .slice (some ⟨g12, 0, none⟩) 32 cap_12) :: (11, .slice (some ⟨go, 0, none⟩) (32 * e) co) :: (12, .slice (some ⟨gl, 0, none⟩) 32 cl) :: (13, .int .i64 ((e + 1 : Nat) : Int)) :: (14, .slice (some ⟨gx, 0, none⟩) k cx) :: (15, .int .i64 (k : Int)) :: l_2), rfl, (by exact hl_2), (Eq.trans (Eq.trans (Eq.trans (Eq.trans (Eq.trans (Eq.trans (Eq.trans (fr_dup _ _ 15 _ (by exact hl_2) (by rfl) (by rfl)).symm (fr_dup _ _ 14 _ (by exact hl_2) (by rfl) (by rfl)).symm) (fr_dup _ _ 13 _ (by exact hl_2) (by rfl) (by rfl)).symm) (fr_dup _ _ 12 _ (by exact hl_2) (by rfl) (by rfl)).symm) (fr_dup _ _ 11 _ (by exact hl_2) (by rfl) (by rfl)).symm) (fr_dup _ _ 10 _ (by exact hl_2) (by rfl) (by rfl)).symm) (fr_dup _ _ 8 _ (by exact hl_2) (by rfl) (by rfl)).symm) (fr_dup _ _ 2 _ (by exact hl_2) (by rfl) (by rfl)).symm), by omega, hn_17.list (by rfl) rfl, (hw17.sub (List.Sublist.cons_cons _ (List.Sublist.cons _ (List.Sublist.cons_cons _ (List.Sublist.cons_cons _ (List.Sublist.cons_cons _ (List.Sublist.cons_cons _ (List.Sublist.refl _))))))))⟩
      omega
    ·
      refine wp_seq ?_
      refine seq_plain hw0_2 [0, 1] (by rfl) ?_
      refine L_val (.int .i64 (k : Int)) (by rfl) (by exact hl_2) (gives_value _ fun _ => by rfl) ?_
      refine L_val (.bool false) (by rfl) (by exact hl_2) (gives_lss (k := .i64) ((k : Int)) (32) false (by rfl) (by rfl) (decide_eq_false (by omega))) ?_
      refine L_end ?_
      intro w18 hw18
      refine wp_cond_false (fr_at _ _ (by exact hl_2) _) ?_
      refine wp_exit ?_
      have hk32 : k = 32 := by omega
      subst hk32
      change Code.wp _ _ _ _ _
      change Code.wp _ _ _ _ _
      refine seq_plain hw18 [0, 1, 2, 3, 4, 5] (by rfl) ?_
      refine L_val (.slice (some ⟨gx, 0, none⟩) 32 cx) (by rfl) (by exact hl_2) (gives_value _ fun _ => by rfl) ?_
      refine L_val (.int .i64 ((e + 1 : Nat) : Int)) (by rfl) (by exact hl_2) (gives_value _ fun _ => by rfl) ?_
      refine L_val (.int .u8 (((e + 1 : Nat) : Int) % 256)) (by rfl) (by exact hl_2) (gives_conv (k2 := .u8) (((e + 1 : Nat) : Int)) (((e + 1 : Nat) : Int) % 256) (by rfl) und_int und_u8' (u8wrap _)) ?_
      refine L_buildV 1 (.int .u8 0) [.int .u8 (((e + 1 : Nat) : Int) % 256)] (by rfl) (by exact hl_2) Want.none und_u8s u8_zs (by rfl) (by rfl) (by rfl) (by intro u hu; simp only [List.mem_cons, List.not_mem_nil, or_false] at hu; rcases hu with rfl <;> rfl) (by rfl) (by rfl) ?_; intro g18
      have hn_18 : Nms .u8 ([.int .u8 (((e + 1 : Nat) : Int) % 256)] : List Value).toArray 1 1 [((e + 1 : Nat) : Int) % 256] := Nms.all (by rfl) (by rfl) (by omega)
      refine L_push 1 gx 32 cx 1 1 1 (some ⟨g18, 0, none⟩) .u8 (.int .u8 0) (xl (headB bs0 bs1 N) (lastB (headB bs0 bs1 N) (tagE bs1) e) 32) ([((e + 1 : Nat) : Int) % 256]) sx (by rfl) (by exact hl_2) Want.none und_u8s byte_info rfl (by rfl) (by rfl) (by rfl) hx (fun w h => (hn_18.reads (h.blk 0 (by rfl)))) (by omega) (by rfl) [(g18, 5, ([.int .u8 (((e + 1 : Nat) : Int) % 256)] : List Value).toArray), (gl, 5, sl), (go, 5, so), (g12, 5, cs_12), (g6, 5, cs_6)] (by rfl) ?_; intro g19 cap_19 cs_19 hn_19
      refine L_val (.slice (some ⟨g19, 0, none⟩) (32 + 1) cap_19) (by rfl) (by exact hl_2) (gives_value _ fun _ => by rfl) ?_
      refine L_end ?_
      intro w19 hw19
      refine seq_plain hw19 [0, 1, 2, 3, 4] (by rfl) ?_
      refine L_val (.slice (some ⟨g19, 0, none⟩) (32 + 1) cap_19) (by rfl) (by exact hl_2) (gives_value _ fun _ => by rfl) ?_
      refine L_val (.slice (some ⟨g6, 0, none⟩) (32 + 1) cap_6) (by rfl) (by exact hl_2) (gives_value _ fun _ => by rfl) ?_
      refine L_push 0 g19 (32 + 1) cap_19 (32 + 1) cap_6 1 (some ⟨g6, 0, none⟩) .u8 (.int .u8 0) ((xl (headB bs0 bs1 N) (lastB (headB bs0 bs1 N) (tagE bs1) e) 32) ++ ([((e + 1 : Nat) : Int) % 256])) (tagE bs1) cs_19 (by rfl) (by exact hl_2) Want.none und_u8s byte_info rfl (by rfl) (by rfl) (by rfl) hn_19 (fun w h => (hTE.reads (h.blk 5 (by rfl)))) (by omega) (by rfl) [(g18, 5, ([.int .u8 (((e + 1 : Nat) : Int) % 256)] : List Value).toArray), (gl, 5, sl), (go, 5, so), (g12, 5, cs_12), (g6, 5, cs_6)] (by rfl) ?_; intro g20 cap_20 cs_20 hn_20
      refine L_freshP (vl := [.slice (some ⟨g20, 0, none⟩) ((32 + 1) + (32 + 1)) cap_20]) 5 .u8 32 (digest (((xl (headB bs0 bs1 N) (lastB (headB bs0 bs1 N) (tagE bs1) e) 32) ++ ([((e + 1 : Nat) : Int) % 256])) ++ (tagE bs1))) (by rfl) (by exact hl_2) Want.none (by kernel_rfl) (by rfl) (fun w h => refsum_own _ _ _ (((xl (headB bs0 bs1 N) (lastB (headB bs0 bs1 N) (tagE bs1) e) 32) ++ ([((e + 1 : Nat) : Int) % 256])) ++ (tagE bs1)) w (hn_20.reads (h.blk 0 (by rfl))) (by omega)) ?_; intro g21 cap_21 cs_21 hn_21
      refine L_val (.slice (some ⟨g21, 0, none⟩) 32 cap_21) (by rfl) (by exact hl_2) (gives_value _ fun _ => by rfl) ?_
      refine L_end ?_
      intro w20 hw20
      refine one_plain hw20 [0, 1, 2, 3] (by rfl) ?_
      refine L_val (.slice (some ⟨go, 0, none⟩) (32 * e) co) (by rfl) (by exact hl_2) (gives_value _ fun _ => by rfl) ?_
      refine L_val (.slice (some ⟨g21, 0, none⟩) 32 cap_21) (by rfl) (by exact hl_2) (gives_value _ fun _ => by rfl) ?_
      refine L_push 4 go (32 * e) co 32 cap_21 1 (some ⟨g21, 0, none⟩) .u8 (.int .u8 0) (outB (headB bs0 bs1 N) (tagE bs1) e) (digest (((xl (headB bs0 bs1 N) (lastB (headB bs0 bs1 N) (tagE bs1) e) 32) ++ ([((e + 1 : Nat) : Int) % 256])) ++ (tagE bs1))) so (by rfl) (by exact hl_2) Want.none und_u8s byte_info rfl (by rfl) (by rfl) (by rfl) ho (fun w h => (hn_21.reads (h.blk 0 (by rfl)))) (by omega) (by rfl) [(g21, 5, cs_21), (g20, 5, cs_20), (g18, 5, ([.int .u8 (((e + 1 : Nat) : Int) % 256)] : List Value).toArray), (gl, 5, sl), (g12, 5, cs_12), (g6, 5, cs_6)] (by rfl) ?_; intro g22 cap_22 cs_22 hn_22
      refine L_val (.slice (some ⟨g22, 0, none⟩) ((32 * e) + 32) cap_22) (by rfl) (by exact hl_2) (gives_value _ fun _ => by rfl) ?_
      refine L_end ?_
      intro w21 hw21
      change Code.wp _ _ _ _ _
      refine one_plain hw21 [0, 1, 2] (by rfl) ?_
      refine L_val (.int .i64 ((e + 1 : Nat) : Int)) (by rfl) (by exact hl_2) (gives_value _ fun _ => by rfl) ?_
      refine L_val (.int .i64 (((e + 1 : Nat) : Int) + 1)) (by rfl) (by exact hl_2) (gives_add (k := .i64) (((e + 1 : Nat) : Int)) (1) (((e + 1 : Nat) : Int) + 1) (by rfl) (by rfl) (IntWalk.i64_in _ (by omega))) ?_
      refine L_val (.int .i64 (((e + 1 : Nat) : Int) + 1)) (by rfl) (by exact hl_2) (gives_value _ fun _ => by rfl) ?_
      refine L_end ?_
      intro w22 hw22
      change ∃ r' : Nat, r' < r_1 ∧ _
      refine ⟨_, ?_, e + 1, g22, cap_22, cs_22, g21, cap_21, cs_21, ((13, .int .i64 (((e + 1 : Nat) : Int) + 1)) :: (60, .int .i64 (((e + 1 : Nat) : Int) + 1)) :: (59, .int .i64 ((e + 1 : Nat) : Int)) :: (11, .slice (some ⟨g22, 0, none⟩) ((32 * e) + 32) cap_22) :: (89, .slice (some ⟨g22, 0, none⟩) ((32 * e) + 32) cap_22) :: (88, .slice (some ⟨g21, 0, none⟩) 32 cap_21) :: (87, .slice (some ⟨go, 0, none⟩) (32 * e) co) :: (12, .slice (some ⟨g21, 0, none⟩) 32 cap_21) :: (86, .slice (some ⟨g21, 0, none⟩) 32 cap_21) :: (85, .slice (some ⟨g20, 0, none⟩) ((32 + 1) + (32 + 1)) cap_20) :: (84, .slice (some ⟨g6, 0, none⟩) (32 + 1) cap_6) :: (83, .slice (some ⟨g19, 0, none⟩) (32 + 1) cap_19) :: (14, .slice (some ⟨g19, 0, none⟩) (32 + 1) cap_19) :: (82, .slice (some ⟨g19, 0, none⟩) (32 + 1) cap_19) :: (81, .slice (some ⟨g18, 0, none⟩) 1 1) :: (80, .int .u8 (((e + 1 : Nat) : Int) % 256)) :: (79, .int .i64 ((e + 1 : Nat) : Int)) :: (78, .slice (some ⟨gx, 0, none⟩) 32 cx) :: (63, .bool false) :: (62, .int .i64 (32 : Int)) :: (2, .int .i64 (N : Int)) :: (8, .slice (some ⟨g6, 0, none⟩) (32 + 1) cap_6) :: (10, .slice (some ⟨g12, 0, none⟩) 32 cap_12) :: (11, .slice (some ⟨go, 0, none⟩) (32 * e) co) :: (12, .slice (some ⟨gl, 0, none⟩) 32 cl) :: (13, .int .i64 ((e + 1 : Nat) : Int)) :: (14, .slice (some ⟨gx, 0, none⟩) 32 cx) :: (15, .int .i64 (32 : Int)) :: l_2), rfl, (by exact hl_2), (Eq.trans (Eq.trans (Eq.trans (Eq.trans (Eq.trans (fr_dup _ _ 13 _ (by exact hl_2) (by rfl) (by exact (congrArg (Value.int .i64) (by omega)))).symm (fr_dup _ _ 12 _ (by exact hl_2) (by rfl) (by rfl)).symm) (fr_dup _ _ 11 _ (by exact hl_2) (by rfl) (by rfl)).symm) (fr_dup _ _ 10 _ (by exact hl_2) (by rfl) (by rfl)).symm) (fr_dup _ _ 8 _ (by exact hl_2) (by rfl) (by rfl)).symm) (fr_dup _ _ 2 _ (by exact hl_2) (by rfl) (by rfl)).symm), by omega, hn_22.list (by rw [outB, lastB, List.append_assoc]; rfl) rfl, hn_21.list (by rw [lastB, List.append_assoc]; rfl) rfl, ((hw22.sub (List.Sublist.cons_cons _ (List.Sublist.cons_cons _ (List.Sublist.cons _ (List.Sublist.cons _ (List.Sublist.cons _ (List.Sublist.cons_cons _ (List.Sublist.cons_cons _ (List.Sublist.refl _))))))))).perm (List.Perm.swap _ _ _))⟩
      omega
  ·
    refine wp_seq ?_
    refine seq_plain hw0_1 [0, 1, 2, 3] (by rfl) ?_
    refine L_val (.slice (some ⟨go, 0, none⟩) (32 * e) co) (by rfl) (by exact hl_1) (gives_value _ fun _ => by rfl) ?_
    refine L_val (.int .i64 (((32 * e) : Nat) : Int)) (by rfl) (by exact hl_1) (gives_len _ (32 * e) co und_u8s (by rfl)) ?_
    refine L_val (.int .i64 (N : Int)) (by rfl) (by exact hl_1) (gives_value _ fun _ => by rfl) ?_
    refine L_val (.bool false) (by rfl) (by exact hl_1) (gives_lss (k := .i64) ((((32 * e) : Nat) : Int)) ((N : Int)) false (by rfl) (by rfl) (decide_eq_false (by omega))) ?_
    refine L_end ?_
    intro w23 hw23
    refine wp_cond_false (fr_at _ _ (by exact hl_1) _) ?_
    refine wp_exit ?_
    have heN : e = (N + 31) / 32 := by omega
    change Code.wp _ _ _ _ _
    change Code.wp _ _ _ _ _
    refine seq_plain hw23 [0, 1, 2, 3, 4] (by rfl) ?_
    refine L_val (.slice (some ⟨go, 0, none⟩) (32 * e) co) (by rfl) (by exact hl_1) (gives_value _ fun _ => by rfl) ?_
    refine L_val (.int .i64 (N : Int)) (by rfl) (by exact hl_1) (gives_value _ fun _ => by rfl) ?_
    refine L_val (.slice (some ⟨go, 0, none⟩) N co) (by rfl) (by exact hl_1) (gives_slice_to go (32 * e) co N ((N : Int)) (by rfl) (by rfl) und_u8s u8_sz rfl (by have := ho.le; omega)) ?_
    refine L_val (.slice (some ⟨go, 0, none⟩) N co) (by rfl) (by exact hl_1) (gives_value _ fun _ => by rfl) ?_
    refine L_val (.int .i64 0) (by rfl) (by exact hl_1) (gives_value _ fun _ => by rfl) ?_
    refine L_end ?_
    intro w24 hw24
    refine wp_ret ?_
    change bodyPost _ _ _ Exit.ret _ _
    refine (ret_tmp_tmpX (by rfl) (by exact hl_1) (by rfl) (by rfl) ⟨go, co, so, rfl, (ho.cutTo (by omega)).list (by rw [expandL_bytes, heN]) rfl, Nat.le_trans hsv (hw24.ge 1 (by rfl)), hw24.blk 1 (by rfl), hbv.trans (hw24.below.mono hsv)⟩)
set_option maxRecDepth 100000 in
set_option maxHeartbeats 4000000 in
theorem x_ref_short (A0 : Option Addr) (n0 c0 : Nat) (bs0 : List Int) (A1 : Option Addr) (n1 c1 : Nat) (bs1 : List Int) (N : Nat) (v : World) (hr0 : Reads v v.heap.size A0 n0 (bs0.map (Value.int .u8))) (hr1 : Reads v v.heap.size A1 n1 (bs1.map (Value.int .u8))) (hgl : Glob v) (h2 : 3 ≤ v.heap.size) (hn0 : n0 ≤ 1000000) (hn1 : n1 ≤ 1000000) (hN : N ≤ 8160) (hc : n1 ≤ 255) : RetsT2 11 #[.slice A0 n0 c0, .slice A1 n1 c1, .int .i64 (N : Int)] v N (expandL bs0 bs1 N) := by
  have hl0 : bs0.length = n0 := by simpa using hr0.1
  have hl1 : bs1.length = n1 := by simpa using hr1.1
  refine calls_fr3 Tryd.func11 rfl (by rfl : _ = 93) (by rfl) ?_
  have hw := Hbl.nil v
  refine seq_plain hw [0, 1] (by rfl) ?_
  refine L_val (.slice none 0 0) (by rfl) (by rfl) (gives_value _ fun _ => by rfl) ?_
  refine L_val (.int .i64 0) (by rfl) (by rfl) (gives_value _ fun _ => by rfl) ?_
  refine L_end ?_
  intro w1 hw1
  refine wp_seq ?_
  refine seq_plain hw1 [0, 1, 2, 3, 4, 5] (by rfl) ?_
  refine L_val (.int .i64 (N : Int)) (by rfl) (by rfl) (gives_value _ fun _ => by rfl) ?_
  refine L_val (.bool false) (by rfl) (by rfl) (gives_lss (k := .i64) ((N : Int)) (0) false (by rfl) (by rfl) (decide_eq_false (by omega))) ?_
  refine L_val (.bool false) (by rfl) (by rfl) (gives_value _ fun _ => by rfl) ?_
  refine L_val_g (dj := 18) (.int .i64 (N : Int)) (by rfl) (by rfl) (by rfl) (by rfl) (by rfl) (gives_value _ fun _ => by rfl) ?_
  refine L_val_g (dj := 18) (.bool false) (by rfl) (by rfl) (by rfl) (by rfl) (by rfl) (gives_gtr (k := .i64) ((N : Int)) (8160) false (by rfl) (by rfl) (decide_eq_false (by omega))) ?_
  refine L_val (.bool false) (by rfl) (by rfl) (gives_value _ fun _ => by rfl) ?_
  refine L_end ?_
  intro w2 hw2
  refine wp_cond_false (fr_at _ _ (by rfl) _) ?_
  refine wp_skip ?_
  change Code.wp _ _ _ _ _
  refine wp_seq ?_
  refine seq_plain hw2 [0, 1, 2] (by rfl) ?_
  refine L_val (.slice A1 n1 c1) (by rfl) (by rfl) (gives_value _ fun _ => by rfl) ?_
  refine L_val (.int .i64 (n1 : Int)) (by rfl) (by rfl) (gives_len _ n1 c1 und_u8s (by rfl)) ?_
  refine L_val (.bool false) (by rfl) (by rfl) (gives_gtr (k := .i64) ((n1 : Int)) (255) false (by rfl) (by rfl) (decide_eq_false (by omega))) ?_
  refine L_end ?_
  intro w3 hw3
  refine wp_cond_false (fr_at _ _ (by rfl) _) ?_
  refine wp_skip ?_
  change Code.wp _ _ _ _ _
  refine seq_plain hw3 [0, 1, 2, 3, 4, 5, 6, 7] (by rfl) ?_
  refine L_val (.slice A1 n1 c1) (by rfl) (by rfl) (gives_value _ fun _ => by rfl) ?_
  refine L_freshP (vl := [.slice A1 n1 c1]) 5 .u8 n1 bs1 (by rfl) (by rfl) Want.none (by kernel_rfl) (by rfl) (fun w h => c_copy w _ _ _ bs1 ((hr1.below h.below).more h.below.size) (by omega)) ?_; intro g1 cap_1 cs_1 hn_1
  refine L_val (.slice A1 n1 c1) (by rfl) (by rfl) (gives_value _ fun _ => by rfl) ?_
  refine L_val (.int .i64 (n1 : Int)) (by rfl) (by rfl) (gives_len _ n1 c1 und_u8s (by rfl)) ?_
  refine L_val (.int .u8 ((n1 : Int) % 256)) (by rfl) (by rfl) (gives_conv (k2 := .u8) ((n1 : Int)) ((n1 : Int) % 256) (by rfl) und_int und_u8' (u8wrap _)) ?_
  refine L_buildV 1 (.int .u8 0) [.int .u8 ((n1 : Int) % 256)] (by rfl) (by rfl) Want.none und_u8s u8_zs (by rfl) (by rfl) (by rfl) (by intro u hu; simp only [List.mem_cons, List.not_mem_nil, or_false] at hu; rcases hu with rfl <;> rfl) (by rfl) (by rfl) ?_; intro g2
  have hn_2 : Nms .u8 ([.int .u8 ((n1 : Int) % 256)] : List Value).toArray 1 1 [(n1 : Int) % 256] := Nms.all (by rfl) (by rfl) (by omega)
  refine L_push 1 g1 n1 cap_1 1 1 1 (some ⟨g2, 0, none⟩) .u8 (.int .u8 0) bs1 ([(n1 : Int) % 256]) cs_1 (by rfl) (by rfl) Want.none und_u8s byte_info rfl (by rfl) (by rfl) (by rfl) hn_1 (fun w h => (hn_2.reads (h.blk 0 (by rfl)))) (by omega) (by rfl) [(g2, 5, ([.int .u8 ((n1 : Int) % 256)] : List Value).toArray)] (by rfl) ?_; intro g3 cap_3 cs_3 hn_3
  refine L_val (.slice (some ⟨g3, 0, none⟩) (n1 + 1) cap_3) (by rfl) (by rfl) (gives_value _ fun _ => by rfl) ?_
  refine L_end ?_
  intro w4 hw4
  refine seq_plain hw4 [0, 1, 2, 3] (by rfl) ?_
  refine L_makeC 64 64 _ (by rfl) (by rfl) und_u8s (by rfl) (by rfl) (by rfl) (by rfl) (by exact congrArg (Value.int .i64) (by omega : (64) = ((64 : Nat) : Int))) (by exact congrArg (Value.int .i64) (by omega : (64) = ((64 : Nat) : Int))) (by omega) (by omega) ?_; intro g4 cs_4 hn_4
  refine L_val (.slice A0 n0 c0) (by rfl) (by rfl) (gives_value _ fun _ => by rfl) ?_
  refine L_push 0 g4 64 64 n0 c0 1 A0 .u8 (.int .u8 0) (List.replicate 64 0) bs0 cs_4 (by rfl) (by rfl) Want.none und_u8s byte_info rfl (by rfl) (by rfl) (by rfl) hn_4 (fun w h => ((hr0.below h.below).more h.below.size)) (by omega) (by rfl) [(g3, 5, cs_3), (g2, 5, ([.int .u8 ((n1 : Int) % 256)] : List Value).toArray)] (by rfl) ?_; intro g5 cap_5 cs_5 hn_5
  refine L_val (.slice (some ⟨g5, 0, none⟩) (64 + n0) cap_5) (by rfl) (by rfl) (gives_value _ fun _ => by rfl) ?_
  refine L_end ?_
  intro w5 hw5
  refine seq_plain hw5 [0, 1, 2, 3, 4, 5, 6, 7, 8, 9] (by rfl) ?_
  refine L_val (.slice (some ⟨g5, 0, none⟩) (64 + n0) cap_5) (by rfl) (by rfl) (gives_value _ fun _ => by rfl) ?_
  refine L_val (.int .i64 (N : Int)) (by rfl) (by rfl) (gives_value _ fun _ => by rfl) ?_
  refine L_val (.int .i64 ((N : Int) / 256)) (by rfl) (by rfl) (gives_quo (k := .i64) ((N : Int)) (256) ((N : Int) / 256) (by rfl) (by rfl) (by omega) (IntWalk.i64_quo _ _ (by omega))) ?_
  refine L_val (.int .u8 (((N : Int) / 256) % 256)) (by rfl) (by rfl) (gives_conv (k2 := .u8) ((N : Int) / 256) (((N : Int) / 256) % 256) (by rfl) und_int und_u8' (u8wrap _)) ?_
  refine L_val (.int .i64 (N : Int)) (by rfl) (by rfl) (gives_value _ fun _ => by rfl) ?_
  refine L_val (.int .i64 ((N : Int) % 256)) (by rfl) (by rfl) (gives_rem (k := .i64) ((N : Int)) (256) ((N : Int) % 256) (by rfl) (by rfl) (by omega) (IntWalk.rem_in _ _ (by omega))) ?_
  refine L_val (.int .u8 (((N : Int) % 256) % 256)) (by rfl) (by rfl) (gives_conv (k2 := .u8) ((N : Int) % 256) (((N : Int) % 256) % 256) (by rfl) und_int und_u8' (u8wrap _)) ?_
  refine L_buildV 3 (.int .u8 0) [.int .u8 (((N : Int) / 256) % 256), .int .u8 (((N : Int) % 256) % 256), .int .u8 0] (by rfl) (by rfl) Want.none und_u8s u8_zs (by rfl) (by rfl) (by rfl) (by intro u hu; simp only [List.mem_cons, List.not_mem_nil, or_false] at hu; rcases hu with rfl | rfl | rfl <;> rfl) (by rfl) (by rfl) ?_; intro g6
  have hn_6 : Nms .u8 ([.int .u8 (((N : Int) / 256) % 256), .int .u8 (((N : Int) % 256) % 256), .int .u8 0] : List Value).toArray 3 3 [((N : Int) / 256) % 256, ((N : Int) % 256) % 256, 0] := Nms.all (by rfl) (by rfl) (by omega)
  refine L_push 1 g5 (64 + n0) cap_5 3 3 1 (some ⟨g6, 0, none⟩) .u8 (.int .u8 0) ((List.replicate 64 0) ++ bs0) ([((N : Int) / 256) % 256, ((N : Int) % 256) % 256, 0]) cs_5 (by rfl) (by rfl) Want.none und_u8s byte_info rfl (by rfl) (by rfl) (by rfl) hn_5 (fun w h => (hn_6.reads (h.blk 0 (by rfl)))) (by omega) (by rfl) [(g6, 5, ([.int .u8 (((N : Int) / 256) % 256), .int .u8 (((N : Int) % 256) % 256), .int .u8 0] : List Value).toArray), (g3, 5, cs_3), (g2, 5, ([.int .u8 ((n1 : Int) % 256)] : List Value).toArray)] (by rfl) ?_; intro g7 cap_7 cs_7 hn_7
  refine L_val (.slice (some ⟨g7, 0, none⟩) ((64 + n0) + 3) cap_7) (by rfl) (by rfl) (gives_value _ fun _ => by rfl) ?_
  refine L_end ?_
  intro w6 hw6
  refine seq_plain hw6 [0, 1, 2, 3, 4] (by rfl) ?_
  refine L_val (.slice (some ⟨g7, 0, none⟩) ((64 + n0) + 3) cap_7) (by rfl) (by rfl) (gives_value _ fun _ => by rfl) ?_
  refine L_val (.slice (some ⟨g3, 0, none⟩) (n1 + 1) cap_3) (by rfl) (by rfl) (gives_value _ fun _ => by rfl) ?_
  refine L_push 0 g7 ((64 + n0) + 3) cap_7 (n1 + 1) cap_3 1 (some ⟨g3, 0, none⟩) .u8 (.int .u8 0) (((List.replicate 64 0) ++ bs0) ++ ([((N : Int) / 256) % 256, ((N : Int) % 256) % 256, 0])) (bs1 ++ ([(n1 : Int) % 256])) cs_7 (by rfl) (by rfl) Want.none und_u8s byte_info rfl (by rfl) (by rfl) (by rfl) hn_7 (fun w h => (hn_3.reads (h.blk 2 (by rfl)))) (by omega) (by rfl) [(g6, 5, ([.int .u8 (((N : Int) / 256) % 256), .int .u8 (((N : Int) % 256) % 256), .int .u8 0] : List Value).toArray), (g3, 5, cs_3), (g2, 5, ([.int .u8 ((n1 : Int) % 256)] : List Value).toArray)] (by rfl) ?_; intro g8 cap_8 cs_8 hn_8
  refine L_freshP (vl := [.slice (some ⟨g8, 0, none⟩) (((64 + n0) + 3) + (n1 + 1)) cap_8]) 5 .u8 32 (digest ((((List.replicate 64 0) ++ bs0) ++ ([((N : Int) / 256) % 256, ((N : Int) % 256) % 256, 0])) ++ (bs1 ++ ([(n1 : Int) % 256])))) (by rfl) (by rfl) Want.none (by kernel_rfl) (by rfl) (fun w h => refsum_own _ _ _ ((((List.replicate 64 0) ++ bs0) ++ ([((N : Int) / 256) % 256, ((N : Int) % 256) % 256, 0])) ++ (bs1 ++ ([(n1 : Int) % 256]))) w (hn_8.reads (h.blk 0 (by rfl))) (by omega)) ?_; intro g9 cap_9 cs_9 hn_9
  refine L_val (.slice (some ⟨g9, 0, none⟩) 32 cap_9) (by rfl) (by rfl) (gives_value _ fun _ => by rfl) ?_
  refine L_end ?_
  intro w7 hw7
  refine seq_plain hw7 [0, 1] (by rfl) ?_
  refine L_build0 1 (by rfl) (by rfl) und_u8s u8_sz ?_; intro g10; have hn_10 := Nms.nil .u8
  refine L_val (.slice (some ⟨g10, 0, none⟩) 0 0) (by rfl) (by rfl) (gives_value _ fun _ => by rfl) ?_
  refine L_end ?_
  intro w8 hw8
  refine seq_plain hw8 [0, 1] (by rfl) ?_
  refine L_makeC 32 32 _ (by rfl) (by rfl) und_u8s (by rfl) (by rfl) (by rfl) (by rfl) (by exact congrArg (Value.int .i64) (by omega : (32) = ((32 : Nat) : Int))) (by exact congrArg (Value.int .i64) (by omega : (32) = ((32 : Nat) : Int))) (by omega) (by omega) ?_; intro g11 cs_11 hn_11
  refine L_val (.slice (some ⟨g11, 0, none⟩) 32 32) (by rfl) (by rfl) (gives_value _ fun _ => by rfl) ?_
  refine L_end ?_
  intro w9 hw9
  refine wp_seq ?_
  refine seq_plain hw9 [0] (by rfl) ?_
  refine L_val (.int .i64 1) (by rfl) (by rfl) (gives_value _ fun _ => by rfl) ?_
  refine L_end ?_
  intro w10 hw10
  refine wp_block ?_
  have hTE := hn_3.list (show _ = tagE bs1 by rw [tagE, tagT_short (by omega)]; rw [hl1]) rfl
  have hHB := hn_9.list (show _ = headB bs0 bs1 N by rw [headB, tagE, tagT_short (by omega), hl1]; simp only [List.append_assoc, Int.emod_emod]) rfl
  refine loop_down (fun (r_ : Nat) a w => ∃ (e : Nat) (go : Nat) (co : Nat) (so : Array Value) (gl : Nat) (cl : Nat) (sl : Array Value) (l_1 : List (Nat × Value)), N - 32 * e = r_ ∧ inFr 93 l_1 = true ∧ a = fr 93 ((2, .int .i64 (N : Int)) :: (8, .slice (some ⟨g3, 0, none⟩) (n1 + 1) cap_3) :: (10, .slice (some ⟨g9, 0, none⟩) 32 cap_9) :: (11, .slice (some ⟨go, 0, none⟩) (32 * e) co) :: (12, .slice (some ⟨gl, 0, none⟩) 32 cl) :: (13, .int .i64 ((e + 1 : Nat) : Int)) :: l_1) ∧ (32 * e < N + 32) ∧ (Nms .u8 so co (32 * e) (outB (headB bs0 bs1 N) (tagE bs1) e)) ∧ (Nms .u8 sl cl 32 (lastB (headB bs0 bs1 N) (tagE bs1) e)) ∧ Hbl v [(gl, 5, sl), (go, 5, so), (g9, 5, cs_9), (g3, 5, cs_3)] w) ?_ _ _ _ ⟨0, g10, 0, #[], g11, 32, cs_11, [(13, .int .i64 1), (12, .slice (some ⟨g11, 0, none⟩) 32 32), (54, .slice (some ⟨g11, 0, none⟩) 32 32), (11, .slice (some ⟨g10, 0, none⟩) 0 0), (53, .slice (some ⟨g10, 0, none⟩) 0 0), (10, .slice (some ⟨g9, 0, none⟩) 32 cap_9), (52, .slice (some ⟨g9, 0, none⟩) 32 cap_9), (51, .slice (some ⟨g8, 0, none⟩) (((64 + n0) + 3) + (n1 + 1)) cap_8), (50, .slice (some ⟨g3, 0, none⟩) (n1 + 1) cap_3), (49, .slice (some ⟨g7, 0, none⟩) ((64 + n0) + 3) cap_7), (9, .slice (some ⟨g7, 0, none⟩) ((64 + n0) + 3) cap_7), (48, .slice (some ⟨g7, 0, none⟩) ((64 + n0) + 3) cap_7), (47, .slice (some ⟨g6, 0, none⟩) 3 3), (46, .int .u8 (((N : Int) % 256) % 256)), (45, .int .i64 ((N : Int) % 256)), (44, .int .i64 (N : Int)), (43, .int .u8 (((N : Int) / 256) % 256)), (42, .int .i64 ((N : Int) / 256)), (41, .int .i64 (N : Int)), (40, .slice (some ⟨g5, 0, none⟩) (64 + n0) cap_5), (9, .slice (some ⟨g5, 0, none⟩) (64 + n0) cap_5), (39, .slice (some ⟨g5, 0, none⟩) (64 + n0) cap_5), (38, .slice A0 n0 c0), (37, .slice (some ⟨g4, 0, none⟩) 64 64), (8, .slice (some ⟨g3, 0, none⟩) (n1 + 1) cap_3), (36, .slice (some ⟨g3, 0, none⟩) (n1 + 1) cap_3), (35, .slice (some ⟨g2, 0, none⟩) 1 1), (34, .int .u8 ((n1 : Int) % 256)), (33, .int .i64 (n1 : Int)), (32, .slice A1 n1 c1), (31, .slice (some ⟨g1, 0, none⟩) n1 cap_1), (30, .slice A1 n1 c1), (24, .bool false), (23, .int .i64 (n1 : Int)), (22, .slice A1 n1 c1), (21, .bool false), (20, .bool false), (19, .int .i64 (N : Int)), (18, .bool false), (17, .bool false), (16, .int .i64 (N : Int)), (7, .int .i64 0), (6, .slice none 0 0), (2, .int .i64 (N : Int)), (1, .slice A1 n1 c1), (0, .slice A0 n0 c0)], rfl, (by rfl), (Eq.trans (Eq.trans (Eq.trans (Eq.trans (Eq.trans (fr_dup _ _ 13 _ (by rfl) (by rfl) (by rfl)).symm (fr_dup _ _ 12 _ (by rfl) (by rfl) (by rfl)).symm) (fr_dup _ _ 11 _ (by rfl) (by rfl) (by rfl)).symm) (fr_dup _ _ 10 _ (by rfl) (by rfl) (by rfl)).symm) (fr_dup _ _ 8 _ (by rfl) (by rfl) (by rfl)).symm) (fr_dup _ _ 2 _ (by rfl) (by rfl) (by rfl)).symm), by omega, Nms.nil .u8, hn_11.list (by rfl) rfl, (hw10.sub (List.Sublist.cons_cons _ (List.Sublist.cons_cons _ (List.Sublist.cons_cons _ (List.Sublist.cons _ (List.Sublist.cons _ (List.Sublist.cons_cons _ (List.Sublist.cons _ (List.Sublist.refl _)))))))))⟩
  rintro r_1 a0 w0_1 ⟨e, go, co, so, gl, cl, sl, l_1, hr_1, hl_1, rfl, he, ho, hl, hw0_1⟩
  by_cases hlt : 32 * e < N
  ·
    refine wp_seq ?_
    refine seq_plain hw0_1 [0, 1, 2, 3] (by rfl) ?_
    refine L_val (.slice (some ⟨go, 0, none⟩) (32 * e) co) (by rfl) (by exact hl_1) (gives_value _ fun _ => by rfl) ?_
    refine L_val (.int .i64 (((32 * e) : Nat) : Int)) (by rfl) (by exact hl_1) (gives_len _ (32 * e) co und_u8s (by rfl)) ?_
    refine L_val (.int .i64 (N : Int)) (by rfl) (by exact hl_1) (gives_value _ fun _ => by rfl) ?_
    refine L_val (.bool true) (by rfl) (by exact hl_1) (gives_lss (k := .i64) ((((32 * e) : Nat) : Int)) ((N : Int)) true (by rfl) (by rfl) (decide_eq_true (by omega))) ?_
    refine L_end ?_
    intro w11 hw11
    refine wp_cond_true (fr_at _ _ (by exact hl_1) _) ?_
    refine wp_skip ?_
    change Code.wp _ _ _ _ _
    refine wp_seq ?_
    refine wp_block ?_
    refine seq_plain hw11 [0, 1] (by rfl) ?_
    refine L_build0 1 (by rfl) (by exact hl_1) und_u8s u8_sz ?_; intro g12; have hn_12 := Nms.nil .u8
    refine L_val (.slice (some ⟨g12, 0, none⟩) 0 0) (by rfl) (by exact hl_1) (gives_value _ fun _ => by rfl) ?_
    refine L_end ?_
    intro w12 hw12
    refine wp_seq ?_
    refine seq_plain hw12 [0] (by rfl) ?_
    refine L_val (.int .i64 0) (by rfl) (by exact hl_1) (gives_value _ fun _ => by rfl) ?_
    refine L_end ?_
    intro w13 hw13
    refine wp_block ?_
    refine loop_down (fun (r_ : Nat) a w => ∃ (k : Nat) (gx : Nat) (cx : Nat) (sx : Array Value) (l_2 : List (Nat × Value)), 32 - k = r_ ∧ inFr 93 l_2 = true ∧ a = fr 93 ((2, .int .i64 (N : Int)) :: (8, .slice (some ⟨g3, 0, none⟩) (n1 + 1) cap_3) :: (10, .slice (some ⟨g9, 0, none⟩) 32 cap_9) :: (11, .slice (some ⟨go, 0, none⟩) (32 * e) co) :: (12, .slice (some ⟨gl, 0, none⟩) 32 cl) :: (13, .int .i64 ((e + 1 : Nat) : Int)) :: (14, .slice (some ⟨gx, 0, none⟩) k cx) :: (15, .int .i64 (k : Int)) :: l_2) ∧ (k ≤ 32) ∧ (Nms .u8 sx cx k (xl (headB bs0 bs1 N) (lastB (headB bs0 bs1 N) (tagE bs1) e) k)) ∧ Hbl v [(gx, 5, sx), (gl, 5, sl), (go, 5, so), (g9, 5, cs_9), (g3, 5, cs_3)] w) ?_ _ _ _ ⟨0, g12, 0, #[], ((15, .int .i64 0) :: (14, .slice (some ⟨g12, 0, none⟩) 0 0) :: (61, .slice (some ⟨g12, 0, none⟩) 0 0) :: (58, .bool true) :: (57, .int .i64 (N : Int)) :: (56, .int .i64 (((32 * e) : Nat) : Int)) :: (55, .slice (some ⟨go, 0, none⟩) (32 * e) co) :: (2, .int .i64 (N : Int)) :: (8, .slice (some ⟨g3, 0, none⟩) (n1 + 1) cap_3) :: (10, .slice (some ⟨g9, 0, none⟩) 32 cap_9) :: (11, .slice (some ⟨go, 0, none⟩) (32 * e) co) :: (12, .slice (some ⟨gl, 0, none⟩) 32 cl) :: (13, .int .i64 ((e + 1 : Nat) : Int)) :: l_1), rfl, (by exact hl_1), (Eq.trans (Eq.trans (Eq.trans (Eq.trans (Eq.trans (Eq.trans (Eq.trans (fr_dup _ _ 15 _ (by exact hl_1) (by rfl) (by rfl)).symm (fr_dup _ _ 14 _ (by exact hl_1) (by rfl) (by rfl)).symm) (fr_dup _ _ 13 _ (by exact hl_1) (by rfl) (by rfl)).symm) (fr_dup _ _ 12 _ (by exact hl_1) (by rfl) (by rfl)).symm) (fr_dup _ _ 11 _ (by exact hl_1) (by rfl) (by rfl)).symm) (fr_dup _ _ 10 _ (by exact hl_1) (by rfl) (by rfl)).symm) (fr_dup _ _ 8 _ (by exact hl_1) (by rfl) (by rfl)).symm) (fr_dup _ _ 2 _ (by exact hl_1) (by rfl) (by rfl)).symm), Nat.zero_le _, Nms.nil .u8, hw13⟩
    rintro r_2 a0 w0_2 ⟨k, gx, cx, sx, l_2, hr_2, hl_2, rfl, hk, hx, hw0_2⟩
    by_cases hlt2 : k < 32
    ·
      refine wp_seq ?_
      refine seq_plain hw0_2 [0, 1] (by rfl) ?_
      refine L_val (.int .i64 (k : Int)) (by rfl) (by exact hl_2) (gives_value _ fun _ => by rfl) ?_
      refine L_val (.bool true) (by rfl) (by exact hl_2) (gives_lss (k := .i64) ((k : Int)) (32) true (by rfl) (by rfl) (decide_eq_true (by omega))) ?_
      refine L_end ?_
      intro w14 hw14
      refine wp_cond_true (fr_at _ _ (by exact hl_2) _) ?_
      refine wp_skip ?_
      change Code.wp _ _ _ _ _
      refine wp_seq ?_
      refine wp_block ?_
      refine one_flow (by kernel_rfl) hw14 [] [(gl, 5, sl), (go, 5, so), (g9, 5, cs_9), (g3, 5, cs_3)] 13 (by rfl) ?_
      refine flow_take (i := 0) (.slice (some ⟨gx, 0, none⟩) k cx) (by rfl) (by kernel_rfl) (by kernel_rfl) (by kernel_rfl) (by exact hl_2) (by kernel_rfl) (List.Sublist.cons _ (List.Sublist.refl _)) (gives_value _ fun _ => by rfl) ?_
      refine flow_take (i := 1) (.slice (some ⟨g9, 0, none⟩) 32 cap_9) (by rfl) (by kernel_rfl) (by kernel_rfl) (by kernel_rfl) (by exact hl_2) (by kernel_rfl) (List.Sublist.cons _ (List.Sublist.refl _)) (gives_value _ fun _ => by rfl) ?_
      refine flow_take (i := 2) (.int .i64 (k : Int)) (by rfl) (by kernel_rfl) (by kernel_rfl) (by kernel_rfl) (by exact hl_2) (by kernel_rfl) (List.Sublist.cons _ (List.Sublist.refl _)) (gives_value _ fun _ => by rfl) ?_
      refine flow_take (i := 3) (.pointer (some ⟨g9, 0 + (k), none⟩)) (by rfl) (by kernel_rfl) (by kernel_rfl) (by kernel_rfl) (by exact hl_2) (by kernel_rfl) (List.Sublist.cons _ (List.Sublist.refl _)) (gives_index g9 0 (32) (cap_9) ((k : Int)) (k) (by rfl) (by rfl) und_u8s u8_sz rfl (by omega)) ?_
      refine flow_take (i := 4) (.int .u8 (gt (headB bs0 bs1 N) k)) (by rfl) (by kernel_rfl) (by kernel_rfl) (by kernel_rfl) (by exact hl_2) (by kernel_rfl) (List.Sublist.cons _ (List.Sublist.refl _)) (gives_load1 g9 (0 + (k)) _ cs_9 (.int .u8 (gt (headB bs0 bs1 N) k)) (by rfl) (fun _ h => h.blk 2 (by rfl)) (hHB.get (by omega)) und_u8') ?_
      refine flow_take (i := 5) (.slice (some ⟨gl, 0, none⟩) 32 cl) (by rfl) (by kernel_rfl) (by kernel_rfl) (by kernel_rfl) (by exact hl_2) (by kernel_rfl) (List.Sublist.cons _ (List.Sublist.refl _)) (gives_value _ fun _ => by rfl) ?_
      refine flow_take (i := 6) (.int .i64 (k : Int)) (by rfl) (by kernel_rfl) (by kernel_rfl) (by kernel_rfl) (by exact hl_2) (by kernel_rfl) (List.Sublist.cons _ (List.Sublist.refl _)) (gives_value _ fun _ => by rfl) ?_
      refine flow_take (i := 7) (.pointer (some ⟨gl, 0 + (k), none⟩)) (by rfl) (by kernel_rfl) (by kernel_rfl) (by kernel_rfl) (by exact hl_2) (by kernel_rfl) (List.Sublist.cons _ (List.Sublist.refl _)) (gives_index gl 0 (32) (cl) ((k : Int)) (k) (by rfl) (by rfl) und_u8s u8_sz rfl (by omega)) ?_
      refine flow_take (i := 8) (.int .u8 (gt (lastB (headB bs0 bs1 N) (tagE bs1) e) k)) (by rfl) (by kernel_rfl) (by kernel_rfl) (by kernel_rfl) (by exact hl_2) (by kernel_rfl) (List.Sublist.cons _ (List.Sublist.refl _)) (gives_load1 gl (0 + (k)) _ sl (.int .u8 (gt (lastB (headB bs0 bs1 N) (tagE bs1) e) k)) (by rfl) (fun _ h => h.blk 0 (by rfl)) (hl.get (by omega)) und_u8') ?_
      refine flow_take (i := 9) (.int .u8 (bits .xor .u8 (gt (headB bs0 bs1 N) k) (gt (lastB (headB bs0 bs1 N) (tagE bs1) e) k))) (by rfl) (by kernel_rfl) (by kernel_rfl) (by kernel_rfl) (by exact hl_2) (by kernel_rfl) (List.Sublist.cons _ (List.Sublist.refl _)) (gives_xorB (k := .u8) (gt (headB bs0 bs1 N) k) (gt (lastB (headB bs0 bs1 N) (tagE bs1) e) k) (by rfl) (by rfl)) ?_
      refine flow_one 10 (by kernel_rfl) ?_
      refine F_buildV 1 (.int .u8 0) [.int .u8 (bits .xor .u8 (gt (headB bs0 bs1 N) k) (gt (lastB (headB bs0 bs1 N) (tagE bs1) e) k))] (by rfl) (by exact hl_2) Want.none und_u8s u8_zs (by rfl) (by rfl) (by rfl) (by intro u hu; simp only [List.mem_cons, List.not_mem_nil, or_false] at hu; rcases hu with rfl <;> rfl) (by rfl) (by rfl) (List.Sublist.cons _ (List.Sublist.refl _)) ?_; intro g13
      have hn_13 : Nms .u8 ([.int .u8 (bits .xor .u8 (gt (headB bs0 bs1 N) k) (gt (lastB (headB bs0 bs1 N) (tagE bs1) e) k))] : List Value).toArray 1 1 [bits .xor .u8 (gt (headB bs0 bs1 N) k) (gt (lastB (headB bs0 bs1 N) (tagE bs1) e) k)] := Nms.all (by rfl) (by rfl) (by omega)
      refine flow_one 11 (by kernel_rfl) ?_
      refine F_push 1 gx k cx 1 1 1 (some ⟨g13, 0, none⟩) .u8 (.int .u8 0) (xl (headB bs0 bs1 N) (lastB (headB bs0 bs1 N) (tagE bs1) e) k) ([bits .xor .u8 (gt (headB bs0 bs1 N) k) (gt (lastB (headB bs0 bs1 N) (tagE bs1) e) k)]) sx (by rfl) (by exact hl_2) Want.none und_u8s byte_info rfl (by rfl) (by rfl) (by rfl) hx (fun w h => (hn_13.reads (h.blk 0 (by rfl)))) (by omega) (by rfl) [(g13, 5, ([.int .u8 (bits .xor .u8 (gt (headB bs0 bs1 N) k) (gt (lastB (headB bs0 bs1 N) (tagE bs1) e) k))] : List Value).toArray), (gl, 5, sl), (go, 5, so), (g9, 5, cs_9), (g3, 5, cs_3)] (by rfl) (.inr (List.Sublist.cons _ (List.Sublist.refl _))) ?_; intro g14 cap_14 cs_14 hn_14
      refine flow_take (i := 12) (.slice (some ⟨g14, 0, none⟩) (k + 1) cap_14) (by rfl) (by kernel_rfl) (by kernel_rfl) (by kernel_rfl) (by exact hl_2) (by kernel_rfl) (List.Sublist.cons _ (List.Sublist.cons _ (List.Sublist.refl _))) (gives_value _ fun _ => by rfl) ?_
      refine flow_done (by kernel_rfl) ?_
      intro w15 hw15
      change Code.wp _ _ _ _ _
      refine one_plain hw15 [0, 1, 2] (by rfl) ?_
      refine L_val (.int .i64 (k : Int)) (by rfl) (by exact hl_2) (gives_value _ fun _ => by rfl) ?_
      refine L_val (.int .i64 ((k : Int) + 1)) (by rfl) (by exact hl_2) (gives_add (k := .i64) ((k : Int)) (1) ((k : Int) + 1) (by rfl) (by rfl) (IntWalk.i64_in _ (by omega))) ?_
      refine L_val (.int .i64 ((k : Int) + 1)) (by rfl) (by exact hl_2) (gives_value _ fun _ => by rfl) ?_
      refine L_end ?_
      intro w16 hw16
      change ∃ r' : Nat, r' < r_2 ∧ _
      refine ⟨_, ?_, k + 1, g14, cap_14, cs_14, ((15, .int .i64 ((k : Int) + 1)) :: (65, .int .i64 ((k : Int) + 1)) :: (64, .int .i64 (k : Int)) :: (14, .slice (some ⟨g14, 0, none⟩) (k + 1) cap_14) :: (77, .slice (some ⟨g14, 0, none⟩) (k + 1) cap_14) :: (76, .slice (some ⟨g13, 0, none⟩) 1 1) :: (75, .int .u8 (bits .xor .u8 (gt (headB bs0 bs1 N) k) (gt (lastB (headB bs0 bs1 N) (tagE bs1) e) k))) :: (74, .int .u8 (gt (lastB (headB bs0 bs1 N) (tagE bs1) e) k)) :: (73, .pointer (some ⟨gl, 0 + (k), none⟩)) :: (72, .int .i64 (k : Int)) :: (71, .slice (some ⟨gl, 0, none⟩) 32 cl) :: (70, .int .u8 (gt (headB bs0 bs1 N) k)) :: (69, .pointer (some ⟨g9, 0 + (k), none⟩)) :: (68, .int .i64 (k : Int)) :: (67, .slice (some ⟨g9, 0, none⟩) 32 cap_9) :: (66, .slice (some ⟨gx, 0, none⟩) k cx) :: (63, .bool true) :: (62, .int .i64 (k : Int)) :: (2, .int .i64 (N : Int)) :: (8, .slice (some ⟨g3, 0, none⟩) (n1 + 1) cap_3) :: (10, .slice (some ⟨g9, 0, none⟩) 32 cap_9) :: (11, .slice (some ⟨go, 0, none⟩) (32 * e) co) :: (12, .slice (some ⟨gl, 0, none⟩) 32 cl) :: (13, .int .i64 ((e + 1 : Nat) : Int)) :: (14, .slice (some ⟨gx, 0, none⟩) k cx) :: (15, .int .i64 (k : Int)) :: l_2), rfl, (by exact hl_2), (Eq.trans (Eq.trans (Eq.trans (Eq.trans (Eq.trans (Eq.trans (Eq.trans (fr_dup _ _ 15 _ (by exact hl_2) (by rfl) (by rfl)).symm (fr_dup _ _ 14 _ (by exact hl_2) (by rfl) (by rfl)).symm) (fr_dup _ _ 13 _ (by exact hl_2) (by rfl) (by rfl)).symm) (fr_dup _ _ 12 _ (by exact hl_2) (by rfl) (by rfl)).symm) (fr_dup _ _ 11 _ (by exact hl_2) (by rfl) (by rfl)).symm) (fr_dup _ _ 10 _ (by exact hl_2) (by rfl) (by rfl)).symm) (fr_dup _ _ 8 _ (by exact hl_2) (by rfl) (by rfl)).symm) (fr_dup _ _ 2 _ (by exact hl_2) (by rfl) (by rfl)).symm), by omega, hn_14.list (by rfl) rfl, (hw16.sub (List.Sublist.cons_cons _ (List.Sublist.cons _ (List.Sublist.cons_cons _ (List.Sublist.cons_cons _ (List.Sublist.cons_cons _ (List.Sublist.cons_cons _ (List.Sublist.refl _))))))))⟩
      omega
    ·
      refine wp_seq ?_
      refine seq_plain hw0_2 [0, 1] (by rfl) ?_
      refine L_val (.int .i64 (k : Int)) (by rfl) (by exact hl_2) (gives_value _ fun _ => by rfl) ?_
      refine L_val (.bool false) (by rfl) (by exact hl_2) (gives_lss (k := .i64) ((k : Int)) (32) false (by rfl) (by rfl) (decide_eq_false (by omega))) ?_
      refine L_end ?_
      intro w17 hw17
      refine wp_cond_false (fr_at _ _ (by exact hl_2) _) ?_
      refine wp_exit ?_
      have hk32 : k = 32 := by omega
      subst hk32
      change Code.wp _ _ _ _ _
      change Code.wp _ _ _ _ _
      refine seq_plain hw17 [0, 1, 2, 3, 4, 5] (by rfl) ?_
      refine L_val (.slice (some ⟨gx, 0, none⟩) 32 cx) (by rfl) (by exact hl_2) (gives_value _ fun _ => by rfl) ?_
      refine L_val (.int .i64 ((e + 1 : Nat) : Int)) (by rfl) (by exact hl_2) (gives_value _ fun _ => by rfl) ?_
      refine L_val (.int .u8 (((e + 1 : Nat) : Int) % 256)) (by rfl) (by exact hl_2) (gives_conv (k2 := .u8) (((e + 1 : Nat) : Int)) (((e + 1 : Nat) : Int) % 256) (by rfl) und_int und_u8' (u8wrap _)) ?_
      refine L_buildV 1 (.int .u8 0) [.int .u8 (((e + 1 : Nat) : Int) % 256)] (by rfl) (by exact hl_2) Want.none und_u8s u8_zs (by rfl) (by rfl) (by rfl) (by intro u hu; simp only [List.mem_cons, List.not_mem_nil, or_false] at hu; rcases hu with rfl <;> rfl) (by rfl) (by rfl) ?_; intro g15
      have hn_15 : Nms .u8 ([.int .u8 (((e + 1 : Nat) : Int) % 256)] : List Value).toArray 1 1 [((e + 1 : Nat) : Int) % 256] := Nms.all (by rfl) (by rfl) (by omega)
      refine L_push 1 gx 32 cx 1 1 1 (some ⟨g15, 0, none⟩) .u8 (.int .u8 0) (xl (headB bs0 bs1 N) (lastB (headB bs0 bs1 N) (tagE bs1) e) 32) ([((e + 1 : Nat) : Int) % 256]) sx (by rfl) (by exact hl_2) Want.none und_u8s byte_info rfl (by rfl) (by rfl) (by rfl) hx (fun w h => (hn_15.reads (h.blk 0 (by rfl)))) (by omega) (by rfl) [(g15, 5, ([.int .u8 (((e + 1 : Nat) : Int) % 256)] : List Value).toArray), (gl, 5, sl), (go, 5, so), (g9, 5, cs_9), (g3, 5, cs_3)] (by rfl) ?_; intro g16 cap_16 cs_16 hn_16
      refine L_val (.slice (some ⟨g16, 0, none⟩) (32 + 1) cap_16) (by rfl) (by exact hl_2) (gives_value _ fun _ => by rfl) ?_
      refine L_end ?_
      intro w18 hw18
      refine seq_plain hw18 [0, 1, 2, 3, 4] (by rfl) ?_
      refine L_val (.slice (some ⟨g16, 0, none⟩) (32 + 1) cap_16) (by rfl) (by exact hl_2) (gives_value _ fun _ => by rfl) ?_
      refine L_val (.slice (some ⟨g3, 0, none⟩) (n1 + 1) cap_3) (by rfl) (by exact hl_2) (gives_value _ fun _ => by rfl) ?_
      refine L_push 0 g16 (32 + 1) cap_16 (n1 + 1) cap_3 1 (some ⟨g3, 0, none⟩) .u8 (.int .u8 0) ((xl (headB bs0 bs1 N) (lastB (headB bs0 bs1 N) (tagE bs1) e) 32) ++ ([((e + 1 : Nat) : Int) % 256])) (tagE bs1) cs_16 (by rfl) (by exact hl_2) Want.none und_u8s byte_info rfl (by rfl) (by rfl) (by rfl) hn_16 (fun w h => (hTE.reads (h.blk 5 (by rfl)))) (by omega) (by rfl) [(g15, 5, ([.int .u8 (((e + 1 : Nat) : Int) % 256)] : List Value).toArray), (gl, 5, sl), (go, 5, so), (g9, 5, cs_9), (g3, 5, cs_3)] (by rfl) ?_; intro g17 cap_17 cs_17 hn_17
      refine L_freshP (vl := [.slice (some ⟨g17, 0, none⟩) ((32 + 1) + (n1 + 1)) cap_17]) 5 .u8 32 (digest (((xl (headB bs0 bs1 N) (lastB (headB bs0 bs1 N) (tagE bs1) e) 32) ++ ([((e + 1 : Nat) : Int) % 256])) ++ (tagE bs1))) (by rfl) (by exact hl_2) Want.none (by kernel_rfl) (by rfl) (fun w h => refsum_own _ _ _ (((xl (headB bs0 bs1 N) (lastB (headB bs0 bs1 N) (tagE bs1) e) 32) ++ ([((e + 1 : Nat) : Int) % 256])) ++ (tagE bs1)) w (hn_17.reads (h.blk 0 (by rfl))) (by omega)) ?_; intro g18 cap_18 cs_18 hn_18
      refine L_val (.slice (some ⟨g18, 0, none⟩) 32 cap_18) (by rfl) (by exact hl_2) (gives_value _ fun _ => by rfl) ?_
      refine L_end ?_
      intro w19 hw19
      refine one_plain hw19 [0, 1, 2, 3] (by rfl) ?_
      refine L_val (.slice (some ⟨go, 0, none⟩) (32 * e) co) (by rfl) (by exact hl_2) (gives_value _ fun _ => by rfl) ?_
      refine L_val (.slice (some ⟨g18, 0, none⟩) 32 cap_18) (by rfl) (by exact hl_2) (gives_value _ fun _ => by rfl) ?_
      refine L_push 4 go (32 * e) co 32 cap_18 1 (some ⟨g18, 0, none⟩) .u8 (.int .u8 0) (outB (headB bs0 bs1 N) (tagE bs1) e) (digest (((xl (headB bs0 bs1 N) (lastB (headB bs0 bs1 N) (tagE bs1) e) 32) ++ ([((e + 1 : Nat) : Int) % 256])) ++ (tagE bs1))) so (by rfl) (by exact hl_2) Want.none und_u8s byte_info rfl (by rfl) (by rfl) (by rfl) ho (fun w h => (hn_18.reads (h.blk 0 (by rfl)))) (by omega) (by rfl) [(g18, 5, cs_18), (g17, 5, cs_17), (g15, 5, ([.int .u8 (((e + 1 : Nat) : Int) % 256)] : List Value).toArray), (gl, 5, sl), (g9, 5, cs_9), (g3, 5, cs_3)] (by rfl) ?_; intro g19 cap_19 cs_19 hn_19
      refine L_val (.slice (some ⟨g19, 0, none⟩) ((32 * e) + 32) cap_19) (by rfl) (by exact hl_2) (gives_value _ fun _ => by rfl) ?_
      refine L_end ?_
      intro w20 hw20
      change Code.wp _ _ _ _ _
      refine one_plain hw20 [0, 1, 2] (by rfl) ?_
      refine L_val (.int .i64 ((e + 1 : Nat) : Int)) (by rfl) (by exact hl_2) (gives_value _ fun _ => by rfl) ?_
      refine L_val (.int .i64 (((e + 1 : Nat) : Int) + 1)) (by rfl) (by exact hl_2) (gives_add (k := .i64) (((e + 1 : Nat) : Int)) (1) (((e + 1 : Nat) : Int) + 1) (by rfl) (by rfl) (IntWalk.i64_in _ (by omega))) ?_
      refine L_val (.int .i64 (((e + 1 : Nat) : Int) + 1)) (by rfl) (by exact hl_2) (gives_value _ fun _ => by rfl) ?_
      refine L_end ?_
      intro w21 hw21
      change ∃ r' : Nat, r' < r_1 ∧ _
      refine ⟨_, ?_, e + 1, g19, cap_19, cs_19, g18, cap_18, cs_18, ((13, .int .i64 (((e + 1 : Nat) : Int) + 1)) :: (60, .int .i64 (((e + 1 : Nat) : Int) + 1)) :: (59, .int .i64 ((e + 1 : Nat) : Int)) :: (11, .slice (some ⟨g19, 0, none⟩) ((32 * e) + 32) cap_19) :: (89, .slice (some ⟨g19, 0, none⟩) ((32 * e) + 32) cap_19) :: (88, .slice (some ⟨g18, 0, none⟩) 32 cap_18) :: (87, .slice (some ⟨go, 0, none⟩) (32 * e) co) :: (12, .slice (some ⟨g18, 0, none⟩) 32 cap_18) :: (86, .slice (some ⟨g18, 0, none⟩) 32 cap_18) :: (85, .slice (some ⟨g17, 0, none⟩) ((32 + 1) + (n1 + 1)) cap_17) :: (84, .slice (some ⟨g3, 0, none⟩) (n1 + 1) cap_3) :: (83, .slice (some ⟨g16, 0, none⟩) (32 + 1) cap_16) :: (14, .slice (some ⟨g16, 0, none⟩) (32 + 1) cap_16) :: (82, .slice (some ⟨g16, 0, none⟩) (32 + 1) cap_16) :: (81, .slice (some ⟨g15, 0, none⟩) 1 1) :: (80, .int .u8 (((e + 1 : Nat) : Int) % 256)) :: (79, .int .i64 ((e + 1 : Nat) : Int)) :: (78, .slice (some ⟨gx, 0, none⟩) 32 cx) :: (63, .bool false) :: (62, .int .i64 (32 : Int)) :: (2, .int .i64 (N : Int)) :: (8, .slice (some ⟨g3, 0, none⟩) (n1 + 1) cap_3) :: (10, .slice (some ⟨g9, 0, none⟩) 32 cap_9) :: (11, .slice (some ⟨go, 0, none⟩) (32 * e) co) :: (12, .slice (some ⟨gl, 0, none⟩) 32 cl) :: (13, .int .i64 ((e + 1 : Nat) : Int)) :: (14, .slice (some ⟨gx, 0, none⟩) 32 cx) :: (15, .int .i64 (32 : Int)) :: l_2), rfl, (by exact hl_2), (Eq.trans (Eq.trans (Eq.trans (Eq.trans (Eq.trans (fr_dup _ _ 13 _ (by exact hl_2) (by rfl) (by exact (congrArg (Value.int .i64) (by omega)))).symm (fr_dup _ _ 12 _ (by exact hl_2) (by rfl) (by rfl)).symm) (fr_dup _ _ 11 _ (by exact hl_2) (by rfl) (by rfl)).symm) (fr_dup _ _ 10 _ (by exact hl_2) (by rfl) (by rfl)).symm) (fr_dup _ _ 8 _ (by exact hl_2) (by rfl) (by rfl)).symm) (fr_dup _ _ 2 _ (by exact hl_2) (by rfl) (by rfl)).symm), by omega, hn_19.list (by rw [outB, lastB, List.append_assoc]; rfl) rfl, hn_18.list (by rw [lastB, List.append_assoc]; rfl) rfl, ((hw21.sub (List.Sublist.cons_cons _ (List.Sublist.cons_cons _ (List.Sublist.cons _ (List.Sublist.cons _ (List.Sublist.cons _ (List.Sublist.cons_cons _ (List.Sublist.cons_cons _ (List.Sublist.refl _))))))))).perm (List.Perm.swap _ _ _))⟩
      omega
  ·
    refine wp_seq ?_
    refine seq_plain hw0_1 [0, 1, 2, 3] (by rfl) ?_
    refine L_val (.slice (some ⟨go, 0, none⟩) (32 * e) co) (by rfl) (by exact hl_1) (gives_value _ fun _ => by rfl) ?_
    refine L_val (.int .i64 (((32 * e) : Nat) : Int)) (by rfl) (by exact hl_1) (gives_len _ (32 * e) co und_u8s (by rfl)) ?_
    refine L_val (.int .i64 (N : Int)) (by rfl) (by exact hl_1) (gives_value _ fun _ => by rfl) ?_
    refine L_val (.bool false) (by rfl) (by exact hl_1) (gives_lss (k := .i64) ((((32 * e) : Nat) : Int)) ((N : Int)) false (by rfl) (by rfl) (decide_eq_false (by omega))) ?_
    refine L_end ?_
    intro w22 hw22
    refine wp_cond_false (fr_at _ _ (by exact hl_1) _) ?_
    refine wp_exit ?_
    have heN : e = (N + 31) / 32 := by omega
    change Code.wp _ _ _ _ _
    change Code.wp _ _ _ _ _
    refine seq_plain hw22 [0, 1, 2, 3, 4] (by rfl) ?_
    refine L_val (.slice (some ⟨go, 0, none⟩) (32 * e) co) (by rfl) (by exact hl_1) (gives_value _ fun _ => by rfl) ?_
    refine L_val (.int .i64 (N : Int)) (by rfl) (by exact hl_1) (gives_value _ fun _ => by rfl) ?_
    refine L_val (.slice (some ⟨go, 0, none⟩) N co) (by rfl) (by exact hl_1) (gives_slice_to go (32 * e) co N ((N : Int)) (by rfl) (by rfl) und_u8s u8_sz rfl (by have := ho.le; omega)) ?_
    refine L_val (.slice (some ⟨go, 0, none⟩) N co) (by rfl) (by exact hl_1) (gives_value _ fun _ => by rfl) ?_
    refine L_val (.int .i64 0) (by rfl) (by exact hl_1) (gives_value _ fun _ => by rfl) ?_
    refine L_end ?_
    intro w23 hw23
    refine wp_ret ?_
    change bodyPost _ _ _ Exit.ret _ _
    refine (ret_tmp_tmpX (by rfl) (by exact hl_1) (by rfl) (by rfl) ⟨go, co, so, rfl, (ho.cutTo (by omega)).list (by rw [expandL_bytes, heN]) rfl, hw23.ge 1 (by rfl), hw23.blk 1 (by rfl), hw23.below⟩)
theorem x_ref (A0 : Option Addr) (n0 c0 : Nat) (bs0 : List Int) (A1 : Option Addr) (n1 c1 : Nat) (bs1 : List Int) (N : Nat) (v : World) (hr0 : Reads v v.heap.size A0 n0 (bs0.map (Value.int .u8))) (hr1 : Reads v v.heap.size A1 n1 (bs1.map (Value.int .u8))) (hgl : Glob v) (h2 : 3 ≤ v.heap.size) (hn0 : n0 ≤ 1000000) (hn1 : n1 ≤ 1000000) (hN : N ≤ 8160) : RetsT2 11 #[.slice A0 n0 c0, .slice A1 n1 c1, .int .i64 (N : Int)] v N (expandL bs0 bs1 N) := by
  by_cases hc : 255 < n1
  · exact x_ref_long A0 n0 c0 bs0 A1 n1 c1 bs1 N v hr0 hr1 hgl h2 hn0 hn1 hN hc
  · exact x_ref_short A0 n0 c0 bs0 A1 n1 c1 bs1 N v hr0 hr1 hgl h2 hn0 hn1 hN (by omega)
end Go.Proofs.YtialfoccalobpaaDoor
