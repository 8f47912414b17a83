/-
  Layer 11: Expand: the walk.
-/
import Derived.Test.YtialfoccalobpaaDoorWCXmC
namespace Go.Proofs.YtialfoccalobpaaDoor
set_option linter.unusedSimpArgs false
set_option linter.unusedVariables false
open Go.RowKit
attribute [local irreducible] wpL wpF fr Code.wp bodyPost
section
variable {P : Program} {fn : Func} {E : Ending → World → Prop} {w : World} {n : Nat} {sl : List (Nat × Value)}
theorem ret_tmp_tmpX {s s' : Nat} {u u' : Value} (hres : fn.results = #[.tmp s, .tmp s']) (hl : inFr n sl = true) (hs : look sl s = u) (hs' : look sl s' = u') (hE : E (.returned (.tuple #[u, u'])) w) : bodyPost P fn E .ret (fr n sl) w := by
  refine bodyPost_ret (v := .tuple #[u, u']) ?_ (fr_defers n sl) hE
  simp [results, hres, fr_at n sl hl, hs, hs']
end
theorem shr8_i64 (a : Int) : a.fdiv (2 ^ (min ((8 : Int)).toNat IntKind.i64.bits)) = a / 256 := by
  have e : (2 : Int) ^ (min ((8 : Int)).toNat IntKind.i64.bits) = 256 := by decide
  rw [e, Int.fdiv_eq_ediv_of_nonneg _ (by omega)]
set_option maxRecDepth 100000 in
set_option maxHeartbeats 4000000 in
theorem x_expand (A0 : Option Addr) (n0 c0 : Nat) (bs0 : List Int) (A1 : Option Addr) (n1 c1 : Nat) (bs1 : List Int) (N : Nat) (v : World) (hr0 : Reads v v.heap.size A0 n0 (bs0.map (Value.int .u8))) (hnc0 : n0 ≤ c0) (hr1 : Reads v v.heap.size A1 n1 (bs1.map (Value.int .u8))) (hnc1 : n1 ≤ c1) (hgl : Glob v) (h2 : 3 ≤ v.heap.size) (hn0 : n0 ≤ 1000000) (hn1 : n1 ≤ 1000000) (hN : N ≤ 8160) : RetsT 52 #[.slice A0 n0 c0, .slice A1 n1 c1, .int .i64 (N : Int)] v N (expandL bs0 bs1 N) := by
  have hl0 : bs0.length = n0 := by simpa using hr0.1
  have hl1 : bs1.length = n1 := by simpa using hr1.1
  refine calls_fr3 Tryd.func52 rfl (by rfl : _ = 64) (by rfl) ?_
  have hw := Hbl.nil v
  refine seq_plain hw [0, 1] (by rfl) ?_
  refine L_val (.slice none 0 0) (by rfl) (by rfl) (gives_value _ fun _ => by rfl) ?_
  refine L_val (.int .i64 0) (by rfl) (by rfl) (gives_value _ fun _ => by rfl) ?_
  refine L_end ?_
  intro w1 hw1
  refine wp_seq ?_
  refine seq_plain hw1 [0, 1, 2, 3, 4, 5] (by rfl) ?_
  refine L_val (.int .i64 (N : Int)) (by rfl) (by rfl) (gives_value _ fun _ => by rfl) ?_
  refine L_val (.bool false) (by rfl) (by rfl) (gives_lss (k := .i64) ((N : Int)) (0) false (by rfl) (by rfl) (decide_eq_false (by omega))) ?_
  refine L_val (.bool false) (by rfl) (by rfl) (gives_value _ fun _ => by rfl) ?_
  refine L_val_g (dj := 16) (.int .i64 (N : Int)) (by rfl) (by rfl) (by rfl) (by rfl) (by rfl) (gives_value _ fun _ => by rfl) ?_
  refine L_val_g (dj := 16) (.bool false) (by rfl) (by rfl) (by rfl) (by rfl) (by rfl) (gives_gtr (k := .i64) ((N : Int)) (8160) false (by rfl) (by rfl) (decide_eq_false (by omega))) ?_
  refine L_val (.bool false) (by rfl) (by rfl) (gives_value _ fun _ => by rfl) ?_
  refine L_end ?_
  intro w2 hw2
  refine wp_cond_false (fr_at _ _ (by rfl) _) ?_
  refine wp_skip ?_
  change Code.wp _ _ _ _ _
  refine seq_plain hw2 [0, 1, 2] (by rfl) ?_
  refine L_val (.slice A1 n1 c1) (by rfl) (by rfl) (gives_value _ fun _ => by rfl) ?_
  refine L_freshP (vl := [.slice A1 n1 c1]) 5 .u8 ((tagT bs1).length + 1) (tagE bs1) (by rfl) (by rfl) Want.none (by kernel_rfl) (by rfl) (fun w h => x_ending _ _ _ bs1 w ((hr1.below h.below).more h.below.size) hnc1 (hgl.below h.below h2) (Nat.le_trans h2 h.below.size) (by omega)) ?_; intro g1 cap_1 cs_1 hn_1
  refine L_val (.slice (some ⟨g1, 0, none⟩) ((tagT bs1).length + 1) cap_1) (by rfl) (by rfl) (gives_value _ fun _ => by rfl) ?_
  refine L_end ?_
  intro w3 hw3
  refine seq_plain hw3 [0, 1, 2, 3, 4, 5, 6, 7, 8, 9, 10, 11, 12] (by rfl) ?_
  refine L_makeC 64 64 _ (by rfl) (by rfl) und_u8s (by rfl) (by rfl) (by rfl) (by rfl) (by exact congrArg (Value.int .i64) (by omega : (64) = ((64 : Nat) : Int))) (by exact congrArg (Value.int .i64) (by omega : (64) = ((64 : Nat) : Int))) (by omega) (by omega) ?_; intro g2 cs_2 hn_2
  refine L_val (.slice A0 n0 c0) (by rfl) (by rfl) (gives_value _ fun _ => by rfl) ?_
  refine L_val (.int .i64 (N : Int)) (by rfl) (by rfl) (gives_value _ fun _ => by rfl) ?_
  refine L_val (.int .i64 ((N : Int) / 256)) (by rfl) (by rfl) (gives_shr (k := .i64) (k2 := .u64) (N : Int) 8 ((N : Int) / 256) (by rfl) (by rfl) (by decide) (shr8_i64 _)) ?_
  refine L_val (.int .u8 (((N : Int) / 256) % 256)) (by rfl) (by rfl) (gives_conv (k2 := .u8) ((N : Int) / 256) (((N : Int) / 256) % 256) (by rfl) und_int und_u8' (u8wrap _)) ?_
  refine L_val (.int .i64 (N : Int)) (by rfl) (by rfl) (gives_value _ fun _ => by rfl) ?_
  refine L_val (.int .u8 ((N : Int) % 256)) (by rfl) (by rfl) (gives_conv (k2 := .u8) ((N : Int)) ((N : Int) % 256) (by rfl) und_int und_u8' (u8wrap _)) ?_
  refine L_buildV 3 (.int .u8 0) [.int .u8 (((N : Int) / 256) % 256), .int .u8 ((N : Int) % 256), .int .u8 0] (by rfl) (by rfl) Want.none und_u8s u8_zs (by rfl) (by rfl) (by rfl) (by intro u hu; simp only [List.mem_cons, List.not_mem_nil, or_false] at hu; rcases hu with rfl | rfl | rfl <;> rfl) (by rfl) (by rfl) ?_; intro g3
  have hn_3 : Nms .u8 ([.int .u8 (((N : Int) / 256) % 256), .int .u8 ((N : Int) % 256), .int .u8 0] : List Value).toArray 3 3 [((N : Int) / 256) % 256, (N : Int) % 256, 0] := Nms.all (by rfl) (by rfl) (by omega)
  refine L_val (.slice (some ⟨g1, 0, none⟩) ((tagT bs1).length + 1) cap_1) (by rfl) (by rfl) (gives_value _ fun _ => by rfl) ?_
  refine L_buildV 4 (.slice none 0 0) [.slice (some ⟨g2, 0, none⟩) 64 64, .slice A0 n0 c0, .slice (some ⟨g3, 0, none⟩) 3 3, .slice (some ⟨g1, 0, none⟩) ((tagT bs1).length + 1) cap_1] (by rfl) (by rfl) Want.none und_pss slice_zs (by rfl) (by rfl) (by rfl) (by intro u hu; simp only [List.mem_cons, List.not_mem_nil, or_false] at hu; rcases hu with rfl | rfl | rfl | rfl <;> rfl) (by rfl) (by rfl) ?_; intro g4
  refine L_val (.agg (agg64 (dw (digest ((List.replicate 64 0) ++ (bs0 ++ (([((N : Int) / 256) % 256, (N : Int) % 256, 0]) ++ (tagE bs1))))) 32))) (by rfl) (by rfl) (gives_call (vl := [.slice (some ⟨g4, 0, none⟩) 4 4]) (by kernel_rfl) (by rfl) (fun w h => x_digestOf _ _ _ ([List.replicate 64 0, bs0, [((N : Int) / 256) % 256, (N : Int) % 256, 0], tagE bs1]) ((List.replicate 64 0) ++ (bs0 ++ (([((N : Int) / 256) % 256, (N : Int) % 256, 0]) ++ (tagE bs1)))) w (by simp) (pieces_lit (ps := [List.replicate 64 0, bs0, [((N : Int) / 256) % 256, (N : Int) % 256, 0], tagE bs1]) (h.blk 0 (by rfl)) (pvc (piece_of (hn_2.reads (h.blk 2 (by rfl))) (Nat.le_refl _)) (pvc (piece_of ((hr0.below h.below).more h.below.size) hnc0) (pvc (piece_of (hn_3.reads (h.blk 1 (by rfl))) (Nat.le_refl _)) (pvc (piece_of (hn_1.reads (h.blk 3 (by rfl))) (hn_1.le)) pvn)))) rfl) (hgl.below h.below h2) (Nat.le_trans h2 h.below.size) (by omega) (by simp only [List.length_append, List.length_replicate, List.length_cons, List.length_nil, bw4_len, tagE_len, hl0]; have := tagT_len bs1; omega))) ?_
  refine L_alloc _ (by rfl) (by rfl) z_q4 (agg64 ([0, 0, 0, 0] : List Int)) rfl ?_; intro g5
  refine L_store (t := 148) 0 g5 (agg64 ([0, 0, 0, 0] : List Int)) (agg64 (dw (digest ((List.replicate 64 0) ++ (bs0 ++ (([((N : Int) / 256) % 256, (N : Int) % 256, 0]) ++ (tagE bs1))))) 32)) (by rfl) (by rfl) (by rfl) (by rfl) (by rfl) (hi_q4 _ (dw_len _ _)) (by rw [agg64_size, agg64_size, show (dw (digest ((List.replicate 64 0) ++ (bs0 ++ (([((N : Int) / 256) % 256, (N : Int) % 256, 0]) ++ (tagE bs1))))) 32).length = 4 from (dw_len _ _), show (([0, 0, 0, 0] : List Int)).length = 4 from (by rfl)]) (agg64_one _) ?_
  simp only [List.set_cons_zero, List.set_cons_succ]
  refine L_end ?_
  intro w4 hw4
  refine seq_plain hw4 [0, 1, 2, 3, 4] (by rfl) ?_
  refine L_val (.int .i64 (N : Int)) (by rfl) (by rfl) (gives_value _ fun _ => by rfl) ?_
  refine L_val (.int .i64 ((N : Int) + 32)) (by rfl) (by rfl) (gives_add (k := .i64) ((N : Int)) (32) ((N : Int) + 32) (by rfl) (by rfl) (IntWalk.i64_in _ (by omega))) ?_
  refine L_val (.int .i64 (((N : Int) + 32) - 1)) (by rfl) (by rfl) (gives_sub (k := .i64) ((N : Int) + 32) (1) (((N : Int) + 32) - 1) (by rfl) (by rfl) (IntWalk.i64_in _ (by omega))) ?_
  refine L_val (.int .i64 ((((N : Int) + 32) - 1) / 32)) (by rfl) (by rfl) (gives_quo (k := .i64) (((N : Int) + 32) - 1) (32) ((((N : Int) + 32) - 1) / 32) (by rfl) (by rfl) (by omega) (IntWalk.i64_quo _ _ (by omega))) ?_
  refine L_val (.int .i64 ((((N : Int) + 32) - 1) / 32)) (by rfl) (by rfl) (gives_value _ fun _ => by rfl) ?_
  refine L_end ?_
  intro w5 hw5
  refine seq_plain hw5 [0, 1, 2, 3] (by rfl) ?_
  refine L_val (.int .i64 ((((N : Int) + 32) - 1) / 32)) (by rfl) (by rfl) (gives_value _ fun _ => by rfl) ?_
  refine L_val (.int .i64 (((((N : Int) + 32) - 1) / 32) * 32)) (by rfl) (by rfl) (gives_mul (k := .i64) ((((N : Int) + 32) - 1) / 32) (32) (((((N : Int) + 32) - 1) / 32) * 32) (by rfl) (by rfl) (IntWalk.i64_in _ (by omega))) ?_
  refine L_makeC 0 (((N + 31) / 32) * 32) _ (by rfl) (by rfl) und_u8s (by rfl) (by rfl) (by rfl) (by rfl) (by exact congrArg (Value.int .i64) (by omega : (0) = ((0 : Nat) : Int))) (by exact congrArg (Value.int .i64) (by omega : (((((N : Int) + 32) - 1) / 32) * 32) = ((((N + 31) / 32) * 32 : Nat) : Int))) (by omega) (by omega) ?_; intro g6 cs_4 hn_4
  refine L_val (.slice (some ⟨g6, 0, none⟩) 0 (((N + 31) / 32) * 32)) (by rfl) (by rfl) (gives_value _ fun _ => by rfl) ?_
  refine L_end ?_
  intro w6 hw6
  refine seq_plain hw6 [0] (by rfl) ?_
  refine L_alloc _ (by rfl) (by rfl) z_q4 (agg64 ([0, 0, 0, 0] : List Int)) rfl ?_; intro g7
  refine L_end ?_
  intro w7 hw7
  refine wp_seq ?_
  refine seq_plain hw7 [0, 1] (by rfl) ?_
  refine L_val (.int .i64 ((((N : Int) + 32) - 1) / 32)) (by rfl) (by rfl) (gives_value _ fun _ => by rfl) ?_
  refine L_val (.int .i64 0) (by rfl) (by rfl) (gives_value _ fun _ => by rfl) ?_
  refine L_end ?_
  intro w8 hw8
  refine wp_block ?_
  refine loop_down (fun (r_ : Nat) a w => ∃ (i : Nat) (go : Nat) (co : Nat) (so : Array Value) (l_1 : List (Nat × Value)), (N + 31) / 32 - i = r_ ∧ inFr 64 l_1 = true ∧ a = fr 64 ((2, .int .i64 (N : Int)) :: (8, .slice (some ⟨g1, 0, none⟩) ((tagT bs1).length + 1) cap_1) :: (9, .pointer (some ⟨g5, 0, none⟩)) :: (11, .slice (some ⟨go, 0, none⟩) (32 * i) co) :: (12, .pointer (some ⟨g7, 0, none⟩)) :: (40, .int .i64 (((N + 31) / 32 : Nat) : Int)) :: (41, .int .i64 (i : Int)) :: l_1) ∧ (i ≤ (N + 31) / 32) ∧ (Nms .u8 so co (32 * i) (outW (headW bs0 bs1 N) (tagE bs1) i)) ∧ Hbl v [(g7, 148, (agg64 (aheadW (headW bs0 bs1 N) (tagE bs1) i))), (go, 5, so), (g5, 148, (agg64 (headW bs0 bs1 N))), (g1, 5, cs_1)] w) ?_ _ _ _ ⟨0, g6, ((N + 31) / 32) * 32, cs_4, [(41, .int .i64 0), (40, .int .i64 ((((N : Int) + 32) - 1) / 32)), (12, .pointer (some ⟨g7, 0, none⟩)), (11, .slice (some ⟨g6, 0, none⟩) 0 (((N + 31) / 32) * 32)), (39, .slice (some ⟨g6, 0, none⟩) 0 (((N + 31) / 32) * 32)), (38, .int .i64 (((((N : Int) + 32) - 1) / 32) * 32)), (37, .int .i64 ((((N : Int) + 32) - 1) / 32)), (10, .int .i64 ((((N : Int) + 32) - 1) / 32)), (36, .int .i64 ((((N : Int) + 32) - 1) / 32)), (35, .int .i64 (((N : Int) + 32) - 1)), (34, .int .i64 ((N : Int) + 32)), (33, .int .i64 (N : Int)), (9, .pointer (some ⟨g5, 0, none⟩)), (32, .agg (agg64 (dw (digest ((List.replicate 64 0) ++ (bs0 ++ (([((N : Int) / 256) % 256, (N : Int) % 256, 0]) ++ (tagE bs1))))) 32))), (31, .slice (some ⟨g4, 0, none⟩) 4 4), (30, .slice (some ⟨g1, 0, none⟩) ((tagT bs1).length + 1) cap_1), (29, .slice (some ⟨g3, 0, none⟩) 3 3), (28, .int .u8 ((N : Int) % 256)), (27, .int .i64 (N : Int)), (26, .int .u8 (((N : Int) / 256) % 256)), (25, .int .i64 ((N : Int) / 256)), (24, .int .i64 (N : Int)), (23, .slice A0 n0 c0), (22, .slice (some ⟨g2, 0, none⟩) 64 64), (8, .slice (some ⟨g1, 0, none⟩) ((tagT bs1).length + 1) cap_1), (21, .slice (some ⟨g1, 0, none⟩) ((tagT bs1).length + 1) cap_1), (20, .slice A1 n1 c1), (19, .bool false), (18, .bool false), (17, .int .i64 (N : Int)), (16, .bool false), (15, .bool false), (14, .int .i64 (N : Int)), (7, .int .i64 0), (6, .slice none 0 0), (2, .int .i64 (N : Int)), (1, .slice A1 n1 c1), (0, .slice A0 n0 c0)], rfl, (by rfl), (Eq.trans (Eq.trans (Eq.trans (Eq.trans (Eq.trans (Eq.trans (fr_dup _ _ 41 _ (by rfl) (by rfl) (by rfl)).symm (fr_dup _ _ 40 _ (by rfl) (by rfl) (by exact (congrArg (Value.int .i64) (by omega)))).symm) (fr_dup _ _ 12 _ (by rfl) (by rfl) (by rfl)).symm) (fr_dup _ _ 11 _ (by rfl) (by rfl) (by rfl)).symm) (fr_dup _ _ 9 _ (by rfl) (by rfl) (by rfl)).symm) (fr_dup _ _ 8 _ (by rfl) (by rfl) (by rfl)).symm) (fr_dup _ _ 2 _ (by rfl) (by rfl) (by rfl)).symm), Nat.zero_le _, hn_4.list (by rfl) rfl, (hw8.sub (List.Sublist.cons_cons _ (List.Sublist.cons_cons _ (List.Sublist.cons_cons _ (List.Sublist.cons _ (List.Sublist.cons _ (List.Sublist.cons _ (List.Sublist.cons_cons _ (List.Sublist.refl _)))))))))⟩
  rintro r_1 a0 w0_1 ⟨i, go, co, so, l_1, hr_1, hl_1, rfl, hi, ho, hw0_1⟩
  by_cases hlt : i < (N + 31) / 32
  ·
    refine seq_plain hw0_1 [0] (by rfl) ?_
    refine L_val (.bool true) (by rfl) (by exact hl_1) (gives_lss (k := .i64) ((i : Int)) ((((N + 31) / 32 : Nat) : Int)) true (by rfl) (by rfl) (decide_eq_true (by omega))) ?_
    refine L_end ?_
    intro w9 hw9
    refine wp_seq ?_
    refine wp_cond_true (fr_at _ _ (by exact hl_1) _) ?_
    refine wp_skip ?_
    change Code.wp _ _ _ _ _
    refine wp_seq ?_
    refine wp_block ?_
    refine seq_plain hw9 [0, 1] (by rfl) ?_
    refine L_val (.int .i64 (i : Int)) (by rfl) (by exact hl_1) (gives_value _ fun _ => by rfl) ?_
    refine L_val (.int .i64 (i : Int)) (by rfl) (by exact hl_1) (gives_value _ fun _ => by rfl) ?_
    refine L_end ?_
    intro w10 hw10
    refine seq_plain hw10 [0, 1, 2, 3, 4, 5, 6, 7, 8, 9, 10, 11] (by rfl) ?_
    refine L_val (.agg (agg64 (headW bs0 bs1 N))) (by rfl) (by exact hl_1) (gives_load g5 0 148 (agg64 (headW bs0 bs1 N)) (agg64 (headW bs0 bs1 N)) _ (by rfl) (fun _ h => h.blk 2 (by rfl)) (Sl.refl _) Tryd.underlying148 (by rfl) (hi_q4 _ (dw_len _ _))) ?_
    refine L_val (.agg (agg64 (aheadW (headW bs0 bs1 N) (tagE bs1) i))) (by rfl) (by exact hl_1) (gives_load g7 0 148 (agg64 (aheadW (headW bs0 bs1 N) (tagE bs1) i)) (agg64 (aheadW (headW bs0 bs1 N) (tagE bs1) i)) _ (by rfl) (fun _ h => h.blk 0 (by rfl)) (Sl.refl _) Tryd.underlying148 (by rfl) (hi_q4 _ (aheadW_len _ _ _))) ?_
    refine L_val (.agg (agg64 (ow (headW bs0 bs1 N) (aheadW (headW bs0 bs1 N) (tagE bs1) i) 4))) (by rfl) (by exact hl_1) (gives_call (vl := [.agg (agg64 (headW bs0 bs1 N)), .agg (agg64 (aheadW (headW bs0 bs1 N) (tagE bs1) i))]) (by kernel_rfl) (by rfl) (fun w h => x_over _ _ w (dw_len _ _) (aheadW_len _ _ _))) ?_
    refine L_freshP (vl := [.agg (agg64 (ow (headW bs0 bs1 N) (aheadW (headW bs0 bs1 N) (tagE bs1) i) 4))]) 5 .u8 32 (bw4 (ow (headW bs0 bs1 N) (aheadW (headW bs0 bs1 N) (tagE bs1) i) 4) 4) (by rfl) (by exact hl_1) Want.none (by kernel_rfl) (by rfl) (fun w h => x_bytes _ w ((ow_len _ _ _).trans (dw_len _ _))) ?_; intro g8 cap_5 cs_5 hn_5
    refine L_val (.int .i64 (i : Int)) (by rfl) (by exact hl_1) (gives_value _ fun _ => by rfl) ?_
    refine L_val (.int .i64 ((i : Int) + 1)) (by rfl) (by exact hl_1) (gives_add (k := .i64) ((i : Int)) (1) ((i : Int) + 1) (by rfl) (by rfl) (IntWalk.i64_in _ (by omega))) ?_
    refine L_val (.int .u8 (((i : Int) + 1) % 256)) (by rfl) (by exact hl_1) (gives_conv (k2 := .u8) ((i : Int) + 1) (((i : Int) + 1) % 256) (by rfl) und_int und_u8' (u8wrap _)) ?_
    refine L_buildV 1 (.int .u8 0) [.int .u8 (((i : Int) + 1) % 256)] (by rfl) (by exact hl_1) Want.none und_u8s u8_zs (by rfl) (by rfl) (by rfl) (by intro u hu; simp only [List.mem_cons, List.not_mem_nil, or_false] at hu; rcases hu with rfl <;> rfl) (by rfl) (by rfl) ?_; intro g9
    have hn_6 : Nms .u8 ([.int .u8 (((i : Int) + 1) % 256)] : List Value).toArray 1 1 [((i : Int) + 1) % 256] := Nms.all (by rfl) (by rfl) (by omega)
    refine L_val (.slice (some ⟨g1, 0, none⟩) ((tagT bs1).length + 1) cap_1) (by rfl) (by exact hl_1) (gives_value _ fun _ => by rfl) ?_
    refine L_buildV 3 (.slice none 0 0) [.slice (some ⟨g8, 0, none⟩) 32 cap_5, .slice (some ⟨g9, 0, none⟩) 1 1, .slice (some ⟨g1, 0, none⟩) ((tagT bs1).length + 1) cap_1] (by rfl) (by exact hl_1) Want.none und_pss slice_zs (by rfl) (by rfl) (by rfl) (by intro u hu; simp only [List.mem_cons, List.not_mem_nil, or_false] at hu; rcases hu with rfl | rfl | rfl <;> rfl) (by rfl) (by rfl) ?_; intro g10
    refine L_val (.agg (agg64 (dw (digest ((bw4 (ow (headW bs0 bs1 N) (aheadW (headW bs0 bs1 N) (tagE bs1) i) 4) 4) ++ (([((i : Int) + 1) % 256]) ++ (tagE bs1)))) 32))) (by rfl) (by exact hl_1) (gives_call (vl := [.slice (some ⟨g10, 0, none⟩) 3 3]) (by kernel_rfl) (by rfl) (fun w h => x_digestOf _ _ _ ([bw4 (ow (headW bs0 bs1 N) (aheadW (headW bs0 bs1 N) (tagE bs1) i) 4) 4, [((i : Int) + 1) % 256], tagE bs1]) ((bw4 (ow (headW bs0 bs1 N) (aheadW (headW bs0 bs1 N) (tagE bs1) i) 4) 4) ++ (([((i : Int) + 1) % 256]) ++ (tagE bs1))) w (by simp) (pieces_lit (ps := [bw4 (ow (headW bs0 bs1 N) (aheadW (headW bs0 bs1 N) (tagE bs1) i) 4) 4, [((i : Int) + 1) % 256], tagE bs1]) (h.blk 0 (by rfl)) (pvc (piece_of (hn_5.reads (h.blk 2 (by rfl))) (hn_5.le)) (pvc (piece_of (hn_6.reads (h.blk 1 (by rfl))) (Nat.le_refl _)) (pvc (piece_of (hn_1.reads (h.blk 6 (by rfl))) (hn_1.le)) pvn))) rfl) (hgl.below h.below h2) (Nat.le_trans h2 h.below.size) (by omega) (by simp only [List.length_append, List.length_replicate, List.length_cons, List.length_nil, bw4_len, tagE_len, hl0]; have := tagT_len bs1; omega))) ?_
    refine L_store (t := 148) 3 g7 (agg64 (aheadW (headW bs0 bs1 N) (tagE bs1) i)) (agg64 (dw (digest ((bw4 (ow (headW bs0 bs1 N) (aheadW (headW bs0 bs1 N) (tagE bs1) i) 4) 4) ++ (([((i : Int) + 1) % 256]) ++ (tagE bs1)))) 32)) (by rfl) (by exact hl_1) (by rfl) (by rfl) (by rfl) (hi_q4 _ (dw_len _ _)) (by rw [agg64_size, agg64_size, show (dw (digest ((bw4 (ow (headW bs0 bs1 N) (aheadW (headW bs0 bs1 N) (tagE bs1) i) 4) 4) ++ (([((i : Int) + 1) % 256]) ++ (tagE bs1)))) 32).length = 4 from (dw_len _ _), show (aheadW (headW bs0 bs1 N) (tagE bs1) i).length = 4 from (aheadW_len _ _ _)]) (agg64_one _) ?_
    simp only [List.set_cons_zero, List.set_cons_succ]
    refine L_end ?_
    intro w11 hw11
    refine one_plain hw11 [0, 1, 2, 3, 4] (by rfl) ?_
    refine L_val (.slice (some ⟨go, 0, none⟩) (32 * i) co) (by rfl) (by exact hl_1) (gives_value _ fun _ => by rfl) ?_
    refine L_val (.agg (agg64 (dw (digest ((bw4 (ow (headW bs0 bs1 N) (aheadW (headW bs0 bs1 N) (tagE bs1) i) 4) 4) ++ (([((i : Int) + 1) % 256]) ++ (tagE bs1)))) 32))) (by rfl) (by exact hl_1) (gives_load g7 0 148 (agg64 (dw (digest ((bw4 (ow (headW bs0 bs1 N) (aheadW (headW bs0 bs1 N) (tagE bs1) i) 4) 4) ++ (([((i : Int) + 1) % 256]) ++ (tagE bs1)))) 32)) (agg64 (dw (digest ((bw4 (ow (headW bs0 bs1 N) (aheadW (headW bs0 bs1 N) (tagE bs1) i) 4) 4) ++ (([((i : Int) + 1) % 256]) ++ (tagE bs1)))) 32)) _ (by rfl) (fun _ h => h.blk 3 (by rfl)) (Sl.refl _) Tryd.underlying148 (by rfl) (hi_q4 _ (dw_len _ _))) ?_
    refine L_freshP (vl := [.agg (agg64 (dw (digest ((bw4 (ow (headW bs0 bs1 N) (aheadW (headW bs0 bs1 N) (tagE bs1) i) 4) 4) ++ (([((i : Int) + 1) % 256]) ++ (tagE bs1)))) 32))]) 5 .u8 32 (bw4 (dw (digest ((bw4 (ow (headW bs0 bs1 N) (aheadW (headW bs0 bs1 N) (tagE bs1) i) 4) 4) ++ (([((i : Int) + 1) % 256]) ++ (tagE bs1)))) 32) 4) (by rfl) (by exact hl_1) Want.none (by kernel_rfl) (by rfl) (fun w h => x_bytes _ w (dw_len _ _)) ?_; intro g11 cap_7 cs_7 hn_7
    refine L_push 5 go (32 * i) co 32 cap_7 1 (some ⟨g11, 0, none⟩) .u8 (.int .u8 0) (outW (headW bs0 bs1 N) (tagE bs1) i) (bw4 (dw (digest ((bw4 (ow (headW bs0 bs1 N) (aheadW (headW bs0 bs1 N) (tagE bs1) i) 4) 4) ++ (([((i : Int) + 1) % 256]) ++ (tagE bs1)))) 32) 4) so (by rfl) (by exact hl_1) Want.none und_u8s byte_info rfl (by rfl) (by rfl) (by rfl) ho (fun w h => (hn_7.reads (h.blk 0 (by rfl)))) (by omega) (by rfl) [(g11, 5, cs_7), (g10, 22, ([.slice (some ⟨g8, 0, none⟩) 32 cap_5, .slice (some ⟨g9, 0, none⟩) 1 1, .slice (some ⟨g1, 0, none⟩) ((tagT bs1).length + 1) cap_1] : List Value).toArray), (g9, 5, ([.int .u8 (((i : Int) + 1) % 256)] : List Value).toArray), (g8, 5, cs_5), (g7, 148, (agg64 (dw (digest ((bw4 (ow (headW bs0 bs1 N) (aheadW (headW bs0 bs1 N) (tagE bs1) i) 4) 4) ++ (([((i : Int) + 1) % 256]) ++ (tagE bs1)))) 32))), (g5, 148, (agg64 (headW bs0 bs1 N))), (g1, 5, cs_1)] (by rfl) ?_; intro g12 cap_8 cs_8 hn_8
    refine L_val (.slice (some ⟨g12, 0, none⟩) ((32 * i) + 32) cap_8) (by rfl) (by exact hl_1) (gives_value _ fun _ => by rfl) ?_
    refine L_end ?_
    intro w12 hw12
    change Code.wp _ _ _ _ _
    refine one_plain hw12 [0, 1] (by rfl) ?_
    refine L_val (.int .i64 ((i : Int) + 1)) (by rfl) (by exact hl_1) (gives_add (k := .i64) ((i : Int)) (1) ((i : Int) + 1) (by rfl) (by rfl) (IntWalk.i64_in _ (by omega))) ?_
    refine L_val (.int .i64 ((i : Int) + 1)) (by rfl) (by exact hl_1) (gives_value _ fun _ => by rfl) ?_
    refine L_end ?_
    intro w13 hw13
    change ∃ r' : Nat, r' < r_1 ∧ _
    refine ⟨_, ?_, i + 1, g12, cap_8, cs_8, ((41, .int .i64 ((i : Int) + 1)) :: (59, .int .i64 ((i : Int) + 1)) :: (11, .slice (some ⟨g12, 0, none⟩) ((32 * i) + 32) cap_8) :: (58, .slice (some ⟨g12, 0, none⟩) ((32 * i) + 32) cap_8) :: (57, .slice (some ⟨g11, 0, none⟩) 32 cap_7) :: (56, .agg (agg64 (dw (digest ((bw4 (ow (headW bs0 bs1 N) (aheadW (headW bs0 bs1 N) (tagE bs1) i) 4) 4) ++ (([((i : Int) + 1) % 256]) ++ (tagE bs1)))) 32))) :: (55, .slice (some ⟨go, 0, none⟩) (32 * i) co) :: (54, .agg (agg64 (dw (digest ((bw4 (ow (headW bs0 bs1 N) (aheadW (headW bs0 bs1 N) (tagE bs1) i) 4) 4) ++ (([((i : Int) + 1) % 256]) ++ (tagE bs1)))) 32))) :: (53, .slice (some ⟨g10, 0, none⟩) 3 3) :: (52, .slice (some ⟨g1, 0, none⟩) ((tagT bs1).length + 1) cap_1) :: (51, .slice (some ⟨g9, 0, none⟩) 1 1) :: (50, .int .u8 (((i : Int) + 1) % 256)) :: (49, .int .i64 ((i : Int) + 1)) :: (48, .int .i64 (i : Int)) :: (47, .slice (some ⟨g8, 0, none⟩) 32 cap_5) :: (46, .agg (agg64 (ow (headW bs0 bs1 N) (aheadW (headW bs0 bs1 N) (tagE bs1) i) 4))) :: (45, .agg (agg64 (aheadW (headW bs0 bs1 N) (tagE bs1) i))) :: (44, .agg (agg64 (headW bs0 bs1 N))) :: (13, .int .i64 (i : Int)) :: (43, .int .i64 (i : Int)) :: (42, .bool true) :: (2, .int .i64 (N : Int)) :: (8, .slice (some ⟨g1, 0, none⟩) ((tagT bs1).length + 1) cap_1) :: (9, .pointer (some ⟨g5, 0, none⟩)) :: (11, .slice (some ⟨go, 0, none⟩) (32 * i) co) :: (12, .pointer (some ⟨g7, 0, none⟩)) :: (40, .int .i64 (((N + 31) / 32 : Nat) : Int)) :: (41, .int .i64 (i : Int)) :: l_1), rfl, (by exact hl_1), (Eq.trans (Eq.trans (Eq.trans (Eq.trans (Eq.trans (Eq.trans (fr_dup _ _ 41 _ (by exact hl_1) (by rfl) (by rfl)).symm (fr_dup _ _ 40 _ (by exact hl_1) (by rfl) (by rfl)).symm) (fr_dup _ _ 12 _ (by exact hl_1) (by rfl) (by rfl)).symm) (fr_dup _ _ 11 _ (by exact hl_1) (by rfl) (by rfl)).symm) (fr_dup _ _ 9 _ (by exact hl_1) (by rfl) (by rfl)).symm) (fr_dup _ _ 8 _ (by exact hl_1) (by rfl) (by rfl)).symm) (fr_dup _ _ 2 _ (by exact hl_1) (by rfl) (by rfl)).symm), by omega, hn_8.list (by rfl) rfl, ((hw13.sub (List.Sublist.cons_cons _ (List.Sublist.cons _ (List.Sublist.cons _ (List.Sublist.cons _ (List.Sublist.cons _ (List.Sublist.cons_cons _ (List.Sublist.cons_cons _ (List.Sublist.cons_cons _ (List.Sublist.refl _)))))))))).perm (List.Perm.swap _ _ _))⟩
    omega
  ·
    refine seq_plain hw0_1 [0] (by rfl) ?_
    refine L_val (.bool false) (by rfl) (by exact hl_1) (gives_lss (k := .i64) ((i : Int)) ((((N + 31) / 32 : Nat) : Int)) false (by rfl) (by rfl) (decide_eq_false (by omega))) ?_
    refine L_end ?_
    intro w14 hw14
    refine wp_seq ?_
    refine wp_cond_false (fr_at _ _ (by exact hl_1) _) ?_
    refine wp_exit ?_
    have hcnt : i = (N + 31) / 32 := by omega
    change Code.wp _ _ _ _ _
    change Code.wp _ _ _ _ _
    refine seq_plain hw14 [0, 1, 2, 3, 4, 5] (by rfl) ?_
    refine L_val (.slice (some ⟨go, 0, none⟩) (32 * i) co) (by rfl) (by exact hl_1) (gives_value _ fun _ => by rfl) ?_
    refine L_val (.int .i64 (N : Int)) (by rfl) (by exact hl_1) (gives_value _ fun _ => by rfl) ?_
    refine L_val (.int .i64 (N : Int)) (by rfl) (by exact hl_1) (gives_value _ fun _ => by rfl) ?_
    refine L_val (.slice (some ⟨go, 0, none⟩) N N) (by rfl) (by exact hl_1) (gives_slice3 go (32 * i) co N (by rfl) (by rfl) (by rfl) und_u8s u8_sz (by have := ho.le; omega)) ?_
    refine L_val (.slice (some ⟨go, 0, none⟩) N N) (by rfl) (by exact hl_1) (gives_value _ fun _ => by rfl) ?_
    refine L_val (.int .i64 0) (by rfl) (by exact hl_1) (gives_value _ fun _ => by rfl) ?_
    refine L_end ?_
    intro w15 hw15
    refine wp_ret ?_
    change bodyPost _ _ _ Exit.ret _ _
    refine (ret_tmp_tmpX (by rfl) (by exact hl_1) (by rfl) (by rfl) ⟨go, co, so, rfl, (ho.cutTo (by omega)).list (by rw [hcnt]; rfl) rfl, hw15.ge 1 (by rfl), hw15.blk 1 (by rfl), hw15.below⟩)
end Go.Proofs.YtialfoccalobpaaDoor
