/-
  The reference's keyed digest and keys: the walks.
-/
import Derived.Test.YtgkfkfodeooogaaDoorShSumR
namespace Go.Proofs.YtgkfkfodeooogaaDoor
set_option linter.unusedSimpArgs false
set_option linter.unusedVariables false
open Go.RowKit
attribute [local irreducible] wpL wpF fr Code.wp bodyPost
set_option maxRecDepth 100000 in
set_option maxHeartbeats 4000000 in
theorem refmac_short (A0 : Option Addr) (n0 c0 : Nat) (bs0 : List Int) (A1 : Option Addr) (n1 c1 : Nat) (bs1 : List Int) (v : World) (hr0 : Reads v v.heap.size A0 n0 (bs0.map (Value.int .u8))) (hn0 : n0 ≤ 2000000) (hr1 : Reads v v.heap.size A1 n1 (bs1.map (Value.int .u8))) (hn1 : n1 ≤ 2000000) (hc : n0 ≤ 64) : RetsP 24 #[.slice A0 n0 c0, .slice A1 n1 c1] v 5 .u8 32 (mac bs0 bs1) := by
  have hlen0 : bs0.length = n0 := by simpa using hr0.1
  have hKl : (bs0).length = n0 := hlen0
  refine calls_fr2 Tryd.func24 rfl (by rfl : _ = 45) (by rfl) ?_
  have hw := Hbl.nil v
  refine seq_plain hw [0] (by rfl) ?_
  refine L_val (.slice none 0 0) (by rfl) (by rfl) (gives_value _ fun _ => by rfl) ?_
  refine L_end ?_
  intro w1 hw1
  refine wp_seq ?_
  refine seq_plain hw1 [0, 1, 2] (by rfl) ?_
  refine L_val (.slice A0 n0 c0) (by rfl) (by rfl) (gives_value _ fun _ => by rfl) ?_
  refine L_val (.int .i64 (n0 : Int)) (by rfl) (by rfl) (gives_len _ n0 c0 und_u8s (by rfl)) ?_
  refine L_val (.bool false) (by rfl) (by rfl) (gives_gtr (k := .i64) ((n0 : Int)) (64) false (by rfl) (by rfl) (decide_eq_false (by omega))) ?_
  refine L_end ?_
  intro w2 hw2
  refine wp_cond_false (fr_at _ _ (by rfl) _) ?_
  refine wp_skip ?_
  change Code.wp _ _ _ _ _
  refine seq_plain hw2 [0, 1] (by rfl) ?_
  refine L_build0 1 (by rfl) (by rfl) und_u8s u8_sz ?_; intro g1; have hn_1 := Nms.nil .u8
  refine L_val (.slice (some ⟨g1, 0, none⟩) 0 0) (by rfl) (by rfl) (gives_value _ fun _ => by rfl) ?_
  refine L_end ?_
  intro w3 hw3
  refine seq_plain hw3 [0, 1] (by rfl) ?_
  refine L_build0 1 (by rfl) (by rfl) und_u8s u8_sz ?_; intro g2; have hn_2 := Nms.nil .u8
  refine L_val (.slice (some ⟨g2, 0, none⟩) 0 0) (by rfl) (by rfl) (gives_value _ fun _ => by rfl) ?_
  refine L_end ?_
  intro w4 hw4
  refine wp_seq ?_
  refine seq_plain hw4 [0] (by rfl) ?_
  refine L_val (.int .i64 0) (by rfl) (by rfl) (gives_value _ fun _ => by rfl) ?_
  refine L_end ?_
  intro w5 hw5
  refine wp_block ?_
  refine loop_down (fun (r_ : Nat) a w => ∃ (i : Nat) (gi : Nat) (ci : Nat) (si : Array Value) (go : Nat) (co : Nat) (so : Array Value) (l_1 : List (Nat × Value)), 64 - i = r_ ∧ inFr 45 l_1 = true ∧ a = fr 45 ((0, .slice A0 n0 c0) :: (1, .slice A1 n1 c1) :: (5, .slice (some ⟨gi, 0, none⟩) i ci) :: (6, .slice (some ⟨go, 0, none⟩) i co) :: (7, .int .i64 (i : Int)) :: l_1) ∧ (i ≤ 64) ∧ (Nms .u8 si ci i (maskL ((padTo (bs0)).take i) 54)) ∧ (Nms .u8 so co i (maskL ((padTo (bs0)).take i) 92)) ∧ Hbl v [(go, 5, so), (gi, 5, si)] w) ?_ _ _ _ ⟨0, g1, 0, #[], g2, 0, #[], [(7, .int .i64 0), (6, .slice (some ⟨g2, 0, none⟩) 0 0), (15, .slice (some ⟨g2, 0, none⟩) 0 0), (5, .slice (some ⟨g1, 0, none⟩) 0 0), (14, .slice (some ⟨g1, 0, none⟩) 0 0), (11, .bool false), (10, .int .i64 (n0 : Int)), (9, .slice A0 n0 c0), (4, .slice none 0 0), (1, .slice A1 n1 c1), (0, .slice A0 n0 c0)], rfl, (by rfl), (Eq.trans (Eq.trans (Eq.trans (Eq.trans (fr_dup _ _ 7 _ (by rfl) (by rfl) (by rfl)).symm (fr_dup _ _ 6 _ (by rfl) (by rfl) (by rfl)).symm) (fr_dup _ _ 5 _ (by rfl) (by rfl) (by rfl)).symm) (fr_dup _ _ 1 _ (by rfl) (by rfl) (by rfl)).symm) (fr_dup _ _ 0 _ (by rfl) (by rfl) (by rfl)).symm), Nat.zero_le _, Nms.nil .u8, Nms.nil .u8, hw5⟩
  rintro r_1 a0 w0_1 ⟨i, gi, ci, si, go, co, so, l_1, hr_1, hl_1, rfl, hi64, hi, ho, hw0_1⟩
  rcases (by omega : (i < n0 ∧ i < 64) ∨ (n0 ≤ i ∧ i < 64) ∨ i = 64) with hlt | hlt | hlt
  ·
    obtain ⟨b0, o0, hA0, hq0, hce0⟩ := reads_cell hr0 (show i < n0 by omega)
    refine wp_seq ?_
    refine seq_plain hw0_1 [0, 1] (by rfl) ?_
    refine L_val (.int .i64 (i : Int)) (by rfl) (by exact hl_1) (gives_value _ fun _ => by rfl) ?_
    refine L_val (.bool true) (by rfl) (by exact hl_1) (gives_lss (k := .i64) ((i : Int)) (64) true (by rfl) (by rfl) (decide_eq_true (by omega))) ?_
    refine L_end ?_
    intro w6 hw6
    refine wp_cond_true (fr_at _ _ (by exact hl_1) _) ?_
    refine wp_skip ?_
    change Code.wp _ _ _ _ _
    refine wp_seq ?_
    refine wp_block ?_
    refine seq_plain hw6 [0] (by rfl) ?_
    refine L_val (.int .u8 0) (by rfl) (by exact hl_1) (gives_value _ fun _ => by rfl) ?_
    refine L_end ?_
    intro w7 hw7
    refine wp_seq ?_
    refine seq_plain hw7 [0, 1, 2, 3] (by rfl) ?_
    refine L_val (.int .i64 (i : Int)) (by rfl) (by exact hl_1) (gives_value _ fun _ => by rfl) ?_
    refine L_val (.slice A0 n0 c0) (by rfl) (by exact hl_1) (gives_value _ fun _ => by rfl) ?_
    refine L_val (.int .i64 (n0 : Int)) (by rfl) (by exact hl_1) (gives_len _ n0 c0 und_u8s (by rfl)) ?_
    refine L_val (.bool true) (by rfl) (by exact hl_1) (gives_lss (k := .i64) ((i : Int)) ((n0 : Int)) true (by rfl) (by rfl) (decide_eq_true (by omega))) ?_
    refine L_end ?_
    intro w8 hw8
    refine wp_cond_true (fr_at _ _ (by exact hl_1) _) ?_
    refine one_plain hw8 [0, 1, 2, 3, 4] (by rfl) ?_
    refine L_val (.slice A0 n0 c0) (by rfl) (by exact hl_1) (gives_value _ fun _ => by rfl) ?_
    refine L_val (.int .i64 (i : Int)) (by rfl) (by exact hl_1) (gives_value _ fun _ => by rfl) ?_
    refine L_val (.pointer (some ⟨b0, o0 + (i), none⟩)) (by rfl) (by exact hl_1) (gives_index_old A0 n0 c0 ((i : Int)) (i) _ _ hA0 (by rfl) (by rfl) und_u8s u8_sz rfl (by omega)) ?_
    refine L_val (.int .u8 (gt bs0 i)) (by rfl) (by exact hl_1) (gives_load_old _ (.int .u8 (gt bs0 i)) (by rfl) (fun _ h => (h.below.cell (p := ⟨b0, _, none⟩) hq0).trans hce0) und_u8') ?_
    refine L_val (.int .u8 (gt bs0 i)) (by rfl) (by exact hl_1) (gives_value _ fun _ => by rfl) ?_
    refine L_end ?_
    intro w9 hw9
    change Code.wp _ _ _ _ _
    refine seq_plain hw9 [0, 1, 2, 3, 4, 5] (by rfl) ?_
    refine L_val (.slice (some ⟨gi, 0, none⟩) i ci) (by rfl) (by exact hl_1) (gives_value _ fun _ => by rfl) ?_
    refine L_val (.int .u8 (gt bs0 i)) (by rfl) (by exact hl_1) (gives_value _ fun _ => by rfl) ?_
    refine L_val (.int .u8 (bits .xor .u8 (gt bs0 i) 54)) (by rfl) (by exact hl_1) (gives_xorB (k := .u8) (gt bs0 i) (54) (by rfl) (by rfl)) ?_
    refine L_buildV 1 (.int .u8 0) [.int .u8 (bits .xor .u8 (gt bs0 i) 54)] (by rfl) (by exact hl_1) Want.none und_u8s u8_zs (by rfl) (by rfl) (by rfl) (by intro u hu; simp only [List.mem_cons, List.not_mem_nil, or_false] at hu; rcases hu with rfl <;> rfl) (by rfl) (by rfl) ?_; intro g3
    have hn_3 : Nms .u8 ([.int .u8 (bits .xor .u8 (gt bs0 i) 54)] : List Value).toArray 1 1 [bits .xor .u8 (gt bs0 i) 54] := Nms.all (by rfl) (by rfl) (by omega)
    refine L_push 2 gi i ci 1 1 1 (some ⟨g3, 0, none⟩) .u8 (.int .u8 0) (maskL ((padTo (bs0)).take i) 54) ([bits .xor .u8 (gt bs0 i) 54]) si (by rfl) (by exact hl_1) Want.none und_u8s byte_info rfl (by rfl) (by rfl) (by rfl) hi (fun w h => (hn_3.reads (h.blk 0 (by rfl)))) (by omega) (by rfl) [(g3, 5, ([.int .u8 (bits .xor .u8 (gt bs0 i) 54)] : List Value).toArray), (go, 5, so)] (by rfl) ?_; intro g4 cap_4 cs_4 hn_4
    refine L_val (.slice (some ⟨g4, 0, none⟩) (i + 1) cap_4) (by rfl) (by exact hl_1) (gives_value _ fun _ => by rfl) ?_
    refine L_end ?_
    intro w10 hw10
    refine one_plain hw10 [0, 1, 2, 3, 4, 5] (by rfl) ?_
    refine L_val (.slice (some ⟨go, 0, none⟩) i co) (by rfl) (by exact hl_1) (gives_value _ fun _ => by rfl) ?_
    refine L_val (.int .u8 (gt bs0 i)) (by rfl) (by exact hl_1) (gives_value _ fun _ => by rfl) ?_
    refine L_val (.int .u8 (bits .xor .u8 (gt bs0 i) 92)) (by rfl) (by exact hl_1) (gives_xorB (k := .u8) (gt bs0 i) (92) (by rfl) (by rfl)) ?_
    refine L_buildV 1 (.int .u8 0) [.int .u8 (bits .xor .u8 (gt bs0 i) 92)] (by rfl) (by exact hl_1) Want.none und_u8s u8_zs (by rfl) (by rfl) (by rfl) (by intro u hu; simp only [List.mem_cons, List.not_mem_nil, or_false] at hu; rcases hu with rfl <;> rfl) (by rfl) (by rfl) ?_; intro g5
    have hn_5 : Nms .u8 ([.int .u8 (bits .xor .u8 (gt bs0 i) 92)] : List Value).toArray 1 1 [bits .xor .u8 (gt bs0 i) 92] := Nms.all (by rfl) (by rfl) (by omega)
    refine L_push 3 go i co 1 1 1 (some ⟨g5, 0, none⟩) .u8 (.int .u8 0) (maskL ((padTo (bs0)).take i) 92) ([bits .xor .u8 (gt bs0 i) 92]) so (by rfl) (by exact hl_1) Want.none und_u8s byte_info rfl (by rfl) (by rfl) (by rfl) ho (fun w h => (hn_5.reads (h.blk 0 (by rfl)))) (by omega) (by rfl) [(g5, 5, ([.int .u8 (bits .xor .u8 (gt bs0 i) 92)] : List Value).toArray), (g4, 5, cs_4), (g3, 5, ([.int .u8 (bits .xor .u8 (gt bs0 i) 54)] : List Value).toArray)] (by rfl) ?_; intro g6 cap_6 cs_6 hn_6
    refine L_val (.slice (some ⟨g6, 0, none⟩) (i + 1) cap_6) (by rfl) (by exact hl_1) (gives_value _ fun _ => by rfl) ?_
    refine L_end ?_
    intro w11 hw11
    change Code.wp _ _ _ _ _
    refine one_plain hw11 [0, 1, 2] (by rfl) ?_
    refine L_val (.int .i64 (i : Int)) (by rfl) (by exact hl_1) (gives_value _ fun _ => by rfl) ?_
    refine L_val (.int .i64 ((i : Int) + 1)) (by rfl) (by exact hl_1) (gives_add (k := .i64) ((i : Int)) (1) ((i : Int) + 1) (by rfl) (by rfl) (IntWalk.i64_in _ (by omega))) ?_
    refine L_val (.int .i64 ((i : Int) + 1)) (by rfl) (by exact hl_1) (gives_value _ fun _ => by rfl) ?_
    refine L_end ?_
    intro w12 hw12
    change ∃ r' : Nat, r' < r_1 ∧ _
    refine ⟨_, ?_, i + 1, g4, cap_4, cs_4, g6, cap_6, cs_6, ((7, .int .i64 ((i : Int) + 1)) :: (19, .int .i64 ((i : Int) + 1)) :: (18, .int .i64 (i : Int)) :: (6, .slice (some ⟨g6, 0, none⟩) (i + 1) cap_6) :: (37, .slice (some ⟨g6, 0, none⟩) (i + 1) cap_6) :: (36, .slice (some ⟨g5, 0, none⟩) 1 1) :: (35, .int .u8 (bits .xor .u8 (gt bs0 i) 92)) :: (34, .int .u8 (gt bs0 i)) :: (33, .slice (some ⟨go, 0, none⟩) i co) :: (5, .slice (some ⟨g4, 0, none⟩) (i + 1) cap_4) :: (32, .slice (some ⟨g4, 0, none⟩) (i + 1) cap_4) :: (31, .slice (some ⟨g3, 0, none⟩) 1 1) :: (30, .int .u8 (bits .xor .u8 (gt bs0 i) 54)) :: (29, .int .u8 (gt bs0 i)) :: (28, .slice (some ⟨gi, 0, none⟩) i ci) :: (8, .int .u8 (gt bs0 i)) :: (27, .int .u8 (gt bs0 i)) :: (26, .pointer (some ⟨b0, o0 + (i), none⟩)) :: (25, .int .i64 (i : Int)) :: (24, .slice A0 n0 c0) :: (23, .bool true) :: (22, .int .i64 (n0 : Int)) :: (21, .slice A0 n0 c0) :: (20, .int .i64 (i : Int)) :: (8, .int .u8 0) :: (17, .bool true) :: (16, .int .i64 (i : Int)) :: (0, .slice A0 n0 c0) :: (1, .slice A1 n1 c1) :: (5, .slice (some ⟨gi, 0, none⟩) i ci) :: (6, .slice (some ⟨go, 0, none⟩) i co) :: (7, .int .i64 (i : Int)) :: l_1), rfl, (by exact hl_1), (Eq.trans (Eq.trans (Eq.trans (Eq.trans (fr_dup _ _ 7 _ (by exact hl_1) (by rfl) (by rfl)).symm (fr_dup _ _ 6 _ (by exact hl_1) (by rfl) (by rfl)).symm) (fr_dup _ _ 5 _ (by exact hl_1) (by rfl) (by rfl)).symm) (fr_dup _ _ 1 _ (by exact hl_1) (by rfl) (by rfl)).symm) (fr_dup _ _ 0 _ (by exact hl_1) (by rfl) (by rfl)).symm), by omega, hn_4.list (mask_nextA (bs0) i 54 (by omega) (by omega)) rfl, hn_6.list (mask_nextA (bs0) i 92 (by omega) (by omega)) rfl, (hw12.sub (List.Sublist.cons_cons _ (List.Sublist.cons _ (List.Sublist.cons_cons _ (List.Sublist.cons _ List.Sublist.slnil)))))⟩
    omega
  ·
    refine wp_seq ?_
    refine seq_plain hw0_1 [0, 1] (by rfl) ?_
    refine L_val (.int .i64 (i : Int)) (by rfl) (by exact hl_1) (gives_value _ fun _ => by rfl) ?_
    refine L_val (.bool true) (by rfl) (by exact hl_1) (gives_lss (k := .i64) ((i : Int)) (64) true (by rfl) (by rfl) (decide_eq_true (by omega))) ?_
    refine L_end ?_
    intro w13 hw13
    refine wp_cond_true (fr_at _ _ (by exact hl_1) _) ?_
    refine wp_skip ?_
    change Code.wp _ _ _ _ _
    refine wp_seq ?_
    refine wp_block ?_
    refine seq_plain hw13 [0] (by rfl) ?_
    refine L_val (.int .u8 0) (by rfl) (by exact hl_1) (gives_value _ fun _ => by rfl) ?_
    refine L_end ?_
    intro w14 hw14
    refine wp_seq ?_
    refine seq_plain hw14 [0, 1, 2, 3] (by rfl) ?_
    refine L_val (.int .i64 (i : Int)) (by rfl) (by exact hl_1) (gives_value _ fun _ => by rfl) ?_
    refine L_val (.slice A0 n0 c0) (by rfl) (by exact hl_1) (gives_value _ fun _ => by rfl) ?_
    refine L_val (.int .i64 (n0 : Int)) (by rfl) (by exact hl_1) (gives_len _ n0 c0 und_u8s (by rfl)) ?_
    refine L_val (.bool false) (by rfl) (by exact hl_1) (gives_lss (k := .i64) ((i : Int)) ((n0 : Int)) false (by rfl) (by rfl) (decide_eq_false (by omega))) ?_
    refine L_end ?_
    intro w15 hw15
    refine wp_cond_false (fr_at _ _ (by exact hl_1) _) ?_
    refine wp_skip ?_
    change Code.wp _ _ _ _ _
    refine seq_plain hw15 [0, 1, 2, 3, 4, 5] (by rfl) ?_
    refine L_val (.slice (some ⟨gi, 0, none⟩) i ci) (by rfl) (by exact hl_1) (gives_value _ fun _ => by rfl) ?_
    refine L_val (.int .u8 0) (by rfl) (by exact hl_1) (gives_value _ fun _ => by rfl) ?_
    refine L_val (.int .u8 (bits .xor .u8 0 54)) (by rfl) (by exact hl_1) (gives_xorB (k := .u8) (0) (54) (by rfl) (by rfl)) ?_
    refine L_buildV 1 (.int .u8 0) [.int .u8 (bits .xor .u8 0 54)] (by rfl) (by exact hl_1) Want.none und_u8s u8_zs (by rfl) (by rfl) (by rfl) (by intro u hu; simp only [List.mem_cons, List.not_mem_nil, or_false] at hu; rcases hu with rfl <;> rfl) (by rfl) (by rfl) ?_; intro g7
    have hn_7 : Nms .u8 ([.int .u8 (bits .xor .u8 0 54)] : List Value).toArray 1 1 [bits .xor .u8 0 54] := Nms.all (by rfl) (by rfl) (by omega)
    refine L_push 2 gi i ci 1 1 1 (some ⟨g7, 0, none⟩) .u8 (.int .u8 0) (maskL ((padTo (bs0)).take i) 54) ([bits .xor .u8 0 54]) si (by rfl) (by exact hl_1) Want.none und_u8s byte_info rfl (by rfl) (by rfl) (by rfl) hi (fun w h => (hn_7.reads (h.blk 0 (by rfl)))) (by omega) (by rfl) [(g7, 5, ([.int .u8 (bits .xor .u8 0 54)] : List Value).toArray), (go, 5, so)] (by rfl) ?_; intro g8 cap_8 cs_8 hn_8
    refine L_val (.slice (some ⟨g8, 0, none⟩) (i + 1) cap_8) (by rfl) (by exact hl_1) (gives_value _ fun _ => by rfl) ?_
    refine L_end ?_
    intro w16 hw16
    refine one_plain hw16 [0, 1, 2, 3, 4, 5] (by rfl) ?_
    refine L_val (.slice (some ⟨go, 0, none⟩) i co) (by rfl) (by exact hl_1) (gives_value _ fun _ => by rfl) ?_
    refine L_val (.int .u8 0) (by rfl) (by exact hl_1) (gives_value _ fun _ => by rfl) ?_
    refine L_val (.int .u8 (bits .xor .u8 0 92)) (by rfl) (by exact hl_1) (gives_xorB (k := .u8) (0) (92) (by rfl) (by rfl)) ?_
    refine L_buildV 1 (.int .u8 0) [.int .u8 (bits .xor .u8 0 92)] (by rfl) (by exact hl_1) Want.none und_u8s u8_zs (by rfl) (by rfl) (by rfl) (by intro u hu; simp only [List.mem_cons, List.not_mem_nil, or_false] at hu; rcases hu with rfl <;> rfl) (by rfl) (by rfl) ?_; intro g9
    have hn_9 : Nms .u8 ([.int .u8 (bits .xor .u8 0 92)] : List Value).toArray 1 1 [bits .xor .u8 0 92] := Nms.all (by rfl) (by rfl) (by omega)
    refine L_push 3 go i co 1 1 1 (some ⟨g9, 0, none⟩) .u8 (.int .u8 0) (maskL ((padTo (bs0)).take i) 92) ([bits .xor .u8 0 92]) so (by rfl) (by exact hl_1) Want.none und_u8s byte_info rfl (by rfl) (by rfl) (by rfl) ho (fun w h => (hn_9.reads (h.blk 0 (by rfl)))) (by omega) (by rfl) [(g9, 5, ([.int .u8 (bits .xor .u8 0 92)] : List Value).toArray), (g8, 5, cs_8), (g7, 5, ([.int .u8 (bits .xor .u8 0 54)] : List Value).toArray)] (by rfl) ?_; intro g10 cap_10 cs_10 hn_10
    refine L_val (.slice (some ⟨g10, 0, none⟩) (i + 1) cap_10) (by rfl) (by exact hl_1) (gives_value _ fun _ => by rfl) ?_
    refine L_end ?_
    intro w17 hw17
    change Code.wp _ _ _ _ _
    refine one_plain hw17 [0, 1, 2] (by rfl) ?_
    refine L_val (.int .i64 (i : Int)) (by rfl) (by exact hl_1) (gives_value _ fun _ => by rfl) ?_
    refine L_val (.int .i64 ((i : Int) + 1)) (by rfl) (by exact hl_1) (gives_add (k := .i64) ((i : Int)) (1) ((i : Int) + 1) (by rfl) (by rfl) (IntWalk.i64_in _ (by omega))) ?_
    refine L_val (.int .i64 ((i : Int) + 1)) (by rfl) (by exact hl_1) (gives_value _ fun _ => by rfl) ?_
    refine L_end ?_
    intro w18 hw18
    change ∃ r' : Nat, r' < r_1 ∧ _
    refine ⟨_, ?_, i + 1, g8, cap_8, cs_8, g10, cap_10, cs_10, ((7, .int .i64 ((i : Int) + 1)) :: (19, .int .i64 ((i : Int) + 1)) :: (18, .int .i64 (i : Int)) :: (6, .slice (some ⟨g10, 0, none⟩) (i + 1) cap_10) :: (37, .slice (some ⟨g10, 0, none⟩) (i + 1) cap_10) :: (36, .slice (some ⟨g9, 0, none⟩) 1 1) :: (35, .int .u8 (bits .xor .u8 0 92)) :: (34, .int .u8 0) :: (33, .slice (some ⟨go, 0, none⟩) i co) :: (5, .slice (some ⟨g8, 0, none⟩) (i + 1) cap_8) :: (32, .slice (some ⟨g8, 0, none⟩) (i + 1) cap_8) :: (31, .slice (some ⟨g7, 0, none⟩) 1 1) :: (30, .int .u8 (bits .xor .u8 0 54)) :: (29, .int .u8 0) :: (28, .slice (some ⟨gi, 0, none⟩) i ci) :: (23, .bool false) :: (22, .int .i64 (n0 : Int)) :: (21, .slice A0 n0 c0) :: (20, .int .i64 (i : Int)) :: (8, .int .u8 0) :: (17, .bool true) :: (16, .int .i64 (i : Int)) :: (0, .slice A0 n0 c0) :: (1, .slice A1 n1 c1) :: (5, .slice (some ⟨gi, 0, none⟩) i ci) :: (6, .slice (some ⟨go, 0, none⟩) i co) :: (7, .int .i64 (i : Int)) :: l_1), rfl, (by exact hl_1), (Eq.trans (Eq.trans (Eq.trans (Eq.trans (fr_dup _ _ 7 _ (by exact hl_1) (by rfl) (by rfl)).symm (fr_dup _ _ 6 _ (by exact hl_1) (by rfl) (by rfl)).symm) (fr_dup _ _ 5 _ (by exact hl_1) (by rfl) (by rfl)).symm) (fr_dup _ _ 1 _ (by exact hl_1) (by rfl) (by rfl)).symm) (fr_dup _ _ 0 _ (by exact hl_1) (by rfl) (by rfl)).symm), by omega, hn_8.list (mask_nextB (bs0) i 54 (by omega) (by omega) hlt.2) rfl, hn_10.list (mask_nextB (bs0) i 92 (by omega) (by omega) hlt.2) rfl, (hw18.sub (List.Sublist.cons_cons _ (List.Sublist.cons _ (List.Sublist.cons_cons _ (List.Sublist.cons _ List.Sublist.slnil)))))⟩
    omega
  ·
    refine wp_seq ?_
    refine seq_plain hw0_1 [0, 1] (by rfl) ?_
    refine L_val (.int .i64 (i : Int)) (by rfl) (by exact hl_1) (gives_value _ fun _ => by rfl) ?_
    refine L_val (.bool false) (by rfl) (by exact hl_1) (gives_lss (k := .i64) ((i : Int)) (64) false (by rfl) (by rfl) (decide_eq_false (by omega))) ?_
    refine L_end ?_
    intro w19 hw19
    refine wp_cond_false (fr_at _ _ (by exact hl_1) _) ?_
    refine wp_exit ?_
    subst hlt
    change Code.wp _ _ _ _ _
    change Code.wp _ _ _ _ _
    refine seq_plain hw19 [0, 1, 2, 3, 4, 5, 6, 7] (by rfl) ?_
    refine L_val (.slice (some ⟨go, 0, none⟩) 64 co) (by rfl) (by exact hl_1) (gives_value _ fun _ => by rfl) ?_
    refine L_val (.slice (some ⟨gi, 0, none⟩) 64 ci) (by rfl) (by exact hl_1) (gives_value _ fun _ => by rfl) ?_
    refine L_val (.slice A1 n1 c1) (by rfl) (by exact hl_1) (gives_value _ fun _ => by rfl) ?_
    refine L_push 1 gi 64 ci n1 c1 1 A1 .u8 (.int .u8 0) (maskL ((padTo (bs0)).take 64) 54) bs1 si (by rfl) (by exact hl_1) Want.none und_u8s byte_info rfl (by rfl) (by rfl) (by rfl) hi (fun w h => ((hr1.below h.below).more h.below.size)) (by omega) (by rfl) [(go, 5, so)] (by rfl) ?_; intro g11 cap_11 cs_11 hn_11
    refine L_freshP (vl := [.slice (some ⟨g11, 0, none⟩) (64 + n1) cap_11]) 5 .u8 32 (digest ((maskL ((padTo (bs0)).take 64) 54) ++ bs1)) (by rfl) (by exact hl_1) Want.none (by kernel_rfl) (by rfl) (fun w h => refsum_own _ _ _ ((maskL ((padTo (bs0)).take 64) 54) ++ bs1) w (hn_11.reads (h.blk 0 (by rfl))) (by omega)) ?_; intro g12 cap_12 cs_12 hn_12
    refine L_push 2 go 64 co 32 cap_12 1 (some ⟨g12, 0, none⟩) .u8 (.int .u8 0) (maskL ((padTo (bs0)).take 64) 92) (digest ((maskL ((padTo (bs0)).take 64) 54) ++ bs1)) so (by rfl) (by exact hl_1) Want.none und_u8s byte_info rfl (by rfl) (by rfl) (by rfl) ho (fun w h => (hn_12.reads (h.blk 0 (by rfl)))) (by omega) (by rfl) [(g12, 5, cs_12), (g11, 5, cs_11)] (by rfl) ?_; intro g13 cap_13 cs_13 hn_13
    refine L_freshP (vl := [.slice (some ⟨g13, 0, none⟩) (64 + 32) cap_13]) 5 .u8 32 (digest ((maskL ((padTo (bs0)).take 64) 92) ++ (digest ((maskL ((padTo (bs0)).take 64) 54) ++ bs1)))) (by rfl) (by exact hl_1) Want.none (by kernel_rfl) (by rfl) (fun w h => refsum_own _ _ _ ((maskL ((padTo (bs0)).take 64) 92) ++ (digest ((maskL ((padTo (bs0)).take 64) 54) ++ bs1))) w (hn_13.reads (h.blk 0 (by rfl))) (by omega)) ?_; intro g14 cap_14 cs_14 hn_14
    refine L_val (.slice (some ⟨g14, 0, none⟩) 32 cap_14) (by rfl) (by exact hl_1) (gives_value _ fun _ => by rfl) ?_
    refine L_end ?_
    intro w20 hw20
    refine wp_ret ?_
    change bodyPost _ _ _ Exit.ret _ _
    refine (ret_tmp (by rfl) (by exact hl_1) (by rfl) ⟨_, _, _, rfl, hn_14.list (by rw [mask_full _ _ (by omega), mask_full _ _ (by omega), mac, keyB_short bs0 (by omega)]) rfl, hw20.ge 0 (by rfl), hw20.blk 0 (by rfl), hw20.below⟩)
set_option maxRecDepth 100000 in
set_option maxHeartbeats 4000000 in
theorem refmac_long (A0 : Option Addr) (n0 c0 : Nat) (bs0 : List Int) (A1 : Option Addr) (n1 c1 : Nat) (bs1 : List Int) (v : World) (hr0 : Reads v v.heap.size A0 n0 (bs0.map (Value.int .u8))) (hn0 : n0 ≤ 2000000) (hr1 : Reads v v.heap.size A1 n1 (bs1.map (Value.int .u8))) (hn1 : n1 ≤ 2000000) (hc : 64 < n0) : RetsP 24 #[.slice A0 n0 c0, .slice A1 n1 c1] v 5 .u8 32 (mac bs0 bs1) := by
  have hlen0 : bs0.length = n0 := by simpa using hr0.1
  have hKl : (digest bs0).length = 32 := digest_len _
  refine calls_fr2 Tryd.func24 rfl (by rfl : _ = 45) (by rfl) ?_
  have hw := Hbl.nil v
  refine seq_plain hw [0] (by rfl) ?_
  refine L_val (.slice none 0 0) (by rfl) (by rfl) (gives_value _ fun _ => by rfl) ?_
  refine L_end ?_
  intro w1 hw1
  refine wp_seq ?_
  refine seq_plain hw1 [0, 1, 2] (by rfl) ?_
  refine L_val (.slice A0 n0 c0) (by rfl) (by rfl) (gives_value _ fun _ => by rfl) ?_
  refine L_val (.int .i64 (n0 : Int)) (by rfl) (by rfl) (gives_len _ n0 c0 und_u8s (by rfl)) ?_
  refine L_val (.bool true) (by rfl) (by rfl) (gives_gtr (k := .i64) ((n0 : Int)) (64) true (by rfl) (by rfl) (decide_eq_true (by omega))) ?_
  refine L_end ?_
  intro w2 hw2
  refine wp_cond_true (fr_at _ _ (by rfl) _) ?_
  refine one_plain hw2 [0, 1, 2] (by rfl) ?_
  refine L_val (.slice A0 n0 c0) (by rfl) (by rfl) (gives_value _ fun _ => by rfl) ?_
  refine L_freshP (vl := [.slice A0 n0 c0]) 5 .u8 32 (digest bs0) (by rfl) (by rfl) Want.none (by kernel_rfl) (by rfl) (fun w h => refsum_own _ _ _ bs0 w ((hr0.below h.below).more h.below.size) (by omega)) ?_; intro g1 cap_1 cs_1 hn_1
  refine L_val (.slice (some ⟨g1, 0, none⟩) 32 cap_1) (by rfl) (by rfl) (gives_value _ fun _ => by rfl) ?_
  refine L_end ?_
  intro w3 hw3
  change Code.wp _ _ _ _ _
  refine seq_plain hw3 [0, 1] (by rfl) ?_
  refine L_build0 1 (by rfl) (by rfl) und_u8s u8_sz ?_; intro g2; have hn_2 := Nms.nil .u8
  refine L_val (.slice (some ⟨g2, 0, none⟩) 0 0) (by rfl) (by rfl) (gives_value _ fun _ => by rfl) ?_
  refine L_end ?_
  intro w4 hw4
  refine seq_plain hw4 [0, 1] (by rfl) ?_
  refine L_build0 1 (by rfl) (by rfl) und_u8s u8_sz ?_; intro g3; have hn_3 := Nms.nil .u8
  refine L_val (.slice (some ⟨g3, 0, none⟩) 0 0) (by rfl) (by rfl) (gives_value _ fun _ => by rfl) ?_
  refine L_end ?_
  intro w5 hw5
  refine wp_seq ?_
  refine seq_plain hw5 [0] (by rfl) ?_
  refine L_val (.int .i64 0) (by rfl) (by rfl) (gives_value _ fun _ => by rfl) ?_
  refine L_end ?_
  intro w6 hw6
  refine wp_block ?_
  refine loop_down (fun (r_ : Nat) a w => ∃ (i : Nat) (gi : Nat) (ci : Nat) (si : Array Value) (go : Nat) (co : Nat) (so : Array Value) (l_1 : List (Nat × Value)), 64 - i = r_ ∧ inFr 45 l_1 = true ∧ a = fr 45 ((0, .slice (some ⟨g1, 0, none⟩) 32 cap_1) :: (1, .slice A1 n1 c1) :: (5, .slice (some ⟨gi, 0, none⟩) i ci) :: (6, .slice (some ⟨go, 0, none⟩) i co) :: (7, .int .i64 (i : Int)) :: l_1) ∧ (i ≤ 64) ∧ (Nms .u8 si ci i (maskL ((padTo (digest bs0)).take i) 54)) ∧ (Nms .u8 so co i (maskL ((padTo (digest bs0)).take i) 92)) ∧ Hbl v [(go, 5, so), (gi, 5, si), (g1, 5, cs_1)] w) ?_ _ _ _ ⟨0, g2, 0, #[], g3, 0, #[], [(7, .int .i64 0), (6, .slice (some ⟨g3, 0, none⟩) 0 0), (15, .slice (some ⟨g3, 0, none⟩) 0 0), (5, .slice (some ⟨g2, 0, none⟩) 0 0), (14, .slice (some ⟨g2, 0, none⟩) 0 0), (0, .slice (some ⟨g1, 0, none⟩) 32 cap_1), (13, .slice (some ⟨g1, 0, none⟩) 32 cap_1), (12, .slice A0 n0 c0), (11, .bool true), (10, .int .i64 (n0 : Int)), (9, .slice A0 n0 c0), (4, .slice none 0 0), (1, .slice A1 n1 c1), (0, .slice A0 n0 c0)], rfl, (by rfl), (Eq.trans (Eq.trans (Eq.trans (Eq.trans (fr_dup _ _ 7 _ (by rfl) (by rfl) (by rfl)).symm (fr_dup _ _ 6 _ (by rfl) (by rfl) (by rfl)).symm) (fr_dup _ _ 5 _ (by rfl) (by rfl) (by rfl)).symm) (fr_dup _ _ 1 _ (by rfl) (by rfl) (by rfl)).symm) (fr_dup _ _ 0 _ (by rfl) (by rfl) (by rfl)).symm), Nat.zero_le _, Nms.nil .u8, Nms.nil .u8, hw6⟩
  rintro r_1 a0 w0_1 ⟨i, gi, ci, si, go, co, so, l_1, hr_1, hl_1, rfl, hi64, hi, ho, hw0_1⟩
  rcases (by omega : (i < 32 ∧ i < 64) ∨ (32 ≤ i ∧ i < 64) ∨ i = 64) with hlt | hlt | hlt
  ·
    refine wp_seq ?_
    refine seq_plain hw0_1 [0, 1] (by rfl) ?_
    refine L_val (.int .i64 (i : Int)) (by rfl) (by exact hl_1) (gives_value _ fun _ => by rfl) ?_
    refine L_val (.bool true) (by rfl) (by exact hl_1) (gives_lss (k := .i64) ((i : Int)) (64) true (by rfl) (by rfl) (decide_eq_true (by omega))) ?_
    refine L_end ?_
    intro w7 hw7
    refine wp_cond_true (fr_at _ _ (by exact hl_1) _) ?_
    refine wp_skip ?_
    change Code.wp _ _ _ _ _
    refine wp_seq ?_
    refine wp_block ?_
    refine seq_plain hw7 [0] (by rfl) ?_
    refine L_val (.int .u8 0) (by rfl) (by exact hl_1) (gives_value _ fun _ => by rfl) ?_
    refine L_end ?_
    intro w8 hw8
    refine wp_seq ?_
    refine seq_plain hw8 [0, 1, 2, 3] (by rfl) ?_
    refine L_val (.int .i64 (i : Int)) (by rfl) (by exact hl_1) (gives_value _ fun _ => by rfl) ?_
    refine L_val (.slice (some ⟨g1, 0, none⟩) 32 cap_1) (by rfl) (by exact hl_1) (gives_value _ fun _ => by rfl) ?_
    refine L_val (.int .i64 (32 : Int)) (by rfl) (by exact hl_1) (gives_len _ 32 cap_1 und_u8s (by rfl)) ?_
    refine L_val (.bool true) (by rfl) (by exact hl_1) (gives_lss (k := .i64) ((i : Int)) ((32 : Int)) true (by rfl) (by rfl) (decide_eq_true (by omega))) ?_
    refine L_end ?_
    intro w9 hw9
    refine wp_cond_true (fr_at _ _ (by exact hl_1) _) ?_
    refine one_plain hw9 [0, 1, 2, 3, 4] (by rfl) ?_
    refine L_val (.slice (some ⟨g1, 0, none⟩) 32 cap_1) (by rfl) (by exact hl_1) (gives_value _ fun _ => by rfl) ?_
    refine L_val (.int .i64 (i : Int)) (by rfl) (by exact hl_1) (gives_value _ fun _ => by rfl) ?_
    refine L_val (.pointer (some ⟨g1, 0 + (i), none⟩)) (by rfl) (by exact hl_1) (gives_index g1 0 (32) (cap_1) ((i : Int)) (i) (by rfl) (by rfl) und_u8s u8_sz rfl (by omega)) ?_
    refine L_val (.int .u8 (gt (digest bs0) i)) (by rfl) (by exact hl_1) (gives_load1 g1 (0 + (i)) _ cs_1 (.int .u8 (gt (digest bs0) i)) (by rfl) (fun _ h => h.blk 2 (by rfl)) (hn_1.get (by omega)) und_u8') ?_
    refine L_val (.int .u8 (gt (digest bs0) i)) (by rfl) (by exact hl_1) (gives_value _ fun _ => by rfl) ?_
    refine L_end ?_
    intro w10 hw10
    change Code.wp _ _ _ _ _
    refine seq_plain hw10 [0, 1, 2, 3, 4, 5] (by rfl) ?_
    refine L_val (.slice (some ⟨gi, 0, none⟩) i ci) (by rfl) (by exact hl_1) (gives_value _ fun _ => by rfl) ?_
    refine L_val (.int .u8 (gt (digest bs0) i)) (by rfl) (by exact hl_1) (gives_value _ fun _ => by rfl) ?_
    refine L_val (.int .u8 (bits .xor .u8 (gt (digest bs0) i) 54)) (by rfl) (by exact hl_1) (gives_xorB (k := .u8) (gt (digest bs0) i) (54) (by rfl) (by rfl)) ?_
    refine L_buildV 1 (.int .u8 0) [.int .u8 (bits .xor .u8 (gt (digest bs0) i) 54)] (by rfl) (by exact hl_1) Want.none und_u8s u8_zs (by rfl) (by rfl) (by rfl) (by intro u hu; simp only [List.mem_cons, List.not_mem_nil, or_false] at hu; rcases hu with rfl <;> rfl) (by rfl) (by rfl) ?_; intro g4
    have hn_4 : Nms .u8 ([.int .u8 (bits .xor .u8 (gt (digest bs0) i) 54)] : List Value).toArray 1 1 [bits .xor .u8 (gt (digest bs0) i) 54] := Nms.all (by rfl) (by rfl) (by omega)
    refine L_push 2 gi i ci 1 1 1 (some ⟨g4, 0, none⟩) .u8 (.int .u8 0) (maskL ((padTo (digest bs0)).take i) 54) ([bits .xor .u8 (gt (digest bs0) i) 54]) si (by rfl) (by exact hl_1) Want.none und_u8s byte_info rfl (by rfl) (by rfl) (by rfl) hi (fun w h => (hn_4.reads (h.blk 0 (by rfl)))) (by omega) (by rfl) [(g4, 5, ([.int .u8 (bits .xor .u8 (gt (digest bs0) i) 54)] : List Value).toArray), (go, 5, so), (g1, 5, cs_1)] (by rfl) ?_; intro g5 cap_5 cs_5 hn_5
    refine L_val (.slice (some ⟨g5, 0, none⟩) (i + 1) cap_5) (by rfl) (by exact hl_1) (gives_value _ fun _ => by rfl) ?_
    refine L_end ?_
    intro w11 hw11
    refine one_plain hw11 [0, 1, 2, 3, 4, 5] (by rfl) ?_
    refine L_val (.slice (some ⟨go, 0, none⟩) i co) (by rfl) (by exact hl_1) (gives_value _ fun _ => by rfl) ?_
    refine L_val (.int .u8 (gt (digest bs0) i)) (by rfl) (by exact hl_1) (gives_value _ fun _ => by rfl) ?_
    refine L_val (.int .u8 (bits .xor .u8 (gt (digest bs0) i) 92)) (by rfl) (by exact hl_1) (gives_xorB (k := .u8) (gt (digest bs0) i) (92) (by rfl) (by rfl)) ?_
    refine L_buildV 1 (.int .u8 0) [.int .u8 (bits .xor .u8 (gt (digest bs0) i) 92)] (by rfl) (by exact hl_1) Want.none und_u8s u8_zs (by rfl) (by rfl) (by rfl) (by intro u hu; simp only [List.mem_cons, List.not_mem_nil, or_false] at hu; rcases hu with rfl <;> rfl) (by rfl) (by rfl) ?_; intro g6
    have hn_6 : Nms .u8 ([.int .u8 (bits .xor .u8 (gt (digest bs0) i) 92)] : List Value).toArray 1 1 [bits .xor .u8 (gt (digest bs0) i) 92] := Nms.all (by rfl) (by rfl) (by omega)
    refine L_push 3 go i co 1 1 1 (some ⟨g6, 0, none⟩) .u8 (.int .u8 0) (maskL ((padTo (digest bs0)).take i) 92) ([bits .xor .u8 (gt (digest bs0) i) 92]) so (by rfl) (by exact hl_1) Want.none und_u8s byte_info rfl (by rfl) (by rfl) (by rfl) ho (fun w h => (hn_6.reads (h.blk 0 (by rfl)))) (by omega) (by rfl) [(g6, 5, ([.int .u8 (bits .xor .u8 (gt (digest bs0) i) 92)] : List Value).toArray), (g5, 5, cs_5), (g4, 5, ([.int .u8 (bits .xor .u8 (gt (digest bs0) i) 54)] : List Value).toArray), (g1, 5, cs_1)] (by rfl) ?_; intro g7 cap_7 cs_7 hn_7
    refine L_val (.slice (some ⟨g7, 0, none⟩) (i + 1) cap_7) (by rfl) (by exact hl_1) (gives_value _ fun _ => by rfl) ?_
    refine L_end ?_
    intro w12 hw12
    change Code.wp _ _ _ _ _
    refine one_plain hw12 [0, 1, 2] (by rfl) ?_
    refine L_val (.int .i64 (i : Int)) (by rfl) (by exact hl_1) (gives_value _ fun _ => by rfl) ?_
    refine L_val (.int .i64 ((i : Int) + 1)) (by rfl) (by exact hl_1) (gives_add (k := .i64) ((i : Int)) (1) ((i : Int) + 1) (by rfl) (by rfl) (IntWalk.i64_in _ (by omega))) ?_
    refine L_val (.int .i64 ((i : Int) + 1)) (by rfl) (by exact hl_1) (gives_value _ fun _ => by rfl) ?_
    refine L_end ?_
    intro w13 hw13
    change ∃ r' : Nat, r' < r_1 ∧ _
    refine ⟨_, ?_, i + 1, g5, cap_5, cs_5, g7, cap_7, cs_7, ((7, .int .i64 ((i : Int) + 1)) :: (19, .int .i64 ((i : Int) + 1)) :: (18, .int .i64 (i : Int)) :: (6, .slice (some ⟨g7, 0, none⟩) (i + 1) cap_7) :: (37, .slice (some ⟨g7, 0, none⟩) (i + 1) cap_7) :: (36, .slice (some ⟨g6, 0, none⟩) 1 1) :: (35, .int .u8 (bits .xor .u8 (gt (digest bs0) i) 92)) :: (34, .int .u8 (gt (digest bs0) i)) :: (33, .slice (some ⟨go, 0, none⟩) i co) :: (5, .slice (some ⟨g5, 0, none⟩) (i + 1) cap_5) :: (32, .slice (some ⟨g5, 0, none⟩) (i + 1) cap_5) :: (31, .slice (some ⟨g4, 0, none⟩) 1 1) :: (30, .int .u8 (bits .xor .u8 (gt (digest bs0) i) 54)) :: (29, .int .u8 (gt (digest bs0) i)) :: (28, .slice (some ⟨gi, 0, none⟩) i ci) :: (8, .int .u8 (gt (digest bs0) i)) :: (27, .int .u8 (gt (digest bs0) i)) :: (26, .pointer (some ⟨g1, 0 + (i), none⟩)) :: (25, .int .i64 (i : Int)) :: (24, .slice (some ⟨g1, 0, none⟩) 32 cap_1) :: (23, .bool true) :: (22, .int .i64 (32 : Int)) :: (21, .slice (some ⟨g1, 0, none⟩) 32 cap_1) :: (20, .int .i64 (i : Int)) :: (8, .int .u8 0) :: (17, .bool true) :: (16, .int .i64 (i : Int)) :: (0, .slice (some ⟨g1, 0, none⟩) 32 cap_1) :: (1, .slice A1 n1 c1) :: (5, .slice (some ⟨gi, 0, none⟩) i ci) :: (6, .slice (some ⟨go, 0, none⟩) i co) :: (7, .int .i64 (i : Int)) :: l_1), rfl, (by exact hl_1), (Eq.trans (Eq.trans (Eq.trans (Eq.trans (fr_dup _ _ 7 _ (by exact hl_1) (by rfl) (by rfl)).symm (fr_dup _ _ 6 _ (by exact hl_1) (by rfl) (by rfl)).symm) (fr_dup _ _ 5 _ (by exact hl_1) (by rfl) (by rfl)).symm) (fr_dup _ _ 1 _ (by exact hl_1) (by rfl) (by rfl)).symm) (fr_dup _ _ 0 _ (by exact hl_1) (by rfl) (by rfl)).symm), by omega, hn_5.list (mask_nextA (digest bs0) i 54 (by omega) (by omega)) rfl, hn_7.list (mask_nextA (digest bs0) i 92 (by omega) (by omega)) rfl, (hw13.sub (List.Sublist.cons_cons _ (List.Sublist.cons _ (List.Sublist.cons_cons _ (List.Sublist.cons _ (List.Sublist.cons_cons _ List.Sublist.slnil))))))⟩
    omega
  ·
    refine wp_seq ?_
    refine seq_plain hw0_1 [0, 1] (by rfl) ?_
    refine L_val (.int .i64 (i : Int)) (by rfl) (by exact hl_1) (gives_value _ fun _ => by rfl) ?_
    refine L_val (.bool true) (by rfl) (by exact hl_1) (gives_lss (k := .i64) ((i : Int)) (64) true (by rfl) (by rfl) (decide_eq_true (by omega))) ?_
    refine L_end ?_
    intro w14 hw14
    refine wp_cond_true (fr_at _ _ (by exact hl_1) _) ?_
    refine wp_skip ?_
    change Code.wp _ _ _ _ _
    refine wp_seq ?_
    refine wp_block ?_
    refine seq_plain hw14 [0] (by rfl) ?_
    refine L_val (.int .u8 0) (by rfl) (by exact hl_1) (gives_value _ fun _ => by rfl) ?_
    refine L_end ?_
    intro w15 hw15
    refine wp_seq ?_
    refine seq_plain hw15 [0, 1, 2, 3] (by rfl) ?_
    refine L_val (.int .i64 (i : Int)) (by rfl) (by exact hl_1) (gives_value _ fun _ => by rfl) ?_
    refine L_val (.slice (some ⟨g1, 0, none⟩) 32 cap_1) (by rfl) (by exact hl_1) (gives_value _ fun _ => by rfl) ?_
    refine L_val (.int .i64 (32 : Int)) (by rfl) (by exact hl_1) (gives_len _ 32 cap_1 und_u8s (by rfl)) ?_
    refine L_val (.bool false) (by rfl) (by exact hl_1) (gives_lss (k := .i64) ((i : Int)) ((32 : Int)) false (by rfl) (by rfl) (decide_eq_false (by omega))) ?_
    refine L_end ?_
    intro w16 hw16
    refine wp_cond_false (fr_at _ _ (by exact hl_1) _) ?_
    refine wp_skip ?_
    change Code.wp _ _ _ _ _
    refine seq_plain hw16 [0, 1, 2, 3, 4, 5] (by rfl) ?_
    refine L_val (.slice (some ⟨gi, 0, none⟩) i ci) (by rfl) (by exact hl_1) (gives_value _ fun _ => by rfl) ?_
    refine L_val (.int .u8 0) (by rfl) (by exact hl_1) (gives_value _ fun _ => by rfl) ?_
    refine L_val (.int .u8 (bits .xor .u8 0 54)) (by rfl) (by exact hl_1) (gives_xorB (k := .u8) (0) (54) (by rfl) (by rfl)) ?_
    refine L_buildV 1 (.int .u8 0) [.int .u8 (bits .xor .u8 0 54)] (by rfl) (by exact hl_1) Want.none und_u8s u8_zs (by rfl) (by rfl) (by rfl) (by intro u hu; simp only [List.mem_cons, List.not_mem_nil, or_false] at hu; rcases hu with rfl <;> rfl) (by rfl) (by rfl) ?_; intro g8
    have hn_8 : Nms .u8 ([.int .u8 (bits .xor .u8 0 54)] : List Value).toArray 1 1 [bits .xor .u8 0 54] := Nms.all (by rfl) (by rfl) (by omega)
    refine L_push 2 gi i ci 1 1 1 (some ⟨g8, 0, none⟩) .u8 (.int .u8 0) (maskL ((padTo (digest bs0)).take i) 54) ([bits .xor .u8 0 54]) si (by rfl) (by exact hl_1) Want.none und_u8s byte_info rfl (by rfl) (by rfl) (by rfl) hi (fun w h => (hn_8.reads (h.blk 0 (by rfl)))) (by omega) (by rfl) [(g8, 5, ([.int .u8 (bits .xor .u8 0 54)] : List Value).toArray), (go, 5, so), (g1, 5, cs_1)] (by rfl) ?_; intro g9 cap_9 cs_9 hn_9
    refine L_val (.slice (some ⟨g9, 0, none⟩) (i + 1) cap_9) (by rfl) (by exact hl_1) (gives_value _ fun _ => by rfl) ?_
    refine L_end ?_
    intro w17 hw17
    refine one_plain hw17 [0, 1, 2, 3, 4, 5] (by rfl) ?_
    refine L_val (.slice (some ⟨go, 0, none⟩) i co) (by rfl) (by exact hl_1) (gives_value _ fun _ => by rfl) ?_
    refine L_val (.int .u8 0) (by rfl) (by exact hl_1) (gives_value _ fun _ => by rfl) ?_
    refine L_val (.int .u8 (bits .xor .u8 0 92)) (by rfl) (by exact hl_1) (gives_xorB (k := .u8) (0) (92) (by rfl) (by rfl)) ?_
    refine L_buildV 1 (.int .u8 0) [.int .u8 (bits .xor .u8 0 92)] (by rfl) (by exact hl_1) Want.none und_u8s u8_zs (by rfl) (by rfl) (by rfl) (by intro u hu; simp only [List.mem_cons, List.not_mem_nil, or_false] at hu; rcases hu with rfl <;> rfl) (by rfl) (by rfl) ?_; intro g10
    have hn_10 : Nms .u8 ([.int .u8 (bits .xor .u8 0 92)] : List Value).toArray 1 1 [bits .xor .u8 0 92] := Nms.all (by rfl) (by rfl) (by omega)
    refine L_push 3 go i co 1 1 1 (some ⟨g10, 0, none⟩) .u8 (.int .u8 0) (maskL ((padTo (digest bs0)).take i) 92) ([bits .xor .u8 0 92]) so (by rfl) (by exact hl_1) Want.none und_u8s byte_info rfl (by rfl) (by rfl) (by rfl) ho (fun w h => (hn_10.reads (h.blk 0 (by rfl)))) (by omega) (by rfl) [(g10, 5, ([.int .u8 (bits .xor .u8 0 92)] : List Value).toArray), (g9, 5, cs_9), (g8, 5, ([.int .u8 (bits .xor .u8 0 54)] : List Value).toArray), (g1, 5, cs_1)] (by rfl) ?_; intro g11 cap_11 cs_11 hn_11
    refine L_val (.slice (some ⟨g11, 0, none⟩) (i + 1) cap_11) (by rfl) (by exact hl_1) (gives_value _ fun _ => by rfl) ?_
    refine L_end ?_
    intro w18 hw18
    change Code.wp _ _ _ _ _
    refine one_plain hw18 [0, 1, 2] (by rfl) ?_
    refine L_val (.int .i64 (i : Int)) (by rfl) (by exact hl_1) (gives_value _ fun _ => by rfl) ?_
    refine L_val (.int .i64 ((i : Int) + 1)) (by rfl) (by exact hl_1) (gives_add (k := .i64) ((i : Int)) (1) ((i : Int) + 1) (by rfl) (by rfl) (IntWalk.i64_in _ (by omega))) ?_
    refine L_val (.int .i64 ((i : Int) + 1)) (by rfl) (by exact hl_1) (gives_value _ fun _ => by rfl) ?_
    refine L_end ?_
    intro w19 hw19
    change ∃ r' : Nat, r' < r_1 ∧ _
    refine ⟨_, ?_, i + 1, g9, cap_9, cs_9, g11, cap_11, cs_11, ((7, .int .i64 ((i : Int) + 1)) :: (19, .int .i64 ((i : Int) + 1)) :: (18, .int .i64 (i : Int)) :: (6, .slice (some ⟨g11, 0, none⟩) (i + 1) cap_11) :: (37, .slice (some ⟨g11, 0, none⟩) (i + 1) cap_11) :: (36, .slice (some ⟨g10, 0, none⟩) 1 1) :: (35, .int .u8 (bits .xor .u8 0 92)) :: (34, .int .u8 0) :: (33, .slice (some ⟨go, 0, none⟩) i co) :: (5, .slice (some ⟨g9, 0, none⟩) (i + 1) cap_9) :: (32, .slice (some ⟨g9, 0, none⟩) (i + 1) cap_9) :: (31, .slice (some ⟨g8, 0, none⟩) 1 1) :: (30, .int .u8 (bits .xor .u8 0 54)) :: (29, .int .u8 0) :: (28, .slice (some ⟨gi, 0, none⟩) i ci) :: (23, .bool false) :: (22, .int .i64 (32 : Int)) :: (21, .slice (some ⟨g1, 0, none⟩) 32 cap_1) :: (20, .int .i64 (i : Int)) :: (8, .int .u8 0) :: (17, .bool true) :: (16, .int .i64 (i : Int)) :: (0, .slice (some ⟨g1, 0, none⟩) 32 cap_1) :: (1, .slice A1 n1 c1) :: (5, .slice (some ⟨gi, 0, none⟩) i ci) :: (6, .slice (some ⟨go, 0, none⟩) i co) :: (7, .int .i64 (i : Int)) :: l_1), rfl, (by exact hl_1), (Eq.trans (Eq.trans (Eq.trans (Eq.trans (fr_dup _ _ 7 _ (by exact hl_1) (by rfl) (by rfl)).symm (fr_dup _ _ 6 _ (by exact hl_1) (by rfl) (by rfl)).symm) (fr_dup _ _ 5 _ (by exact hl_1) (by rfl) (by rfl)).symm) (fr_dup _ _ 1 _ (by exact hl_1) (by rfl) (by rfl)).symm) (fr_dup _ _ 0 _ (by exact hl_1) (by rfl) (by rfl)).symm), by omega, hn_9.list (mask_nextB (digest bs0) i 54 (by omega) (by omega) hlt.2) rfl, hn_11.list (mask_nextB (digest bs0) i 92 (by omega) (by omega) hlt.2) rfl, (hw19.sub (List.Sublist.cons_cons _ (List.Sublist.cons _ (List.Sublist.cons_cons _ (List.Sublist.cons _ (List.Sublist.cons_cons _ List.Sublist.slnil))))))⟩
    omega
  ·
    refine wp_seq ?_
    refine seq_plain hw0_1 [0, 1] (by rfl) ?_
    refine L_val (.int .i64 (i : Int)) (by rfl) (by exact hl_1) (gives_value _ fun _ => by rfl) ?_
    refine L_val (.bool false) (by rfl) (by exact hl_1) (gives_lss (k := .i64) ((i : Int)) (64) false (by rfl) (by rfl) (decide_eq_false (by omega))) ?_
    refine L_end ?_
    intro w20 hw20
    refine wp_cond_false (fr_at _ _ (by exact hl_1) _) ?_
    refine wp_exit ?_
    subst hlt
    change Code.wp _ _ _ _ _
    change Code.wp _ _ _ _ _
    refine seq_plain hw20 [0, 1, 2, 3, 4, 5, 6, 7] (by rfl) ?_
    refine L_val (.slice (some ⟨go, 0, none⟩) 64 co) (by rfl) (by exact hl_1) (gives_value _ fun _ => by rfl) ?_
    refine L_val (.slice (some ⟨gi, 0, none⟩) 64 ci) (by rfl) (by exact hl_1) (gives_value _ fun _ => by rfl) ?_
    refine L_val (.slice A1 n1 c1) (by rfl) (by exact hl_1) (gives_value _ fun _ => by rfl) ?_
    refine L_push 1 gi 64 ci n1 c1 1 A1 .u8 (.int .u8 0) (maskL ((padTo (digest bs0)).take 64) 54) bs1 si (by rfl) (by exact hl_1) Want.none und_u8s byte_info rfl (by rfl) (by rfl) (by rfl) hi (fun w h => ((hr1.below h.below).more h.below.size)) (by omega) (by rfl) [(go, 5, so), (g1, 5, cs_1)] (by rfl) ?_; intro g12 cap_12 cs_12 hn_12
    refine L_freshP (vl := [.slice (some ⟨g12, 0, none⟩) (64 + n1) cap_12]) 5 .u8 32 (digest ((maskL ((padTo (digest bs0)).take 64) 54) ++ bs1)) (by rfl) (by exact hl_1) Want.none (by kernel_rfl) (by rfl) (fun w h => refsum_own _ _ _ ((maskL ((padTo (digest bs0)).take 64) 54) ++ bs1) w (hn_12.reads (h.blk 0 (by rfl))) (by omega)) ?_; intro g13 cap_13 cs_13 hn_13
    refine L_push 2 go 64 co 32 cap_13 1 (some ⟨g13, 0, none⟩) .u8 (.int .u8 0) (maskL ((padTo (digest bs0)).take 64) 92) (digest ((maskL ((padTo (digest bs0)).take 64) 54) ++ bs1)) so (by rfl) (by exact hl_1) Want.none und_u8s byte_info rfl (by rfl) (by rfl) (by rfl) ho (fun w h => (hn_13.reads (h.blk 0 (by rfl)))) (by omega) (by rfl) [(g13, 5, cs_13), (g12, 5, cs_12), (g1, 5, cs_1)] (by rfl) ?_; intro g14 cap_14 cs_14 hn_14
    refine L_freshP (vl := [.slice (some ⟨g14, 0, none⟩) (64 + 32) cap_14]) 5 .u8 32 (digest ((maskL ((padTo (digest bs0)).take 64) 92) ++ (digest ((maskL ((padTo (digest bs0)).take 64) 54) ++ bs1)))) (by rfl) (by exact hl_1) Want.none (by kernel_rfl) (by rfl) (fun w h => refsum_own _ _ _ ((maskL ((padTo (digest bs0)).take 64) 92) ++ (digest ((maskL ((padTo (digest bs0)).take 64) 54) ++ bs1))) w (hn_14.reads (h.blk 0 (by rfl))) (by omega)) ?_; intro g15 cap_15 cs_15 hn_15
    refine L_val (.slice (some ⟨g15, 0, none⟩) 32 cap_15) (by rfl) (by exact hl_1) (gives_value _ fun _ => by rfl) ?_
    refine L_end ?_
    intro w21 hw21
    refine wp_ret ?_
    change bodyPost _ _ _ Exit.ret _ _
    refine (ret_tmp (by rfl) (by exact hl_1) (by rfl) ⟨_, _, _, rfl, hn_15.list (by rw [mask_full _ _ (by omega), mask_full _ _ (by omega), mac, keyB_long bs0 (by omega)]) rfl, hw21.ge 0 (by rfl), hw21.blk 0 (by rfl), hw21.below⟩)
theorem refmac_own (A0 : Option Addr) (n0 c0 : Nat) (bs0 : List Int) (A1 : Option Addr) (n1 c1 : Nat) (bs1 : List Int) (v : World) (hr0 : Reads v v.heap.size A0 n0 (bs0.map (Value.int .u8))) (hn0 : n0 ≤ 2000000) (hr1 : Reads v v.heap.size A1 n1 (bs1.map (Value.int .u8))) (hn1 : n1 ≤ 2000000) : RetsP 24 #[.slice A0 n0 c0, .slice A1 n1 c1] v 5 .u8 32 (mac bs0 bs1) := by
  by_cases hc : 64 < n0
  · exact refmac_long A0 n0 c0 bs0 A1 n1 c1 bs1 v hr0 hn0 hr1 hn1 hc
  · exact refmac_short A0 n0 c0 bs0 A1 n1 c1 bs1 v hr0 hn0 hr1 hn1 (by omega)
set_option maxRecDepth 100000 in
set_option maxHeartbeats 4000000 in
theorem refexp_own (A0 : Option Addr) (n0 c0 : Nat) (bs0 : List Int) (A1 : Option Addr) (n1 c1 : Nat) (bs1 : List Int) (N : Nat) (v : World) (hr0 : Reads v v.heap.size A0 n0 (bs0.map (Value.int .u8))) (hn0 : n0 ≤ 1000000) (hr1 : Reads v v.heap.size A1 n1 (bs1.map (Value.int .u8))) (hn1 : n1 ≤ 1000000) (hN : N ≤ 8160) : RetsP 27 #[.slice A0 n0 c0, .slice A1 n1 c1, .int .i64 N] v 5 .u8 N ((outL bs0 bs1 ((N + 31) / 32)).take N) := by
  refine calls_fr3 Tryd.func27 rfl (by rfl : _ = 42) (by rfl) ?_
  have hw := Hbl.nil v
  refine seq_plain hw [0] (by rfl) ?_
  refine L_val (.slice none 0 0) (by rfl) (by rfl) (gives_value _ fun _ => by rfl) ?_
  refine L_end ?_
  intro w1 hw1
  refine wp_seq ?_
  refine seq_plain hw1 [0, 1, 2, 3, 4, 5] (by rfl) ?_
  refine L_val (.int .i64 (N : Int)) (by rfl) (by rfl) (gives_value _ fun _ => by rfl) ?_
  refine L_val (.bool false) (by rfl) (by rfl) (gives_lss (k := .i64) ((N : Int)) (0) false (by rfl) (by rfl) (decide_eq_false (by omega))) ?_
  refine L_val (.bool false) (by rfl) (by rfl) (gives_value _ fun _ => by rfl) ?_
  refine L_val_g (dj := 13) (.int .i64 (N : Int)) (by rfl) (by rfl) (by rfl) (by rfl) (by rfl) (gives_value _ fun _ => by rfl) ?_
  refine L_val_g (dj := 13) (.bool false) (by rfl) (by rfl) (by rfl) (by rfl) (by rfl) (gives_gtr (k := .i64) ((N : Int)) (8160) false (by rfl) (by rfl) (decide_eq_false (by omega))) ?_
  refine L_val (.bool false) (by rfl) (by rfl) (gives_value _ fun _ => by rfl) ?_
  refine L_end ?_
  intro w2 hw2
  refine wp_cond_false (fr_at _ _ (by rfl) _) ?_
  refine wp_skip ?_
  change Code.wp _ _ _ _ _
  refine seq_plain hw2 [0, 1] (by rfl) ?_
  refine L_build0 1 (by rfl) (by rfl) und_u8s u8_sz ?_; intro g1; have hn_1 := Nms.nil .u8
  refine L_val (.slice (some ⟨g1, 0, none⟩) 0 0) (by rfl) (by rfl) (gives_value _ fun _ => by rfl) ?_
  refine L_end ?_
  intro w3 hw3
  refine seq_plain hw3 [0, 1] (by rfl) ?_
  refine L_build0 1 (by rfl) (by rfl) und_u8s u8_sz ?_; intro g2; have hn_2 := Nms.nil .u8
  refine L_val (.slice (some ⟨g2, 0, none⟩) 0 0) (by rfl) (by rfl) (gives_value _ fun _ => by rfl) ?_
  refine L_end ?_
  intro w4 hw4
  refine wp_seq ?_
  refine seq_plain hw4 [0] (by rfl) ?_
  refine L_val (.int .i64 1) (by rfl) (by rfl) (gives_value _ fun _ => by rfl) ?_
  refine L_end ?_
  intro w5 hw5
  refine wp_block ?_
  refine loop_down (fun (r_ : Nat) a w => ∃ (e : Nat) (go : Nat) (co : Nat) (so : Array Value) (ln : Nat) (gl : Nat) (cl : Nat) (sl : Array Value) (l_1 : List (Nat × Value)), N - 32 * e = r_ ∧ inFr 42 l_1 = true ∧ a = fr 42 ((0, .slice A0 n0 c0) :: (1, .slice A1 n1 c1) :: (2, .int .i64 (N : Int)) :: (7, .slice (some ⟨go, 0, none⟩) (32 * e) co) :: (8, .slice (some ⟨gl, 0, none⟩) ln cl) :: (9, .int .i64 ((e + 1 : Nat) : Int)) :: l_1) ∧ (32 * e < N + 32) ∧ (ln ≤ 32) ∧ (Nms .u8 so co (32 * e) (outL bs0 bs1 e)) ∧ (Nms .u8 sl cl ln (lastL bs0 bs1 e)) ∧ Hbl v [(gl, 5, sl), (go, 5, so)] w) ?_ _ _ _ ⟨0, g1, 0, #[], 0, g2, 0, #[], [(9, .int .i64 1), (8, .slice (some ⟨g2, 0, none⟩) 0 0), (18, .slice (some ⟨g2, 0, none⟩) 0 0), (7, .slice (some ⟨g1, 0, none⟩) 0 0), (17, .slice (some ⟨g1, 0, none⟩) 0 0), (16, .bool false), (15, .bool false), (14, .int .i64 (N : Int)), (13, .bool false), (12, .bool false), (11, .int .i64 (N : Int)), (6, .slice none 0 0), (2, .int .i64 (N : Int)), (1, .slice A1 n1 c1), (0, .slice A0 n0 c0)], rfl, (by rfl), (Eq.trans (Eq.trans (Eq.trans (Eq.trans (Eq.trans (fr_dup _ _ 9 _ (by rfl) (by rfl) (by rfl)).symm (fr_dup _ _ 8 _ (by rfl) (by rfl) (by rfl)).symm) (fr_dup _ _ 7 _ (by rfl) (by rfl) (by rfl)).symm) (fr_dup _ _ 2 _ (by rfl) (by rfl) (by rfl)).symm) (fr_dup _ _ 1 _ (by rfl) (by rfl) (by rfl)).symm) (fr_dup _ _ 0 _ (by rfl) (by rfl) (by rfl)).symm), by omega, Nat.zero_le _, Nms.nil .u8, Nms.nil .u8, hw5⟩
  rintro r_1 a0 w0_1 ⟨e, go, co, so, ln, gl, cl, sl, l_1, hr_1, hl_1, rfl, he, hln, ho, hl, hw0_1⟩
  by_cases hlt : 32 * e < N
  ·
    refine wp_seq ?_
    refine seq_plain hw0_1 [0, 1, 2, 3] (by rfl) ?_
    refine L_val (.slice (some ⟨go, 0, none⟩) (32 * e) co) (by rfl) (by exact hl_1) (gives_value _ fun _ => by rfl) ?_
    refine L_val (.int .i64 (((32 * e) : Nat) : Int)) (by rfl) (by exact hl_1) (gives_len _ (32 * e) co und_u8s (by rfl)) ?_
    refine L_val (.int .i64 (N : Int)) (by rfl) (by exact hl_1) (gives_value _ fun _ => by rfl) ?_
    refine L_val (.bool true) (by rfl) (by exact hl_1) (gives_lss (k := .i64) ((((32 * e) : Nat) : Int)) ((N : Int)) true (by rfl) (by rfl) (decide_eq_true (by omega))) ?_
    refine L_end ?_
    intro w6 hw6
    refine wp_cond_true (fr_at _ _ (by exact hl_1) _) ?_
    refine wp_skip ?_
    change Code.wp _ _ _ _ _
    refine wp_seq ?_
    refine wp_block ?_
    refine seq_plain hw6 [0, 1, 2, 3, 4] (by rfl) ?_
    refine L_val (.slice (some ⟨gl, 0, none⟩) ln cl) (by rfl) (by exact hl_1) (gives_value _ fun _ => by rfl) ?_
    refine L_freshP (vl := [.slice (some ⟨gl, 0, none⟩) ln cl]) 5 .u8 ln (lastL bs0 bs1 e) (by rfl) (by exact hl_1) Want.none (by kernel_rfl) (by rfl) (fun w h => c_copy w _ _ _ (lastL bs0 bs1 e) (hl.reads (h.blk 0 (by rfl))) (by omega)) ?_; intro g3 cap_3 cs_3 hn_3
    refine L_val (.slice A1 n1 c1) (by rfl) (by exact hl_1) (gives_value _ fun _ => by rfl) ?_
    refine L_push 0 g3 ln cap_3 n1 c1 1 A1 .u8 (.int .u8 0) (lastL bs0 bs1 e) bs1 cs_3 (by rfl) (by exact hl_1) Want.none und_u8s byte_info rfl (by rfl) (by rfl) (by rfl) hn_3 (fun w h => ((hr1.below h.below).more h.below.size)) (by omega) (by rfl) [(gl, 5, sl), (go, 5, so)] (by rfl) ?_; intro g4 cap_4 cs_4 hn_4
    refine L_val (.slice (some ⟨g4, 0, none⟩) (ln + n1) cap_4) (by rfl) (by exact hl_1) (gives_value _ fun _ => by rfl) ?_
    refine L_end ?_
    intro w7 hw7
    refine seq_plain hw7 [0, 1, 2, 3, 4, 5, 6, 7] (by rfl) ?_
    refine L_val (.slice A0 n0 c0) (by rfl) (by exact hl_1) (gives_value _ fun _ => by rfl) ?_
    refine L_val (.slice (some ⟨g4, 0, none⟩) (ln + n1) cap_4) (by rfl) (by exact hl_1) (gives_value _ fun _ => by rfl) ?_
    refine L_val (.int .i64 ((e + 1 : Nat) : Int)) (by rfl) (by exact hl_1) (gives_value _ fun _ => by rfl) ?_
    refine L_val (.int .u8 ((e + 1 : Nat) : Int)) (by rfl) (by exact hl_1) (gives_conv (k2 := .u8) (((e + 1 : Nat) : Int)) (((e + 1 : Nat) : Int)) (by rfl) und_int und_u8' (IntWalk.u8_in _ (by omega))) ?_
    refine L_buildV 1 (.int .u8 0) [.int .u8 ((e + 1 : Nat) : Int)] (by rfl) (by exact hl_1) Want.none und_u8s u8_zs (by rfl) (by rfl) (by rfl) (by intro u hu; simp only [List.mem_cons, List.not_mem_nil, or_false] at hu; rcases hu with rfl <;> rfl) (by rfl) (by rfl) ?_; intro g5
    have hn_5 : Nms .u8 ([.int .u8 ((e + 1 : Nat) : Int)] : List Value).toArray 1 1 [((e + 1 : Nat) : Int)] := Nms.all (by rfl) (by rfl) (by omega)
    refine L_push 1 g4 (ln + n1) cap_4 1 1 1 (some ⟨g5, 0, none⟩) .u8 (.int .u8 0) ((lastL bs0 bs1 e) ++ bs1) ([((e + 1 : Nat) : Int)]) cs_4 (by rfl) (by exact hl_1) Want.none und_u8s byte_info rfl (by rfl) (by rfl) (by rfl) hn_4 (fun w h => (hn_5.reads (h.blk 0 (by rfl)))) (by omega) (by rfl) [(g5, 5, ([.int .u8 ((e + 1 : Nat) : Int)] : List Value).toArray), (gl, 5, sl), (go, 5, so)] (by rfl) ?_; intro g6 cap_6 cs_6 hn_6
    refine L_freshP (vl := [.slice A0 n0 c0, .slice (some ⟨g6, 0, none⟩) ((ln + n1) + 1) cap_6]) 5 .u8 32 (mac bs0 (((lastL bs0 bs1 e) ++ bs1) ++ ([((e + 1 : Nat) : Int)]))) (by rfl) (by exact hl_1) Want.none (by kernel_rfl) (by rfl) (fun w h => refmac_own _ _ _ bs0 _ _ _ (((lastL bs0 bs1 e) ++ bs1) ++ ([((e + 1 : Nat) : Int)])) w ((hr0.below h.below).more h.below.size) (by omega) (hn_6.reads (h.blk 0 (by rfl))) (by omega)) ?_; intro g7 cap_7 cs_7 hn_7
    refine L_val (.slice (some ⟨g7, 0, none⟩) 32 cap_7) (by rfl) (by exact hl_1) (gives_value _ fun _ => by rfl) ?_
    refine L_end ?_
    intro w8 hw8
    refine one_plain hw8 [0, 1, 2, 3] (by rfl) ?_
    refine L_val (.slice (some ⟨go, 0, none⟩) (32 * e) co) (by rfl) (by exact hl_1) (gives_value _ fun _ => by rfl) ?_
    refine L_val (.slice (some ⟨g7, 0, none⟩) 32 cap_7) (by rfl) (by exact hl_1) (gives_value _ fun _ => by rfl) ?_
    refine L_push 4 go (32 * e) co 32 cap_7 1 (some ⟨g7, 0, none⟩) .u8 (.int .u8 0) (outL bs0 bs1 e) (mac bs0 (((lastL bs0 bs1 e) ++ bs1) ++ ([((e + 1 : Nat) : Int)]))) so (by rfl) (by exact hl_1) Want.none und_u8s byte_info rfl (by rfl) (by rfl) (by rfl) ho (fun w h => (hn_7.reads (h.blk 0 (by rfl)))) (by omega) (by rfl) [(g7, 5, cs_7), (g6, 5, cs_6), (g5, 5, ([.int .u8 ((e + 1 : Nat) : Int)] : List Value).toArray), (gl, 5, sl)] (by rfl) ?_; intro g8 cap_8 cs_8 hn_8
    refine L_val (.slice (some ⟨g8, 0, none⟩) ((32 * e) + 32) cap_8) (by rfl) (by exact hl_1) (gives_value _ fun _ => by rfl) ?_
    refine L_end ?_
    intro w9 hw9
    change Code.wp _ _ _ _ _
    refine one_plain hw9 [0, 1, 2] (by rfl) ?_
    refine L_val (.int .i64 ((e + 1 : Nat) : Int)) (by rfl) (by exact hl_1) (gives_value _ fun _ => by rfl) ?_
    refine L_val (.int .i64 (((e + 1 : Nat) : Int) + 1)) (by rfl) (by exact hl_1) (gives_add (k := .i64) (((e + 1 : Nat) : Int)) (1) (((e + 1 : Nat) : Int) + 1) (by rfl) (by rfl) (IntWalk.i64_in _ (by omega))) ?_
    refine L_val (.int .i64 (((e + 1 : Nat) : Int) + 1)) (by rfl) (by exact hl_1) (gives_value _ fun _ => by rfl) ?_
    refine L_end ?_
    intro w10 hw10
    change ∃ r' : Nat, r' < r_1 ∧ _
    refine ⟨_, ?_, e + 1, g8, cap_8, cs_8, 32, g7, cap_7, cs_7, ((9, .int .i64 (((e + 1 : Nat) : Int) + 1)) :: (24, .int .i64 (((e + 1 : Nat) : Int) + 1)) :: (23, .int .i64 ((e + 1 : Nat) : Int)) :: (7, .slice (some ⟨g8, 0, none⟩) ((32 * e) + 32) cap_8) :: (38, .slice (some ⟨g8, 0, none⟩) ((32 * e) + 32) cap_8) :: (37, .slice (some ⟨g7, 0, none⟩) 32 cap_7) :: (36, .slice (some ⟨go, 0, none⟩) (32 * e) co) :: (8, .slice (some ⟨g7, 0, none⟩) 32 cap_7) :: (35, .slice (some ⟨g7, 0, none⟩) 32 cap_7) :: (34, .slice (some ⟨g6, 0, none⟩) ((ln + n1) + 1) cap_6) :: (33, .slice (some ⟨g5, 0, none⟩) 1 1) :: (32, .int .u8 ((e + 1 : Nat) : Int)) :: (31, .int .i64 ((e + 1 : Nat) : Int)) :: (30, .slice (some ⟨g4, 0, none⟩) (ln + n1) cap_4) :: (29, .slice A0 n0 c0) :: (10, .slice (some ⟨g4, 0, none⟩) (ln + n1) cap_4) :: (28, .slice (some ⟨g4, 0, none⟩) (ln + n1) cap_4) :: (27, .slice A1 n1 c1) :: (26, .slice (some ⟨g3, 0, none⟩) ln cap_3) :: (25, .slice (some ⟨gl, 0, none⟩) ln cl) :: (22, .bool true) :: (21, .int .i64 (N : Int)) :: (20, .int .i64 (((32 * e) : Nat) : Int)) :: (19, .slice (some ⟨go, 0, none⟩) (32 * e) co) :: (0, .slice A0 n0 c0) :: (1, .slice A1 n1 c1) :: (2, .int .i64 (N : Int)) :: (7, .slice (some ⟨go, 0, none⟩) (32 * e) co) :: (8, .slice (some ⟨gl, 0, none⟩) ln cl) :: (9, .int .i64 ((e + 1 : Nat) : Int)) :: l_1), rfl, (by exact hl_1), (Eq.trans (Eq.trans (Eq.trans (Eq.trans (Eq.trans (fr_dup _ _ 9 _ (by exact hl_1) (by rfl) (by exact (congrArg (Value.int .i64) (by omega)))).symm (fr_dup _ _ 8 _ (by exact hl_1) (by rfl) (by rfl)).symm) (fr_dup _ _ 7 _ (by exact hl_1) (by rfl) (by rfl)).symm) (fr_dup _ _ 2 _ (by exact hl_1) (by rfl) (by rfl)).symm) (fr_dup _ _ 1 _ (by exact hl_1) (by rfl) (by rfl)).symm) (fr_dup _ _ 0 _ (by exact hl_1) (by rfl) (by rfl)).symm), by omega, Nat.le_refl _, hn_8.list (by rw [lastL_next', outL_next]) rfl, hn_7.list (by rw [lastL_next']) rfl, ((hw10.sub (List.Sublist.cons_cons _ (List.Sublist.cons_cons _ (List.Sublist.cons _ (List.Sublist.cons _ (List.Sublist.cons _ List.Sublist.slnil)))))).perm (List.Perm.swap _ _ _))⟩
    omega
  ·
    refine wp_seq ?_
    refine seq_plain hw0_1 [0, 1, 2, 3] (by rfl) ?_
    refine L_val (.slice (some ⟨go, 0, none⟩) (32 * e) co) (by rfl) (by exact hl_1) (gives_value _ fun _ => by rfl) ?_
    refine L_val (.int .i64 (((32 * e) : Nat) : Int)) (by rfl) (by exact hl_1) (gives_len _ (32 * e) co und_u8s (by rfl)) ?_
    refine L_val (.int .i64 (N : Int)) (by rfl) (by exact hl_1) (gives_value _ fun _ => by rfl) ?_
    refine L_val (.bool false) (by rfl) (by exact hl_1) (gives_lss (k := .i64) ((((32 * e) : Nat) : Int)) ((N : Int)) false (by rfl) (by rfl) (decide_eq_false (by omega))) ?_
    refine L_end ?_
    intro w11 hw11
    refine wp_cond_false (fr_at _ _ (by exact hl_1) _) ?_
    refine wp_exit ?_
    have heN : e = (N + 31) / 32 := by omega
    change Code.wp _ _ _ _ _
    change Code.wp _ _ _ _ _
    refine seq_plain hw11 [0, 1, 2, 3] (by rfl) ?_
    refine L_val (.slice (some ⟨go, 0, none⟩) (32 * e) co) (by rfl) (by exact hl_1) (gives_value _ fun _ => by rfl) ?_
    refine L_val (.int .i64 (N : Int)) (by rfl) (by exact hl_1) (gives_value _ fun _ => by rfl) ?_
    refine L_val (.slice (some ⟨go, 0, none⟩) N co) (by rfl) (by exact hl_1) (gives_slice_to go (32 * e) co N ((N : Int)) (by rfl) (by rfl) und_u8s u8_sz rfl (by have := ho.le; omega)) ?_
    refine L_val (.slice (some ⟨go, 0, none⟩) N co) (by rfl) (by exact hl_1) (gives_value _ fun _ => by rfl) ?_
    refine L_end ?_
    intro w12 hw12
    refine wp_ret ?_
    change bodyPost _ _ _ Exit.ret _ _
    refine (ret_tmp (by rfl) (by exact hl_1) (by rfl) ⟨go, co, so, rfl, (ho.cutTo (by omega)).list (by rw [heN]) rfl, hw12.ge 1 (by rfl), hw12.blk 1 (by rfl), hw12.below⟩)
end Go.Proofs.YtgkfkfodeooogaaDoor
