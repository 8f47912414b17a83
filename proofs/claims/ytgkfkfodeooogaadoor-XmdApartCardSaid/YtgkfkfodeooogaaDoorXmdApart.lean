/-
  XmdApart: the walk.
-/
import Derived.Test.YtgkfkfodeooogaaDoorXmE
namespace Go.Proofs.YtgkfkfodeooogaaDoor
set_option linter.unusedSimpArgs false
set_option linter.unusedVariables false
open Go.RowKit
attribute [local irreducible] wpL wpF fr Code.wp bodyPost
theorem calls_fr6 {P : Program} {f : FuncId} {fn : Func} {c : Code} {w : World} {R : Ending → World → Prop} {n : Nat} (hf : P.funcs[f]? = some fn) (hb : fn.body = some c) (hn : fn.ntmps = n) (h1 : Nat.ble 6 n = true) {a b d e' f' g' : Value} (h : c.wp P (bodyPost P fn R) (fr n [(5, g'), (4, f'), (3, e'), (2, d), (1, b), (0, a)]) w) : Calls P f #[a, b, d, e', f', g'] w R := by
  have hle := Nat.le_of_ble_eq_true h1
  refine calls_of_wp hf hb ?_
  rw [hn]
  have e := ent_put n [] a (by simp; omega)
  rw [List.length_nil, ent_nil] at e
  have e2 := ent_put n [a] b (by simp; omega)
  have e3 := ent_put n [a, b] d (by simp; omega)
  have e4 := ent_put n [a, b, d] e' (by simp; omega)
  have e5 := ent_put n [a, b, d, e'] f' (by simp; omega)
  have e6 := ent_put n [a, b, d, e', f'] g' (by simp; omega)
  have e7 : fr n [(5, g'), (4, f'), (3, e'), (2, d), (1, b), (0, a)] = { tmps := #[a, b, d, e', f', g'] ++ Array.replicate (n - (#[a, b, d, e', f', g'] : Array Value).size) undef, defers := [] } := by
    rw [← fr_put n 5, ← fr_put n 4, ← fr_put n 3, ← fr_put n 2, ← fr_put n 1, ← fr_put n 0, e]
    exact (congrArg (fun x : Act => (((x.put (some 2) d).put (some 3) e').put (some 4) f').put (some 5) g') e2).trans ((congrArg (fun x : Act => ((x.put (some 3) e').put (some 4) f').put (some 5) g') e3).trans ((congrArg (fun x : Act => (x.put (some 4) f').put (some 5) g') e4).trans ((congrArg (fun x : Act => x.put (some 5) g') e5).trans e6)))
  rw [← e7]; exact h

set_option maxRecDepth 100000 in
set_option maxHeartbeats 4000000 in
theorem apart_long (A0 : Option Addr) (n0 c0 : Nat) (bs0 : List Int) (A1 : Option Addr) (n1 c1 : Nat) (bs1 : List Int) (A2 : Option Addr) (n2 c2 : Nat) (bs2 : List Int) (A3 : Option Addr) (n3 c3 : Nat) (bs3 : List Int) (N N2 : Int) (M M2 : Nat) (v : World) (hr0 : Reads v v.heap.size A0 n0 (bs0.map (Value.int .u8))) (hnc0 : n0 ≤ c0) (hr1 : Reads v v.heap.size A1 n1 (bs1.map (Value.int .u8))) (hnc1 : n1 ≤ c1) (hr2 : Reads v v.heap.size A2 n2 (bs2.map (Value.int .u8))) (hnc2 : n2 ≤ c2) (hr3 : Reads v v.heap.size A3 n3 (bs3.map (Value.int .u8))) (hnc3 : n3 ≤ c3) (hl0 : n0 ≤ 140737488351232) (hl1 : n1 ≤ 140737488351232) (hl2 : n2 ≤ 140737488351232) (hl3 : n3 ≤ 140737488351232) (hgl : Glob v) (h2 : 2 ≤ v.heap.size) (hM : (M : Int) = 32 + N % 64) (hM2 : (M2 : Int) = 32 + N2 % 64) (hs : 4096 < n0 + n1 + n2 + n3) : Rets 9 #[.slice A0 n0 c0, .slice A1 n1 c1, .slice A2 n2 c2, .slice A3 n3 c3, .int .i64 N, .int .i64 N2] v (.bool true) := by
  refine calls_fr6 Tryd.func9 rfl (by rfl : _ = 91) (by rfl) ?_
  have hw := Hbl.nil v
  refine seq_plain hw [0] (by rfl) ?_
  refine L_val (.bool false) (by rfl) (by rfl) (gives_value _ fun _ => by rfl) ?_
  refine L_end ?_
  intro w1 hw1
  refine wp_seq ?_
  refine seq_plain hw1 [0, 1] (by rfl) ?_
  refine L_val (.bool true) (by rfl) (by rfl) (gives_call (vl := []) (by kernel_rfl) (by rfl) (fun w h => x_head w (hgl.below h.below h2) (Nat.le_trans h2 h.below.size))) ?_
  refine L_val (.bool false) (by rfl) (by rfl) (gives_value _ fun _ => by rfl) ?_
  refine L_end ?_
  intro w2 hw2
  refine wp_cond_false (fr_at _ _ (by rfl) _) ?_
  refine wp_skip ?_
  change Code.wp _ _ _ _ _
  refine wp_seq ?_
  refine seq_plain hw2 [0, 1, 2, 3, 4, 5, 6, 7, 8, 9, 10, 11] (by rfl) ?_
  refine L_val (.slice A0 n0 c0) (by rfl) (by rfl) (gives_value _ fun _ => by rfl) ?_
  refine L_val (.int .i64 (n0 : Int)) (by rfl) (by rfl) (gives_len _ n0 c0 und_u8s (by rfl)) ?_
  refine L_val (.slice A1 n1 c1) (by rfl) (by rfl) (gives_value _ fun _ => by rfl) ?_
  refine L_val (.int .i64 (n1 : Int)) (by rfl) (by rfl) (gives_len _ n1 c1 und_u8s (by rfl)) ?_
  refine L_val (.int .i64 ((n0 : Int) + (n1 : Int))) (by rfl) (by rfl) (gives_add (k := .i64) ((n0 : Int)) ((n1 : Int)) ((n0 : Int) + (n1 : Int)) (by rfl) (by rfl) (IntWalk.i64_in _ (by omega))) ?_
  refine L_val (.slice A2 n2 c2) (by rfl) (by rfl) (gives_value _ fun _ => by rfl) ?_
  refine L_val (.int .i64 (n2 : Int)) (by rfl) (by rfl) (gives_len _ n2 c2 und_u8s (by rfl)) ?_
  refine L_val (.int .i64 (((n0 : Int) + (n1 : Int)) + (n2 : Int))) (by rfl) (by rfl) (gives_add (k := .i64) ((n0 : Int) + (n1 : Int)) ((n2 : Int)) (((n0 : Int) + (n1 : Int)) + (n2 : Int)) (by rfl) (by rfl) (IntWalk.i64_in _ (by omega))) ?_
  refine L_val (.slice A3 n3 c3) (by rfl) (by rfl) (gives_value _ fun _ => by rfl) ?_
  refine L_val (.int .i64 (n3 : Int)) (by rfl) (by rfl) (gives_len _ n3 c3 und_u8s (by rfl)) ?_
  refine L_val (.int .i64 ((((n0 : Int) + (n1 : Int)) + (n2 : Int)) + (n3 : Int))) (by rfl) (by rfl) (gives_add (k := .i64) (((n0 : Int) + (n1 : Int)) + (n2 : Int)) ((n3 : Int)) ((((n0 : Int) + (n1 : Int)) + (n2 : Int)) + (n3 : Int)) (by rfl) (by rfl) (IntWalk.i64_in _ (by omega))) ?_
  refine L_val (.bool true) (by rfl) (by rfl) (gives_gtr (k := .i64) ((((n0 : Int) + (n1 : Int)) + (n2 : Int)) + (n3 : Int)) (4096) true (by rfl) (by rfl) (decide_eq_true (by omega))) ?_
  refine L_end ?_
  intro w3 hw3
  refine wp_cond_true (fr_at _ _ (by rfl) _) ?_
  refine seq_plain hw3 [0] (by rfl) ?_
  refine L_val (.bool true) (by rfl) (by rfl) (gives_value _ fun _ => by rfl) ?_
  refine L_end ?_
  intro w4 hw4
  refine wp_ret ?_
  change bodyPost _ _ _ Exit.ret _ _
  refine (ret_tmp (by rfl) (by rfl) (by rfl) ⟨rfl, hw4.below⟩)
set_option maxRecDepth 100000 in
set_option maxHeartbeats 4000000 in
theorem apart_d1 (A0 : Option Addr) (n0 c0 : Nat) (bs0 : List Int) (A1 : Option Addr) (n1 c1 : Nat) (bs1 : List Int) (A2 : Option Addr) (n2 c2 : Nat) (bs2 : List Int) (A3 : Option Addr) (n3 c3 : Nat) (bs3 : List Int) (N N2 : Int) (M M2 : Nat) (v : World) (hr0 : Reads v v.heap.size A0 n0 (bs0.map (Value.int .u8))) (hnc0 : n0 ≤ c0) (hr1 : Reads v v.heap.size A1 n1 (bs1.map (Value.int .u8))) (hnc1 : n1 ≤ c1) (hr2 : Reads v v.heap.size A2 n2 (bs2.map (Value.int .u8))) (hnc2 : n2 ≤ c2) (hr3 : Reads v v.heap.size A3 n3 (bs3.map (Value.int .u8))) (hnc3 : n3 ≤ c3) (hl0 : n0 ≤ 140737488351232) (hl1 : n1 ≤ 140737488351232) (hl2 : n2 ≤ 140737488351232) (hl3 : n3 ≤ 140737488351232) (hgl : Glob v) (h2 : 2 ≤ v.heap.size) (hM : (M : Int) = 32 + N % 64) (hM2 : (M2 : Int) = 32 + N2 % 64) (hs : n0 + n1 + n2 + n3 ≤ 4096) (hne : bs0 ≠ bs1) : Rets 9 #[.slice A0 n0 c0, .slice A1 n1 c1, .slice A2 n2 c2, .slice A3 n3 c3, .int .i64 N, .int .i64 N2] v (.bool true) := by
  refine calls_fr6 Tryd.func9 rfl (by rfl : _ = 91) (by rfl) ?_
  have hw := Hbl.nil v
  refine seq_plain hw [0] (by rfl) ?_
  refine L_val (.bool false) (by rfl) (by rfl) (gives_value _ fun _ => by rfl) ?_
  refine L_end ?_
  intro w1 hw1
  refine wp_seq ?_
  refine seq_plain hw1 [0, 1] (by rfl) ?_
  refine L_val (.bool true) (by rfl) (by rfl) (gives_call (vl := []) (by kernel_rfl) (by rfl) (fun w h => x_head w (hgl.below h.below h2) (Nat.le_trans h2 h.below.size))) ?_
  refine L_val (.bool false) (by rfl) (by rfl) (gives_value _ fun _ => by rfl) ?_
  refine L_end ?_
  intro w2 hw2
  refine wp_cond_false (fr_at _ _ (by rfl) _) ?_
  refine wp_skip ?_
  change Code.wp _ _ _ _ _
  refine wp_seq ?_
  refine seq_plain hw2 [0, 1, 2, 3, 4, 5, 6, 7, 8, 9, 10, 11] (by rfl) ?_
  refine L_val (.slice A0 n0 c0) (by rfl) (by rfl) (gives_value _ fun _ => by rfl) ?_
  refine L_val (.int .i64 (n0 : Int)) (by rfl) (by rfl) (gives_len _ n0 c0 und_u8s (by rfl)) ?_
  refine L_val (.slice A1 n1 c1) (by rfl) (by rfl) (gives_value _ fun _ => by rfl) ?_
  refine L_val (.int .i64 (n1 : Int)) (by rfl) (by rfl) (gives_len _ n1 c1 und_u8s (by rfl)) ?_
  refine L_val (.int .i64 ((n0 : Int) + (n1 : Int))) (by rfl) (by rfl) (gives_add (k := .i64) ((n0 : Int)) ((n1 : Int)) ((n0 : Int) + (n1 : Int)) (by rfl) (by rfl) (IntWalk.i64_in _ (by omega))) ?_
  refine L_val (.slice A2 n2 c2) (by rfl) (by rfl) (gives_value _ fun _ => by rfl) ?_
  refine L_val (.int .i64 (n2 : Int)) (by rfl) (by rfl) (gives_len _ n2 c2 und_u8s (by rfl)) ?_
  refine L_val (.int .i64 (((n0 : Int) + (n1 : Int)) + (n2 : Int))) (by rfl) (by rfl) (gives_add (k := .i64) ((n0 : Int) + (n1 : Int)) ((n2 : Int)) (((n0 : Int) + (n1 : Int)) + (n2 : Int)) (by rfl) (by rfl) (IntWalk.i64_in _ (by omega))) ?_
  refine L_val (.slice A3 n3 c3) (by rfl) (by rfl) (gives_value _ fun _ => by rfl) ?_
  refine L_val (.int .i64 (n3 : Int)) (by rfl) (by rfl) (gives_len _ n3 c3 und_u8s (by rfl)) ?_
  refine L_val (.int .i64 ((((n0 : Int) + (n1 : Int)) + (n2 : Int)) + (n3 : Int))) (by rfl) (by rfl) (gives_add (k := .i64) (((n0 : Int) + (n1 : Int)) + (n2 : Int)) ((n3 : Int)) ((((n0 : Int) + (n1 : Int)) + (n2 : Int)) + (n3 : Int)) (by rfl) (by rfl) (IntWalk.i64_in _ (by omega))) ?_
  refine L_val (.bool false) (by rfl) (by rfl) (gives_gtr (k := .i64) ((((n0 : Int) + (n1 : Int)) + (n2 : Int)) + (n3 : Int)) (4096) false (by rfl) (by rfl) (decide_eq_false (by omega))) ?_
  refine L_end ?_
  intro w3 hw3
  refine wp_cond_false (fr_at _ _ (by rfl) _) ?_
  refine wp_skip ?_
  change Code.wp _ _ _ _ _
  refine seq_plain hw3 [0, 1, 2, 3] (by rfl) ?_
  refine L_val (.int .i64 N) (by rfl) (by rfl) (gives_value _ fun _ => by rfl) ?_
  refine L_val (.int .i64 (N % 64)) (by rfl) (by rfl) (gives_and (k := .i64) (N) 63 (N % 64) (by rfl) (by rfl) (and_63 _)) ?_
  refine L_val (.int .i64 (M : Int)) (by rfl) (by rfl) (gives_add (k := .i64) 32 (N % 64) (M : Int) (by rfl) (by rfl) ((IntWalk.i64_in _ (by omega)).trans (by omega))) ?_
  refine L_val (.int .i64 (M : Int)) (by rfl) (by rfl) (gives_value _ fun _ => by rfl) ?_
  refine L_end ?_
  intro w4 hw4
  refine seq_plain hw4 [0, 1, 2, 3] (by rfl) ?_
  refine L_val (.int .i64 N2) (by rfl) (by rfl) (gives_value _ fun _ => by rfl) ?_
  refine L_val (.int .i64 (N2 % 64)) (by rfl) (by rfl) (gives_and (k := .i64) (N2) 63 (N2 % 64) (by rfl) (by rfl) (and_63 _)) ?_
  refine L_val (.int .i64 (M2 : Int)) (by rfl) (by rfl) (gives_add (k := .i64) 32 (N2 % 64) (M2 : Int) (by rfl) (by rfl) ((IntWalk.i64_in _ (by omega)).trans (by omega))) ?_
  refine L_val (.int .i64 (M2 : Int)) (by rfl) (by rfl) (gives_value _ fun _ => by rfl) ?_
  refine L_end ?_
  intro w5 hw5
  refine seq_plain hw5 [0, 1, 2, 3, 4, 5, 6, 7, 8, 9, 10] (by rfl) ?_
  refine L_val (.slice A0 n0 c0) (by rfl) (by rfl) (gives_value _ fun _ => by rfl) ?_
  refine L_freshP (vl := [.slice A0 n0 c0]) 5 .u8 n0 bs0 (by rfl) (by rfl) Want.none (by kernel_rfl) (by rfl) (fun w h => c_copy w _ _ _ bs0 ((hr0.below h.below).more h.below.size) (by omega)) ?_; intro g1 cap_1 cs_1 hn_1
  refine L_val (.slice A2 n2 c2) (by rfl) (by rfl) (gives_value _ fun _ => by rfl) ?_
  refine L_freshP (vl := [.slice A2 n2 c2]) 5 .u8 n2 bs2 (by rfl) (by rfl) Want.none (by kernel_rfl) (by rfl) (fun w h => c_copy w _ _ _ bs2 ((hr2.below h.below).more h.below.size) (by omega)) ?_; intro g2 cap_2 cs_2 hn_2
  refine L_val (.int .i64 (M : Int)) (by rfl) (by rfl) (gives_value _ fun _ => by rfl) ?_
  refine L_freshT (vl := [.slice (some ⟨g1, 0, none⟩) n0 cap_1, .slice (some ⟨g2, 0, none⟩) n2 cap_2, .int .i64 (M : Int)]) M (expandL bs0 bs2 M) (by rfl) (by rfl) Want.none (by kernel_rfl) (by rfl) (fun w h => x_expand _ _ _ bs0 _ _ _ bs2 M w (hn_1.reads (h.blk 1 (by rfl))) (hn_1.le) (hn_2.reads (h.blk 0 (by rfl))) (hn_2.le) (hgl.below h.below h2) (Nat.le_trans h2 h.below.size) (by omega) (by omega) (by omega)) ?_; intro g3 cap_3 cs_3 hn_3
  refine L_val (.tuple #[.slice (some ⟨g3, 0, none⟩) M M, .int .i64 0]) (by rfl) (by rfl) (gives_value _ fun _ => by rfl) ?_
  refine L_val (.slice (some ⟨g3, 0, none⟩) M M) (by rfl) (by rfl) (gives_value _ fun _ => by kernel_rfl) ?_
  refine L_val (.int .i64 0) (by rfl) (by rfl) (gives_value _ fun _ => by kernel_rfl) ?_
  refine L_val (.slice (some ⟨g3, 0, none⟩) M M) (by rfl) (by rfl) (gives_value _ fun _ => by rfl) ?_
  refine L_val (.int .i64 0) (by rfl) (by rfl) (gives_value _ fun _ => by rfl) ?_
  refine L_end ?_
  intro w6 hw6
  refine seq_plain hw6 [0, 1, 2, 3, 4, 5, 6, 7, 8, 9, 10] (by rfl) ?_
  refine L_val (.slice A1 n1 c1) (by rfl) (by rfl) (gives_value _ fun _ => by rfl) ?_
  refine L_freshP (vl := [.slice A1 n1 c1]) 5 .u8 n1 bs1 (by rfl) (by rfl) Want.none (by kernel_rfl) (by rfl) (fun w h => c_copy w _ _ _ bs1 ((hr1.below h.below).more h.below.size) (by omega)) ?_; intro g4 cap_4 cs_4 hn_4
  refine L_val (.slice A3 n3 c3) (by rfl) (by rfl) (gives_value _ fun _ => by rfl) ?_
  refine L_freshP (vl := [.slice A3 n3 c3]) 5 .u8 n3 bs3 (by rfl) (by rfl) Want.none (by kernel_rfl) (by rfl) (fun w h => c_copy w _ _ _ bs3 ((hr3.below h.below).more h.below.size) (by omega)) ?_; intro g5 cap_5 cs_5 hn_5
  refine L_val (.int .i64 (M2 : Int)) (by rfl) (by rfl) (gives_value _ fun _ => by rfl) ?_
  refine L_freshT (vl := [.slice (some ⟨g4, 0, none⟩) n1 cap_4, .slice (some ⟨g5, 0, none⟩) n3 cap_5, .int .i64 (M2 : Int)]) M2 (expandL bs1 bs3 M2) (by rfl) (by rfl) Want.none (by kernel_rfl) (by rfl) (fun w h => x_expand _ _ _ bs1 _ _ _ bs3 M2 w (hn_4.reads (h.blk 1 (by rfl))) (hn_4.le) (hn_5.reads (h.blk 0 (by rfl))) (hn_5.le) (hgl.below h.below h2) (Nat.le_trans h2 h.below.size) (by omega) (by omega) (by omega)) ?_; intro g6 cap_6 cs_6 hn_6
  refine L_val (.tuple #[.slice (some ⟨g6, 0, none⟩) M2 M2, .int .i64 0]) (by rfl) (by rfl) (gives_value _ fun _ => by rfl) ?_
  refine L_val (.slice (some ⟨g6, 0, none⟩) M2 M2) (by rfl) (by rfl) (gives_value _ fun _ => by kernel_rfl) ?_
  refine L_val (.int .i64 0) (by rfl) (by rfl) (gives_value _ fun _ => by kernel_rfl) ?_
  refine L_val (.slice (some ⟨g6, 0, none⟩) M2 M2) (by rfl) (by rfl) (gives_value _ fun _ => by rfl) ?_
  refine L_val (.int .i64 0) (by rfl) (by rfl) (gives_value _ fun _ => by rfl) ?_
  refine L_end ?_
  intro w7 hw7
  refine wp_seq ?_
  refine seq_plain hw7 [0, 1, 2, 3, 4, 5, 6, 7, 8, 9, 10, 11, 12, 13, 14, 15, 16, 17] (by rfl) ?_
  refine L_val (.int .i64 0) (by rfl) (by rfl) (gives_value _ fun _ => by rfl) ?_
  refine L_val (.bool false) (by rfl) (by rfl) (gives_ine (k := .i64) (0) (0) false (by rfl) (by rfl) (decide_eq_false (by omega))) ?_
  refine L_val (.bool false) (by rfl) (by rfl) (gives_value _ fun _ => by rfl) ?_
  refine L_val_g (dj := 57) (.int .i64 0) (by rfl) (by rfl) (by rfl) (by rfl) (by rfl) (gives_value _ fun _ => by rfl) ?_
  refine L_val_g (dj := 57) (.bool false) (by rfl) (by rfl) (by rfl) (by rfl) (by rfl) (gives_ine (k := .i64) (0) (0) false (by rfl) (by rfl) (decide_eq_false (by omega))) ?_
  refine L_val (.bool false) (by rfl) (by rfl) (gives_value _ fun _ => by rfl) ?_
  refine L_val (.bool false) (by rfl) (by rfl) (gives_value _ fun _ => by rfl) ?_
  refine L_val_g (dj := 61) (.slice (some ⟨g3, 0, none⟩) M M) (by rfl) (by rfl) (by rfl) (by rfl) (by rfl) (gives_value _ fun _ => by rfl) ?_
  refine L_val_g (dj := 61) (.int .i64 (M : Int)) (by rfl) (by rfl) (by rfl) (by rfl) (by rfl) (gives_len _ M M und_u8s (by rfl)) ?_
  refine L_val_g (dj := 61) (.int .i64 (M : Int)) (by rfl) (by rfl) (by rfl) (by rfl) (by rfl) (gives_value _ fun _ => by rfl) ?_
  refine L_val_g (dj := 61) (.bool false) (by rfl) (by rfl) (by rfl) (by rfl) (by rfl) (gives_ine (k := .i64) ((M : Int)) ((M : Int)) false (by rfl) (by rfl) (decide_eq_false (by omega))) ?_
  refine L_val (.bool false) (by rfl) (by rfl) (gives_value _ fun _ => by rfl) ?_
  refine L_val (.bool false) (by rfl) (by rfl) (gives_value _ fun _ => by rfl) ?_
  refine L_val_g (dj := 67) (.slice (some ⟨g6, 0, none⟩) M2 M2) (by rfl) (by rfl) (by rfl) (by rfl) (by rfl) (gives_value _ fun _ => by rfl) ?_
  refine L_val_g (dj := 67) (.int .i64 (M2 : Int)) (by rfl) (by rfl) (by rfl) (by rfl) (by rfl) (gives_len _ M2 M2 und_u8s (by rfl)) ?_
  refine L_val_g (dj := 67) (.int .i64 (M2 : Int)) (by rfl) (by rfl) (by rfl) (by rfl) (by rfl) (gives_value _ fun _ => by rfl) ?_
  refine L_val_g (dj := 67) (.bool false) (by rfl) (by rfl) (by rfl) (by rfl) (by rfl) (gives_ine (k := .i64) ((M2 : Int)) ((M2 : Int)) false (by rfl) (by rfl) (decide_eq_false (by omega))) ?_
  refine L_val (.bool false) (by rfl) (by rfl) (gives_value _ fun _ => by rfl) ?_
  refine L_end ?_
  intro w8 hw8
  refine wp_cond_false (fr_at _ _ (by rfl) _) ?_
  refine wp_skip ?_
  change Code.wp _ _ _ _ _
  refine wp_seq ?_
  refine seq_plain hw8 [0, 1, 2, 3, 4, 5, 6, 7, 8, 9, 10, 11, 12, 13, 14] (by rfl) ?_
  refine L_val (.slice A0 n0 c0) (by rfl) (by rfl) (gives_value _ fun _ => by rfl) ?_
  refine L_val (.slice A1 n1 c1) (by rfl) (by rfl) (gives_value _ fun _ => by rfl) ?_
  refine L_val (.bool false) (by rfl) (by rfl) (gives_call (vl := [.slice A0 n0 c0, .slice A1 n1 c1]) (by kernel_rfl) (by rfl) (fun w h => n_same_f w _ _ _ _ _ _ (bs0) (bs1) ((hr0.below h.below).more h.below.size) ((hr1.below h.below).more h.below.size) (by omega) (by omega) hne)) ?_
  refine L_val (.bool true) (by rfl) (by rfl) (gives_value _ fun _ => by rfl) ?_
  refine L_val (.bool true) (by rfl) (by rfl) (gives_value _ fun _ => by rfl) ?_
  refine L_skip (dj := 77) (by rfl) (by rfl) (by rfl) (by rfl) (by rfl) ?_
  refine L_skip (dj := 77) (by rfl) (by rfl) (by rfl) (by rfl) (by rfl) ?_
  refine L_skip (dj := 77) (by rfl) (by rfl) (by rfl) (by rfl) (by rfl) ?_
  refine L_skip (dj := 77) (by rfl) (by rfl) (by rfl) (by rfl) (by rfl) ?_
  refine L_val (.bool true) (by rfl) (by rfl) (gives_value _ fun _ => by rfl) ?_
  refine L_val (.bool true) (by rfl) (by rfl) (gives_value _ fun _ => by rfl) ?_
  refine L_skip (dj := 83) (by rfl) (by rfl) (by rfl) (by rfl) (by rfl) ?_
  refine L_skip (dj := 83) (by rfl) (by rfl) (by rfl) (by rfl) (by rfl) ?_
  refine L_skip (dj := 83) (by rfl) (by rfl) (by rfl) (by rfl) (by rfl) ?_
  refine L_val (.bool true) (by rfl) (by rfl) (gives_value _ fun _ => by rfl) ?_
  refine L_end ?_
  intro w9 hw9
  refine wp_cond_true (fr_at _ _ (by rfl) _) ?_
  refine seq_plain hw9 [0] (by rfl) ?_
  refine L_val (.bool true) (by rfl) (by rfl) (gives_value _ fun _ => by rfl) ?_
  refine L_end ?_
  intro w10 hw10
  refine wp_ret ?_
  change bodyPost _ _ _ Exit.ret _ _
  refine (ret_tmp (by rfl) (by rfl) (by rfl) ⟨rfl, hw10.below⟩)
set_option maxRecDepth 100000 in
set_option maxHeartbeats 4000000 in
theorem apart_d2 (A0 : Option Addr) (n0 c0 : Nat) (bs0 : List Int) (A1 : Option Addr) (n1 c1 : Nat) (bs1 : List Int) (A2 : Option Addr) (n2 c2 : Nat) (bs2 : List Int) (A3 : Option Addr) (n3 c3 : Nat) (bs3 : List Int) (N N2 : Int) (M M2 : Nat) (v : World) (hr0 : Reads v v.heap.size A0 n0 (bs0.map (Value.int .u8))) (hnc0 : n0 ≤ c0) (hr1 : Reads v v.heap.size A1 n1 (bs1.map (Value.int .u8))) (hnc1 : n1 ≤ c1) (hr2 : Reads v v.heap.size A2 n2 (bs2.map (Value.int .u8))) (hnc2 : n2 ≤ c2) (hr3 : Reads v v.heap.size A3 n3 (bs3.map (Value.int .u8))) (hnc3 : n3 ≤ c3) (hl0 : n0 ≤ 140737488351232) (hl1 : n1 ≤ 140737488351232) (hl2 : n2 ≤ 140737488351232) (hl3 : n3 ≤ 140737488351232) (hgl : Glob v) (h2 : 2 ≤ v.heap.size) (hM : (M : Int) = 32 + N % 64) (hM2 : (M2 : Int) = 32 + N2 % 64) (hs : n0 + n1 + n2 + n3 ≤ 4096) (hab : bs0 = bs1) (hne : bs2 ≠ bs3) : Rets 9 #[.slice A0 n0 c0, .slice A1 n1 c1, .slice A2 n2 c2, .slice A3 n3 c3, .int .i64 N, .int .i64 N2] v (.bool true) := by
  refine calls_fr6 Tryd.func9 rfl (by rfl : _ = 91) (by rfl) ?_
  have hw := Hbl.nil v
  refine seq_plain hw [0] (by rfl) ?_
  refine L_val (.bool false) (by rfl) (by rfl) (gives_value _ fun _ => by rfl) ?_
  refine L_end ?_
  intro w1 hw1
  refine wp_seq ?_
  refine seq_plain hw1 [0, 1] (by rfl) ?_
  refine L_val (.bool true) (by rfl) (by rfl) (gives_call (vl := []) (by kernel_rfl) (by rfl) (fun w h => x_head w (hgl.below h.below h2) (Nat.le_trans h2 h.below.size))) ?_
  refine L_val (.bool false) (by rfl) (by rfl) (gives_value _ fun _ => by rfl) ?_
  refine L_end ?_
  intro w2 hw2
  refine wp_cond_false (fr_at _ _ (by rfl) _) ?_
  refine wp_skip ?_
  change Code.wp _ _ _ _ _
  refine wp_seq ?_
  refine seq_plain hw2 [0, 1, 2, 3, 4, 5, 6, 7, 8, 9, 10, 11] (by rfl) ?_
  refine L_val (.slice A0 n0 c0) (by rfl) (by rfl) (gives_value _ fun _ => by rfl) ?_
  refine L_val (.int .i64 (n0 : Int)) (by rfl) (by rfl) (gives_len _ n0 c0 und_u8s (by rfl)) ?_
  refine L_val (.slice A1 n1 c1) (by rfl) (by rfl) (gives_value _ fun _ => by rfl) ?_
  refine L_val (.int .i64 (n1 : Int)) (by rfl) (by rfl) (gives_len _ n1 c1 und_u8s (by rfl)) ?_
  refine L_val (.int .i64 ((n0 : Int) + (n1 : Int))) (by rfl) (by rfl) (gives_add (k := .i64) ((n0 : Int)) ((n1 : Int)) ((n0 : Int) + (n1 : Int)) (by rfl) (by rfl) (IntWalk.i64_in _ (by omega))) ?_
  refine L_val (.slice A2 n2 c2) (by rfl) (by rfl) (gives_value _ fun _ => by rfl) ?_
  refine L_val (.int .i64 (n2 : Int)) (by rfl) (by rfl) (gives_len _ n2 c2 und_u8s (by rfl)) ?_
  refine L_val (.int .i64 (((n0 : Int) + (n1 : Int)) + (n2 : Int))) (by rfl) (by rfl) (gives_add (k := .i64) ((n0 : Int) + (n1 : Int)) ((n2 : Int)) (((n0 : Int) + (n1 : Int)) + (n2 : Int)) (by rfl) (by rfl) (IntWalk.i64_in _ (by omega))) ?_
  refine L_val (.slice A3 n3 c3) (by rfl) (by rfl) (gives_value _ fun _ => by rfl) ?_
  refine L_val (.int .i64 (n3 : Int)) (by rfl) (by rfl) (gives_len _ n3 c3 und_u8s (by rfl)) ?_
  refine L_val (.int .i64 ((((n0 : Int) + (n1 : Int)) + (n2 : Int)) + (n3 : Int))) (by rfl) (by rfl) (gives_add (k := .i64) (((n0 : Int) + (n1 : Int)) + (n2 : Int)) ((n3 : Int)) ((((n0 : Int) + (n1 : Int)) + (n2 : Int)) + (n3 : Int)) (by rfl) (by rfl) (IntWalk.i64_in _ (by omega))) ?_
  refine L_val (.bool false) (by rfl) (by rfl) (gives_gtr (k := .i64) ((((n0 : Int) + (n1 : Int)) + (n2 : Int)) + (n3 : Int)) (4096) false (by rfl) (by rfl) (decide_eq_false (by omega))) ?_
  refine L_end ?_
  intro w3 hw3
  refine wp_cond_false (fr_at _ _ (by rfl) _) ?_
  refine wp_skip ?_
  change Code.wp _ _ _ _ _
  refine seq_plain hw3 [0, 1, 2, 3] (by rfl) ?_
  refine L_val (.int .i64 N) (by rfl) (by rfl) (gives_value _ fun _ => by rfl) ?_
  refine L_val (.int .i64 (N % 64)) (by rfl) (by rfl) (gives_and (k := .i64) (N) 63 (N % 64) (by rfl) (by rfl) (and_63 _)) ?_
  refine L_val (.int .i64 (M : Int)) (by rfl) (by rfl) (gives_add (k := .i64) 32 (N % 64) (M : Int) (by rfl) (by rfl) ((IntWalk.i64_in _ (by omega)).trans (by omega))) ?_
  refine L_val (.int .i64 (M : Int)) (by rfl) (by rfl) (gives_value _ fun _ => by rfl) ?_
  refine L_end ?_
  intro w4 hw4
  refine seq_plain hw4 [0, 1, 2, 3] (by rfl) ?_
  refine L_val (.int .i64 N2) (by rfl) (by rfl) (gives_value _ fun _ => by rfl) ?_
  refine L_val (.int .i64 (N2 % 64)) (by rfl) (by rfl) (gives_and (k := .i64) (N2) 63 (N2 % 64) (by rfl) (by rfl) (and_63 _)) ?_
  refine L_val (.int .i64 (M2 : Int)) (by rfl) (by rfl) (gives_add (k := .i64) 32 (N2 % 64) (M2 : Int) (by rfl) (by rfl) ((IntWalk.i64_in _ (by omega)).trans (by omega))) ?_
  refine L_val (.int .i64 (M2 : Int)) (by rfl) (by rfl) (gives_value _ fun _ => by rfl) ?_
  refine L_end ?_
  intro w5 hw5
  refine seq_plain hw5 [0, 1, 2, 3, 4, 5, 6, 7, 8, 9, 10] (by rfl) ?_
  refine L_val (.slice A0 n0 c0) (by rfl) (by rfl) (gives_value _ fun _ => by rfl) ?_
  refine L_freshP (vl := [.slice A0 n0 c0]) 5 .u8 n0 bs0 (by rfl) (by rfl) Want.none (by kernel_rfl) (by rfl) (fun w h => c_copy w _ _ _ bs0 ((hr0.below h.below).more h.below.size) (by omega)) ?_; intro g1 cap_1 cs_1 hn_1
  refine L_val (.slice A2 n2 c2) (by rfl) (by rfl) (gives_value _ fun _ => by rfl) ?_
  refine L_freshP (vl := [.slice A2 n2 c2]) 5 .u8 n2 bs2 (by rfl) (by rfl) Want.none (by kernel_rfl) (by rfl) (fun w h => c_copy w _ _ _ bs2 ((hr2.below h.below).more h.below.size) (by omega)) ?_; intro g2 cap_2 cs_2 hn_2
  refine L_val (.int .i64 (M : Int)) (by rfl) (by rfl) (gives_value _ fun _ => by rfl) ?_
  refine L_freshT (vl := [.slice (some ⟨g1, 0, none⟩) n0 cap_1, .slice (some ⟨g2, 0, none⟩) n2 cap_2, .int .i64 (M : Int)]) M (expandL bs0 bs2 M) (by rfl) (by rfl) Want.none (by kernel_rfl) (by rfl) (fun w h => x_expand _ _ _ bs0 _ _ _ bs2 M w (hn_1.reads (h.blk 1 (by rfl))) (hn_1.le) (hn_2.reads (h.blk 0 (by rfl))) (hn_2.le) (hgl.below h.below h2) (Nat.le_trans h2 h.below.size) (by omega) (by omega) (by omega)) ?_; intro g3 cap_3 cs_3 hn_3
  refine L_val (.tuple #[.slice (some ⟨g3, 0, none⟩) M M, .int .i64 0]) (by rfl) (by rfl) (gives_value _ fun _ => by rfl) ?_
  refine L_val (.slice (some ⟨g3, 0, none⟩) M M) (by rfl) (by rfl) (gives_value _ fun _ => by kernel_rfl) ?_
  refine L_val (.int .i64 0) (by rfl) (by rfl) (gives_value _ fun _ => by kernel_rfl) ?_
  refine L_val (.slice (some ⟨g3, 0, none⟩) M M) (by rfl) (by rfl) (gives_value _ fun _ => by rfl) ?_
  refine L_val (.int .i64 0) (by rfl) (by rfl) (gives_value _ fun _ => by rfl) ?_
  refine L_end ?_
  intro w6 hw6
  refine seq_plain hw6 [0, 1, 2, 3, 4, 5, 6, 7, 8, 9, 10] (by rfl) ?_
  refine L_val (.slice A1 n1 c1) (by rfl) (by rfl) (gives_value _ fun _ => by rfl) ?_
  refine L_freshP (vl := [.slice A1 n1 c1]) 5 .u8 n1 bs1 (by rfl) (by rfl) Want.none (by kernel_rfl) (by rfl) (fun w h => c_copy w _ _ _ bs1 ((hr1.below h.below).more h.below.size) (by omega)) ?_; intro g4 cap_4 cs_4 hn_4
  refine L_val (.slice A3 n3 c3) (by rfl) (by rfl) (gives_value _ fun _ => by rfl) ?_
  refine L_freshP (vl := [.slice A3 n3 c3]) 5 .u8 n3 bs3 (by rfl) (by rfl) Want.none (by kernel_rfl) (by rfl) (fun w h => c_copy w _ _ _ bs3 ((hr3.below h.below).more h.below.size) (by omega)) ?_; intro g5 cap_5 cs_5 hn_5
  refine L_val (.int .i64 (M2 : Int)) (by rfl) (by rfl) (gives_value _ fun _ => by rfl) ?_
  refine L_freshT (vl := [.slice (some ⟨g4, 0, none⟩) n1 cap_4, .slice (some ⟨g5, 0, none⟩) n3 cap_5, .int .i64 (M2 : Int)]) M2 (expandL bs1 bs3 M2) (by rfl) (by rfl) Want.none (by kernel_rfl) (by rfl) (fun w h => x_expand _ _ _ bs1 _ _ _ bs3 M2 w (hn_4.reads (h.blk 1 (by rfl))) (hn_4.le) (hn_5.reads (h.blk 0 (by rfl))) (hn_5.le) (hgl.below h.below h2) (Nat.le_trans h2 h.below.size) (by omega) (by omega) (by omega)) ?_; intro g6 cap_6 cs_6 hn_6
  refine L_val (.tuple #[.slice (some ⟨g6, 0, none⟩) M2 M2, .int .i64 0]) (by rfl) (by rfl) (gives_value _ fun _ => by rfl) ?_
  refine L_val (.slice (some ⟨g6, 0, none⟩) M2 M2) (by rfl) (by rfl) (gives_value _ fun _ => by kernel_rfl) ?_
  refine L_val (.int .i64 0) (by rfl) (by rfl) (gives_value _ fun _ => by kernel_rfl) ?_
  refine L_val (.slice (some ⟨g6, 0, none⟩) M2 M2) (by rfl) (by rfl) (gives_value _ fun _ => by rfl) ?_
  refine L_val (.int .i64 0) (by rfl) (by rfl) (gives_value _ fun _ => by rfl) ?_
  refine L_end ?_
  intro w7 hw7
  refine wp_seq ?_
  refine seq_plain hw7 [0, 1, 2, 3, 4, 5, 6, 7, 8, 9, 10, 11, 12, 13, 14, 15, 16, 17] (by rfl) ?_
  refine L_val (.int .i64 0) (by rfl) (by rfl) (gives_value _ fun _ => by rfl) ?_
  refine L_val (.bool false) (by rfl) (by rfl) (gives_ine (k := .i64) (0) (0) false (by rfl) (by rfl) (decide_eq_false (by omega))) ?_
  refine L_val (.bool false) (by rfl) (by rfl) (gives_value _ fun _ => by rfl) ?_
  refine L_val_g (dj := 57) (.int .i64 0) (by rfl) (by rfl) (by rfl) (by rfl) (by rfl) (gives_value _ fun _ => by rfl) ?_
  refine L_val_g (dj := 57) (.bool false) (by rfl) (by rfl) (by rfl) (by rfl) (by rfl) (gives_ine (k := .i64) (0) (0) false (by rfl) (by rfl) (decide_eq_false (by omega))) ?_
  refine L_val (.bool false) (by rfl) (by rfl) (gives_value _ fun _ => by rfl) ?_
  refine L_val (.bool false) (by rfl) (by rfl) (gives_value _ fun _ => by rfl) ?_
  refine L_val_g (dj := 61) (.slice (some ⟨g3, 0, none⟩) M M) (by rfl) (by rfl) (by rfl) (by rfl) (by rfl) (gives_value _ fun _ => by rfl) ?_
  refine L_val_g (dj := 61) (.int .i64 (M : Int)) (by rfl) (by rfl) (by rfl) (by rfl) (by rfl) (gives_len _ M M und_u8s (by rfl)) ?_
  refine L_val_g (dj := 61) (.int .i64 (M : Int)) (by rfl) (by rfl) (by rfl) (by rfl) (by rfl) (gives_value _ fun _ => by rfl) ?_
  refine L_val_g (dj := 61) (.bool false) (by rfl) (by rfl) (by rfl) (by rfl) (by rfl) (gives_ine (k := .i64) ((M : Int)) ((M : Int)) false (by rfl) (by rfl) (decide_eq_false (by omega))) ?_
  refine L_val (.bool false) (by rfl) (by rfl) (gives_value _ fun _ => by rfl) ?_
  refine L_val (.bool false) (by rfl) (by rfl) (gives_value _ fun _ => by rfl) ?_
  refine L_val_g (dj := 67) (.slice (some ⟨g6, 0, none⟩) M2 M2) (by rfl) (by rfl) (by rfl) (by rfl) (by rfl) (gives_value _ fun _ => by rfl) ?_
  refine L_val_g (dj := 67) (.int .i64 (M2 : Int)) (by rfl) (by rfl) (by rfl) (by rfl) (by rfl) (gives_len _ M2 M2 und_u8s (by rfl)) ?_
  refine L_val_g (dj := 67) (.int .i64 (M2 : Int)) (by rfl) (by rfl) (by rfl) (by rfl) (by rfl) (gives_value _ fun _ => by rfl) ?_
  refine L_val_g (dj := 67) (.bool false) (by rfl) (by rfl) (by rfl) (by rfl) (by rfl) (gives_ine (k := .i64) ((M2 : Int)) ((M2 : Int)) false (by rfl) (by rfl) (decide_eq_false (by omega))) ?_
  refine L_val (.bool false) (by rfl) (by rfl) (gives_value _ fun _ => by rfl) ?_
  refine L_end ?_
  intro w8 hw8
  refine wp_cond_false (fr_at _ _ (by rfl) _) ?_
  refine wp_skip ?_
  change Code.wp _ _ _ _ _
  refine wp_seq ?_
  refine seq_plain hw8 [0, 1, 2, 3, 4, 5, 6, 7, 8, 9, 10, 11, 12, 13, 14] (by rfl) ?_
  refine L_val (.slice A0 n0 c0) (by rfl) (by rfl) (gives_value _ fun _ => by rfl) ?_
  refine L_val (.slice A1 n1 c1) (by rfl) (by rfl) (gives_value _ fun _ => by rfl) ?_
  refine L_val (.bool true) (by rfl) (by rfl) (gives_call (vl := [.slice A0 n0 c0, .slice A1 n1 c1]) (by kernel_rfl) (by rfl) (fun w h => n_same w _ _ _ _ _ _ (bs0) (bs1) ((hr0.below h.below).more h.below.size) ((hr1.below h.below).more h.below.size) (by omega) (by omega) hab)) ?_
  refine L_val (.bool false) (by rfl) (by rfl) (gives_value _ fun _ => by rfl) ?_
  refine L_val (.bool false) (by rfl) (by rfl) (gives_value _ fun _ => by rfl) ?_
  refine L_val_g (dj := 77) (.slice A2 n2 c2) (by rfl) (by rfl) (by rfl) (by rfl) (by rfl) (gives_value _ fun _ => by rfl) ?_
  refine L_val_g (dj := 77) (.slice A3 n3 c3) (by rfl) (by rfl) (by rfl) (by rfl) (by rfl) (gives_value _ fun _ => by rfl) ?_
  refine L_val_g (dj := 77) (.bool false) (by rfl) (by rfl) (by rfl) (by rfl) (by rfl) (gives_call (vl := [.slice A2 n2 c2, .slice A3 n3 c3]) (by kernel_rfl) (by rfl) (fun w h => n_same_f w _ _ _ _ _ _ (bs2) (bs3) ((hr2.below h.below).more h.below.size) ((hr3.below h.below).more h.below.size) (by omega) (by omega) hne)) ?_
  refine L_val_g (dj := 77) (.bool true) (by rfl) (by rfl) (by rfl) (by rfl) (by rfl) (gives_value _ fun _ => by rfl) ?_
  refine L_val (.bool true) (by rfl) (by rfl) (gives_value _ fun _ => by rfl) ?_
  refine L_val (.bool true) (by rfl) (by rfl) (gives_value _ fun _ => by rfl) ?_
  refine L_skip (dj := 83) (by rfl) (by rfl) (by rfl) (by rfl) (by rfl) ?_
  refine L_skip (dj := 83) (by rfl) (by rfl) (by rfl) (by rfl) (by rfl) ?_
  refine L_skip (dj := 83) (by rfl) (by rfl) (by rfl) (by rfl) (by rfl) ?_
  refine L_val (.bool true) (by rfl) (by rfl) (gives_value _ fun _ => by rfl) ?_
  refine L_end ?_
  intro w9 hw9
  refine wp_cond_true (fr_at _ _ (by rfl) _) ?_
  refine seq_plain hw9 [0] (by rfl) ?_
  refine L_val (.bool true) (by rfl) (by rfl) (gives_value _ fun _ => by rfl) ?_
  refine L_end ?_
  intro w10 hw10
  refine wp_ret ?_
  change bodyPost _ _ _ Exit.ret _ _
  refine (ret_tmp (by rfl) (by rfl) (by rfl) ⟨rfl, hw10.below⟩)
set_option maxRecDepth 100000 in
set_option maxHeartbeats 4000000 in
theorem apart_d3 (A0 : Option Addr) (n0 c0 : Nat) (bs0 : List Int) (A1 : Option Addr) (n1 c1 : Nat) (bs1 : List Int) (A2 : Option Addr) (n2 c2 : Nat) (bs2 : List Int) (A3 : Option Addr) (n3 c3 : Nat) (bs3 : List Int) (N N2 : Int) (M M2 : Nat) (v : World) (hr0 : Reads v v.heap.size A0 n0 (bs0.map (Value.int .u8))) (hnc0 : n0 ≤ c0) (hr1 : Reads v v.heap.size A1 n1 (bs1.map (Value.int .u8))) (hnc1 : n1 ≤ c1) (hr2 : Reads v v.heap.size A2 n2 (bs2.map (Value.int .u8))) (hnc2 : n2 ≤ c2) (hr3 : Reads v v.heap.size A3 n3 (bs3.map (Value.int .u8))) (hnc3 : n3 ≤ c3) (hl0 : n0 ≤ 140737488351232) (hl1 : n1 ≤ 140737488351232) (hl2 : n2 ≤ 140737488351232) (hl3 : n3 ≤ 140737488351232) (hgl : Glob v) (h2 : 2 ≤ v.heap.size) (hM : (M : Int) = 32 + N % 64) (hM2 : (M2 : Int) = 32 + N2 % 64) (hs : n0 + n1 + n2 + n3 ≤ 4096) (hab : bs0 = bs1) (hst : bs2 = bs3) (hMM : M ≠ M2) : Rets 9 #[.slice A0 n0 c0, .slice A1 n1 c1, .slice A2 n2 c2, .slice A3 n3 c3, .int .i64 N, .int .i64 N2] v (.bool true) := by
  refine calls_fr6 Tryd.func9 rfl (by rfl : _ = 91) (by rfl) ?_
  have hw := Hbl.nil v
  refine seq_plain hw [0] (by rfl) ?_
  refine L_val (.bool false) (by rfl) (by rfl) (gives_value _ fun _ => by rfl) ?_
  refine L_end ?_
  intro w1 hw1
  refine wp_seq ?_
  refine seq_plain hw1 [0, 1] (by rfl) ?_
  refine L_val (.bool true) (by rfl) (by rfl) (gives_call (vl := []) (by kernel_rfl) (by rfl) (fun w h => x_head w (hgl.below h.below h2) (Nat.le_trans h2 h.below.size))) ?_
  refine L_val (.bool false) (by rfl) (by rfl) (gives_value _ fun _ => by rfl) ?_
  refine L_end ?_
  intro w2 hw2
  refine wp_cond_false (fr_at _ _ (by rfl) _) ?_
  refine wp_skip ?_
  change Code.wp _ _ _ _ _
  refine wp_seq ?_
  refine seq_plain hw2 [0, 1, 2, 3, 4, 5, 6, 7, 8, 9, 10, 11] (by rfl) ?_
  refine L_val (.slice A0 n0 c0) (by rfl) (by rfl) (gives_value _ fun _ => by rfl) ?_
  refine L_val (.int .i64 (n0 : Int)) (by rfl) (by rfl) (gives_len _ n0 c0 und_u8s (by rfl)) ?_
  refine L_val (.slice A1 n1 c1) (by rfl) (by rfl) (gives_value _ fun _ => by rfl) ?_
  refine L_val (.int .i64 (n1 : Int)) (by rfl) (by rfl) (gives_len _ n1 c1 und_u8s (by rfl)) ?_
  refine L_val (.int .i64 ((n0 : Int) + (n1 : Int))) (by rfl) (by rfl) (gives_add (k := .i64) ((n0 : Int)) ((n1 : Int)) ((n0 : Int) + (n1 : Int)) (by rfl) (by rfl) (IntWalk.i64_in _ (by omega))) ?_
  refine L_val (.slice A2 n2 c2) (by rfl) (by rfl) (gives_value _ fun _ => by rfl) ?_
  refine L_val (.int .i64 (n2 : Int)) (by rfl) (by rfl) (gives_len _ n2 c2 und_u8s (by rfl)) ?_
  refine L_val (.int .i64 (((n0 : Int) + (n1 : Int)) + (n2 : Int))) (by rfl) (by rfl) (gives_add (k := .i64) ((n0 : Int) + (n1 : Int)) ((n2 : Int)) (((n0 : Int) + (n1 : Int)) + (n2 : Int)) (by rfl) (by rfl) (IntWalk.i64_in _ (by omega))) ?_
  refine L_val (.slice A3 n3 c3) (by rfl) (by rfl) (gives_value _ fun _ => by rfl) ?_
  refine L_val (.int .i64 (n3 : Int)) (by rfl) (by rfl) (gives_len _ n3 c3 und_u8s (by rfl)) ?_
  refine L_val (.int .i64 ((((n0 : Int) + (n1 : Int)) + (n2 : Int)) + (n3 : Int))) (by rfl) (by rfl) (gives_add (k := .i64) (((n0 : Int) + (n1 : Int)) + (n2 : Int)) ((n3 : Int)) ((((n0 : Int) + (n1 : Int)) + (n2 : Int)) + (n3 : Int)) (by rfl) (by rfl) (IntWalk.i64_in _ (by omega))) ?_
  refine L_val (.bool false) (by rfl) (by rfl) (gives_gtr (k := .i64) ((((n0 : Int) + (n1 : Int)) + (n2 : Int)) + (n3 : Int)) (4096) false (by rfl) (by rfl) (decide_eq_false (by omega))) ?_
  refine L_end ?_
  intro w3 hw3
  refine wp_cond_false (fr_at _ _ (by rfl) _) ?_
  refine wp_skip ?_
  change Code.wp _ _ _ _ _
  refine seq_plain hw3 [0, 1, 2, 3] (by rfl) ?_
  refine L_val (.int .i64 N) (by rfl) (by rfl) (gives_value _ fun _ => by rfl) ?_
  refine L_val (.int .i64 (N % 64)) (by rfl) (by rfl) (gives_and (k := .i64) (N) 63 (N % 64) (by rfl) (by rfl) (and_63 _)) ?_
  refine L_val (.int .i64 (M : Int)) (by rfl) (by rfl) (gives_add (k := .i64) 32 (N % 64) (M : Int) (by rfl) (by rfl) ((IntWalk.i64_in _ (by omega)).trans (by omega))) ?_
  refine L_val (.int .i64 (M : Int)) (by rfl) (by rfl) (gives_value _ fun _ => by rfl) ?_
  refine L_end ?_
  intro w4 hw4
  refine seq_plain hw4 [0, 1, 2, 3] (by rfl) ?_
  refine L_val (.int .i64 N2) (by rfl) (by rfl) (gives_value _ fun _ => by rfl) ?_
  refine L_val (.int .i64 (N2 % 64)) (by rfl) (by rfl) (gives_and (k := .i64) (N2) 63 (N2 % 64) (by rfl) (by rfl) (and_63 _)) ?_
  refine L_val (.int .i64 (M2 : Int)) (by rfl) (by rfl) (gives_add (k := .i64) 32 (N2 % 64) (M2 : Int) (by rfl) (by rfl) ((IntWalk.i64_in _ (by omega)).trans (by omega))) ?_
  refine L_val (.int .i64 (M2 : Int)) (by rfl) (by rfl) (gives_value _ fun _ => by rfl) ?_
  refine L_end ?_
  intro w5 hw5
  refine seq_plain hw5 [0, 1, 2, 3, 4, 5, 6, 7, 8, 9, 10] (by rfl) ?_
  refine L_val (.slice A0 n0 c0) (by rfl) (by rfl) (gives_value _ fun _ => by rfl) ?_
  refine L_freshP (vl := [.slice A0 n0 c0]) 5 .u8 n0 bs0 (by rfl) (by rfl) Want.none (by kernel_rfl) (by rfl) (fun w h => c_copy w _ _ _ bs0 ((hr0.below h.below).more h.below.size) (by omega)) ?_; intro g1 cap_1 cs_1 hn_1
  refine L_val (.slice A2 n2 c2) (by rfl) (by rfl) (gives_value _ fun _ => by rfl) ?_
  refine L_freshP (vl := [.slice A2 n2 c2]) 5 .u8 n2 bs2 (by rfl) (by rfl) Want.none (by kernel_rfl) (by rfl) (fun w h => c_copy w _ _ _ bs2 ((hr2.below h.below).more h.below.size) (by omega)) ?_; intro g2 cap_2 cs_2 hn_2
  refine L_val (.int .i64 (M : Int)) (by rfl) (by rfl) (gives_value _ fun _ => by rfl) ?_
  refine L_freshT (vl := [.slice (some ⟨g1, 0, none⟩) n0 cap_1, .slice (some ⟨g2, 0, none⟩) n2 cap_2, .int .i64 (M : Int)]) M (expandL bs0 bs2 M) (by rfl) (by rfl) Want.none (by kernel_rfl) (by rfl) (fun w h => x_expand _ _ _ bs0 _ _ _ bs2 M w (hn_1.reads (h.blk 1 (by rfl))) (hn_1.le) (hn_2.reads (h.blk 0 (by rfl))) (hn_2.le) (hgl.below h.below h2) (Nat.le_trans h2 h.below.size) (by omega) (by omega) (by omega)) ?_; intro g3 cap_3 cs_3 hn_3
  refine L_val (.tuple #[.slice (some ⟨g3, 0, none⟩) M M, .int .i64 0]) (by rfl) (by rfl) (gives_value _ fun _ => by rfl) ?_
  refine L_val (.slice (some ⟨g3, 0, none⟩) M M) (by rfl) (by rfl) (gives_value _ fun _ => by kernel_rfl) ?_
  refine L_val (.int .i64 0) (by rfl) (by rfl) (gives_value _ fun _ => by kernel_rfl) ?_
  refine L_val (.slice (some ⟨g3, 0, none⟩) M M) (by rfl) (by rfl) (gives_value _ fun _ => by rfl) ?_
  refine L_val (.int .i64 0) (by rfl) (by rfl) (gives_value _ fun _ => by rfl) ?_
  refine L_end ?_
  intro w6 hw6
  refine seq_plain hw6 [0, 1, 2, 3, 4, 5, 6, 7, 8, 9, 10] (by rfl) ?_
  refine L_val (.slice A1 n1 c1) (by rfl) (by rfl) (gives_value _ fun _ => by rfl) ?_
  refine L_freshP (vl := [.slice A1 n1 c1]) 5 .u8 n1 bs1 (by rfl) (by rfl) Want.none (by kernel_rfl) (by rfl) (fun w h => c_copy w _ _ _ bs1 ((hr1.below h.below).more h.below.size) (by omega)) ?_; intro g4 cap_4 cs_4 hn_4
  refine L_val (.slice A3 n3 c3) (by rfl) (by rfl) (gives_value _ fun _ => by rfl) ?_
  refine L_freshP (vl := [.slice A3 n3 c3]) 5 .u8 n3 bs3 (by rfl) (by rfl) Want.none (by kernel_rfl) (by rfl) (fun w h => c_copy w _ _ _ bs3 ((hr3.below h.below).more h.below.size) (by omega)) ?_; intro g5 cap_5 cs_5 hn_5
  refine L_val (.int .i64 (M2 : Int)) (by rfl) (by rfl) (gives_value _ fun _ => by rfl) ?_
  refine L_freshT (vl := [.slice (some ⟨g4, 0, none⟩) n1 cap_4, .slice (some ⟨g5, 0, none⟩) n3 cap_5, .int .i64 (M2 : Int)]) M2 (expandL bs1 bs3 M2) (by rfl) (by rfl) Want.none (by kernel_rfl) (by rfl) (fun w h => x_expand _ _ _ bs1 _ _ _ bs3 M2 w (hn_4.reads (h.blk 1 (by rfl))) (hn_4.le) (hn_5.reads (h.blk 0 (by rfl))) (hn_5.le) (hgl.below h.below h2) (Nat.le_trans h2 h.below.size) (by omega) (by omega) (by omega)) ?_; intro g6 cap_6 cs_6 hn_6
  refine L_val (.tuple #[.slice (some ⟨g6, 0, none⟩) M2 M2, .int .i64 0]) (by rfl) (by rfl) (gives_value _ fun _ => by rfl) ?_
  refine L_val (.slice (some ⟨g6, 0, none⟩) M2 M2) (by rfl) (by rfl) (gives_value _ fun _ => by kernel_rfl) ?_
  refine L_val (.int .i64 0) (by rfl) (by rfl) (gives_value _ fun _ => by kernel_rfl) ?_
  refine L_val (.slice (some ⟨g6, 0, none⟩) M2 M2) (by rfl) (by rfl) (gives_value _ fun _ => by rfl) ?_
  refine L_val (.int .i64 0) (by rfl) (by rfl) (gives_value _ fun _ => by rfl) ?_
  refine L_end ?_
  intro w7 hw7
  refine wp_seq ?_
  refine seq_plain hw7 [0, 1, 2, 3, 4, 5, 6, 7, 8, 9, 10, 11, 12, 13, 14, 15, 16, 17] (by rfl) ?_
  refine L_val (.int .i64 0) (by rfl) (by rfl) (gives_value _ fun _ => by rfl) ?_
  refine L_val (.bool false) (by rfl) (by rfl) (gives_ine (k := .i64) (0) (0) false (by rfl) (by rfl) (decide_eq_false (by omega))) ?_
  refine L_val (.bool false) (by rfl) (by rfl) (gives_value _ fun _ => by rfl) ?_
  refine L_val_g (dj := 57) (.int .i64 0) (by rfl) (by rfl) (by rfl) (by rfl) (by rfl) (gives_value _ fun _ => by rfl) ?_
  refine L_val_g (dj := 57) (.bool false) (by rfl) (by rfl) (by rfl) (by rfl) (by rfl) (gives_ine (k := .i64) (0) (0) false (by rfl) (by rfl) (decide_eq_false (by omega))) ?_
  refine L_val (.bool false) (by rfl) (by rfl) (gives_value _ fun _ => by rfl) ?_
  refine L_val (.bool false) (by rfl) (by rfl) (gives_value _ fun _ => by rfl) ?_
  refine L_val_g (dj := 61) (.slice (some ⟨g3, 0, none⟩) M M) (by rfl) (by rfl) (by rfl) (by rfl) (by rfl) (gives_value _ fun _ => by rfl) ?_
  refine L_val_g (dj := 61) (.int .i64 (M : Int)) (by rfl) (by rfl) (by rfl) (by rfl) (by rfl) (gives_len _ M M und_u8s (by rfl)) ?_
  refine L_val_g (dj := 61) (.int .i64 (M : Int)) (by rfl) (by rfl) (by rfl) (by rfl) (by rfl) (gives_value _ fun _ => by rfl) ?_
  refine L_val_g (dj := 61) (.bool false) (by rfl) (by rfl) (by rfl) (by rfl) (by rfl) (gives_ine (k := .i64) ((M : Int)) ((M : Int)) false (by rfl) (by rfl) (decide_eq_false (by omega))) ?_
  refine L_val (.bool false) (by rfl) (by rfl) (gives_value _ fun _ => by rfl) ?_
  refine L_val (.bool false) (by rfl) (by rfl) (gives_value _ fun _ => by rfl) ?_
  refine L_val_g (dj := 67) (.slice (some ⟨g6, 0, none⟩) M2 M2) (by rfl) (by rfl) (by rfl) (by rfl) (by rfl) (gives_value _ fun _ => by rfl) ?_
  refine L_val_g (dj := 67) (.int .i64 (M2 : Int)) (by rfl) (by rfl) (by rfl) (by rfl) (by rfl) (gives_len _ M2 M2 und_u8s (by rfl)) ?_
  refine L_val_g (dj := 67) (.int .i64 (M2 : Int)) (by rfl) (by rfl) (by rfl) (by rfl) (by rfl) (gives_value _ fun _ => by rfl) ?_
  refine L_val_g (dj := 67) (.bool false) (by rfl) (by rfl) (by rfl) (by rfl) (by rfl) (gives_ine (k := .i64) ((M2 : Int)) ((M2 : Int)) false (by rfl) (by rfl) (decide_eq_false (by omega))) ?_
  refine L_val (.bool false) (by rfl) (by rfl) (gives_value _ fun _ => by rfl) ?_
  refine L_end ?_
  intro w8 hw8
  refine wp_cond_false (fr_at _ _ (by rfl) _) ?_
  refine wp_skip ?_
  change Code.wp _ _ _ _ _
  refine wp_seq ?_
  refine seq_plain hw8 [0, 1, 2, 3, 4, 5, 6, 7, 8, 9, 10, 11, 12, 13, 14] (by rfl) ?_
  refine L_val (.slice A0 n0 c0) (by rfl) (by rfl) (gives_value _ fun _ => by rfl) ?_
  refine L_val (.slice A1 n1 c1) (by rfl) (by rfl) (gives_value _ fun _ => by rfl) ?_
  refine L_val (.bool true) (by rfl) (by rfl) (gives_call (vl := [.slice A0 n0 c0, .slice A1 n1 c1]) (by kernel_rfl) (by rfl) (fun w h => n_same w _ _ _ _ _ _ (bs0) (bs1) ((hr0.below h.below).more h.below.size) ((hr1.below h.below).more h.below.size) (by omega) (by omega) hab)) ?_
  refine L_val (.bool false) (by rfl) (by rfl) (gives_value _ fun _ => by rfl) ?_
  refine L_val (.bool false) (by rfl) (by rfl) (gives_value _ fun _ => by rfl) ?_
  refine L_val_g (dj := 77) (.slice A2 n2 c2) (by rfl) (by rfl) (by rfl) (by rfl) (by rfl) (gives_value _ fun _ => by rfl) ?_
  refine L_val_g (dj := 77) (.slice A3 n3 c3) (by rfl) (by rfl) (by rfl) (by rfl) (by rfl) (gives_value _ fun _ => by rfl) ?_
  refine L_val_g (dj := 77) (.bool true) (by rfl) (by rfl) (by rfl) (by rfl) (by rfl) (gives_call (vl := [.slice A2 n2 c2, .slice A3 n3 c3]) (by kernel_rfl) (by rfl) (fun w h => n_same w _ _ _ _ _ _ (bs2) (bs3) ((hr2.below h.below).more h.below.size) ((hr3.below h.below).more h.below.size) (by omega) (by omega) hst)) ?_
  refine L_val_g (dj := 77) (.bool false) (by rfl) (by rfl) (by rfl) (by rfl) (by rfl) (gives_value _ fun _ => by rfl) ?_
  refine L_val (.bool false) (by rfl) (by rfl) (gives_value _ fun _ => by rfl) ?_
  refine L_val (.bool false) (by rfl) (by rfl) (gives_value _ fun _ => by rfl) ?_
  refine L_val_g (dj := 83) (.int .i64 (M : Int)) (by rfl) (by rfl) (by rfl) (by rfl) (by rfl) (gives_value _ fun _ => by rfl) ?_
  refine L_val_g (dj := 83) (.int .i64 (M2 : Int)) (by rfl) (by rfl) (by rfl) (by rfl) (by rfl) (gives_value _ fun _ => by rfl) ?_
  refine L_val_g (dj := 83) (.bool true) (by rfl) (by rfl) (by rfl) (by rfl) (by rfl) (gives_ine (k := .i64) ((M : Int)) ((M2 : Int)) true (by rfl) (by rfl) (decide_eq_true (by omega))) ?_
  refine L_val (.bool true) (by rfl) (by rfl) (gives_value _ fun _ => by rfl) ?_
  refine L_end ?_
  intro w9 hw9
  refine wp_cond_true (fr_at _ _ (by rfl) _) ?_
  refine seq_plain hw9 [0] (by rfl) ?_
  refine L_val (.bool true) (by rfl) (by rfl) (gives_value _ fun _ => by rfl) ?_
  refine L_end ?_
  intro w10 hw10
  refine wp_ret ?_
  change bodyPost _ _ _ Exit.ret _ _
  refine (ret_tmp (by rfl) (by rfl) (by rfl) ⟨rfl, hw10.below⟩)
set_option maxRecDepth 100000 in
set_option maxHeartbeats 4000000 in
theorem apart_same (A0 : Option Addr) (n0 c0 : Nat) (bs0 : List Int) (A1 : Option Addr) (n1 c1 : Nat) (bs1 : List Int) (A2 : Option Addr) (n2 c2 : Nat) (bs2 : List Int) (A3 : Option Addr) (n3 c3 : Nat) (bs3 : List Int) (N N2 : Int) (M M2 : Nat) (v : World) (hr0 : Reads v v.heap.size A0 n0 (bs0.map (Value.int .u8))) (hnc0 : n0 ≤ c0) (hr1 : Reads v v.heap.size A1 n1 (bs1.map (Value.int .u8))) (hnc1 : n1 ≤ c1) (hr2 : Reads v v.heap.size A2 n2 (bs2.map (Value.int .u8))) (hnc2 : n2 ≤ c2) (hr3 : Reads v v.heap.size A3 n3 (bs3.map (Value.int .u8))) (hnc3 : n3 ≤ c3) (hl0 : n0 ≤ 140737488351232) (hl1 : n1 ≤ 140737488351232) (hl2 : n2 ≤ 140737488351232) (hl3 : n3 ≤ 140737488351232) (hgl : Glob v) (h2 : 2 ≤ v.heap.size) (hM : (M : Int) = 32 + N % 64) (hM2 : (M2 : Int) = 32 + N2 % 64) (hs : n0 + n1 + n2 + n3 ≤ 4096) (hab : bs0 = bs1) (hst : bs2 = bs3) (hMM : M = M2) : Rets 9 #[.slice A0 n0 c0, .slice A1 n1 c1, .slice A2 n2 c2, .slice A3 n3 c3, .int .i64 N, .int .i64 N2] v (.bool true) := by
  refine calls_fr6 Tryd.func9 rfl (by rfl : _ = 91) (by rfl) ?_
  have hw := Hbl.nil v
  refine seq_plain hw [0] (by rfl) ?_
  refine L_val (.bool false) (by rfl) (by rfl) (gives_value _ fun _ => by rfl) ?_
  refine L_end ?_
  intro w1 hw1
  refine wp_seq ?_
  refine seq_plain hw1 [0, 1] (by rfl) ?_
  refine L_val (.bool true) (by rfl) (by rfl) (gives_call (vl := []) (by kernel_rfl) (by rfl) (fun w h => x_head w (hgl.below h.below h2) (Nat.le_trans h2 h.below.size))) ?_
  refine L_val (.bool false) (by rfl) (by rfl) (gives_value _ fun _ => by rfl) ?_
  refine L_end ?_
  intro w2 hw2
  refine wp_cond_false (fr_at _ _ (by rfl) _) ?_
  refine wp_skip ?_
  change Code.wp _ _ _ _ _
  refine wp_seq ?_
  refine seq_plain hw2 [0, 1, 2, 3, 4, 5, 6, 7, 8, 9, 10, 11] (by rfl) ?_
  refine L_val (.slice A0 n0 c0) (by rfl) (by rfl) (gives_value _ fun _ => by rfl) ?_
  refine L_val (.int .i64 (n0 : Int)) (by rfl) (by rfl) (gives_len _ n0 c0 und_u8s (by rfl)) ?_
  refine L_val (.slice A1 n1 c1) (by rfl) (by rfl) (gives_value _ fun _ => by rfl) ?_
  refine L_val (.int .i64 (n1 : Int)) (by rfl) (by rfl) (gives_len _ n1 c1 und_u8s (by rfl)) ?_
  refine L_val (.int .i64 ((n0 : Int) + (n1 : Int))) (by rfl) (by rfl) (gives_add (k := .i64) ((n0 : Int)) ((n1 : Int)) ((n0 : Int) + (n1 : Int)) (by rfl) (by rfl) (IntWalk.i64_in _ (by omega))) ?_
  refine L_val (.slice A2 n2 c2) (by rfl) (by rfl) (gives_value _ fun _ => by rfl) ?_
  refine L_val (.int .i64 (n2 : Int)) (by rfl) (by rfl) (gives_len _ n2 c2 und_u8s (by rfl)) ?_
  refine L_val (.int .i64 (((n0 : Int) + (n1 : Int)) + (n2 : Int))) (by rfl) (by rfl) (gives_add (k := .i64) ((n0 : Int) + (n1 : Int)) ((n2 : Int)) (((n0 : Int) + (n1 : Int)) + (n2 : Int)) (by rfl) (by rfl) (IntWalk.i64_in _ (by omega))) ?_
  refine L_val (.slice A3 n3 c3) (by rfl) (by rfl) (gives_value _ fun _ => by rfl) ?_
  refine L_val (.int .i64 (n3 : Int)) (by rfl) (by rfl) (gives_len _ n3 c3 und_u8s (by rfl)) ?_
  refine L_val (.int .i64 ((((n0 : Int) + (n1 : Int)) + (n2 : Int)) + (n3 : Int))) (by rfl) (by rfl) (gives_add (k := .i64) (((n0 : Int) + (n1 : Int)) + (n2 : Int)) ((n3 : Int)) ((((n0 : Int) + (n1 : Int)) + (n2 : Int)) + (n3 : Int)) (by rfl) (by rfl) (IntWalk.i64_in _ (by omega))) ?_
  refine L_val (.bool false) (by rfl) (by rfl) (gives_gtr (k := .i64) ((((n0 : Int) + (n1 : Int)) + (n2 : Int)) + (n3 : Int)) (4096) false (by rfl) (by rfl) (decide_eq_false (by omega))) ?_
  refine L_end ?_
  intro w3 hw3
  refine wp_cond_false (fr_at _ _ (by rfl) _) ?_
  refine wp_skip ?_
  change Code.wp _ _ _ _ _
  refine seq_plain hw3 [0, 1, 2, 3] (by rfl) ?_
  refine L_val (.int .i64 N) (by rfl) (by rfl) (gives_value _ fun _ => by rfl) ?_
  refine L_val (.int .i64 (N % 64)) (by rfl) (by rfl) (gives_and (k := .i64) (N) 63 (N % 64) (by rfl) (by rfl) (and_63 _)) ?_
  refine L_val (.int .i64 (M : Int)) (by rfl) (by rfl) (gives_add (k := .i64) 32 (N % 64) (M : Int) (by rfl) (by rfl) ((IntWalk.i64_in _ (by omega)).trans (by omega))) ?_
  refine L_val (.int .i64 (M : Int)) (by rfl) (by rfl) (gives_value _ fun _ => by rfl) ?_
  refine L_end ?_
  intro w4 hw4
  refine seq_plain hw4 [0, 1, 2, 3] (by rfl) ?_
  refine L_val (.int .i64 N2) (by rfl) (by rfl) (gives_value _ fun _ => by rfl) ?_
  refine L_val (.int .i64 (N2 % 64)) (by rfl) (by rfl) (gives_and (k := .i64) (N2) 63 (N2 % 64) (by rfl) (by rfl) (and_63 _)) ?_
  refine L_val (.int .i64 (M2 : Int)) (by rfl) (by rfl) (gives_add (k := .i64) 32 (N2 % 64) (M2 : Int) (by rfl) (by rfl) ((IntWalk.i64_in _ (by omega)).trans (by omega))) ?_
  refine L_val (.int .i64 (M2 : Int)) (by rfl) (by rfl) (gives_value _ fun _ => by rfl) ?_
  refine L_end ?_
  intro w5 hw5
  refine seq_plain hw5 [0, 1, 2, 3, 4, 5, 6, 7, 8, 9, 10] (by rfl) ?_
  refine L_val (.slice A0 n0 c0) (by rfl) (by rfl) (gives_value _ fun _ => by rfl) ?_
  refine L_freshP (vl := [.slice A0 n0 c0]) 5 .u8 n0 bs0 (by rfl) (by rfl) Want.none (by kernel_rfl) (by rfl) (fun w h => c_copy w _ _ _ bs0 ((hr0.below h.below).more h.below.size) (by omega)) ?_; intro g1 cap_1 cs_1 hn_1
  refine L_val (.slice A2 n2 c2) (by rfl) (by rfl) (gives_value _ fun _ => by rfl) ?_
  refine L_freshP (vl := [.slice A2 n2 c2]) 5 .u8 n2 bs2 (by rfl) (by rfl) Want.none (by kernel_rfl) (by rfl) (fun w h => c_copy w _ _ _ bs2 ((hr2.below h.below).more h.below.size) (by omega)) ?_; intro g2 cap_2 cs_2 hn_2
  refine L_val (.int .i64 (M : Int)) (by rfl) (by rfl) (gives_value _ fun _ => by rfl) ?_
  refine L_freshT (vl := [.slice (some ⟨g1, 0, none⟩) n0 cap_1, .slice (some ⟨g2, 0, none⟩) n2 cap_2, .int .i64 (M : Int)]) M (expandL bs0 bs2 M) (by rfl) (by rfl) Want.none (by kernel_rfl) (by rfl) (fun w h => x_expand _ _ _ bs0 _ _ _ bs2 M w (hn_1.reads (h.blk 1 (by rfl))) (hn_1.le) (hn_2.reads (h.blk 0 (by rfl))) (hn_2.le) (hgl.below h.below h2) (Nat.le_trans h2 h.below.size) (by omega) (by omega) (by omega)) ?_; intro g3 cap_3 cs_3 hn_3
  refine L_val (.tuple #[.slice (some ⟨g3, 0, none⟩) M M, .int .i64 0]) (by rfl) (by rfl) (gives_value _ fun _ => by rfl) ?_
  refine L_val (.slice (some ⟨g3, 0, none⟩) M M) (by rfl) (by rfl) (gives_value _ fun _ => by kernel_rfl) ?_
  refine L_val (.int .i64 0) (by rfl) (by rfl) (gives_value _ fun _ => by kernel_rfl) ?_
  refine L_val (.slice (some ⟨g3, 0, none⟩) M M) (by rfl) (by rfl) (gives_value _ fun _ => by rfl) ?_
  refine L_val (.int .i64 0) (by rfl) (by rfl) (gives_value _ fun _ => by rfl) ?_
  refine L_end ?_
  intro w6 hw6
  refine seq_plain hw6 [0, 1, 2, 3, 4, 5, 6, 7, 8, 9, 10] (by rfl) ?_
  refine L_val (.slice A1 n1 c1) (by rfl) (by rfl) (gives_value _ fun _ => by rfl) ?_
  refine L_freshP (vl := [.slice A1 n1 c1]) 5 .u8 n1 bs1 (by rfl) (by rfl) Want.none (by kernel_rfl) (by rfl) (fun w h => c_copy w _ _ _ bs1 ((hr1.below h.below).more h.below.size) (by omega)) ?_; intro g4 cap_4 cs_4 hn_4
  refine L_val (.slice A3 n3 c3) (by rfl) (by rfl) (gives_value _ fun _ => by rfl) ?_
  refine L_freshP (vl := [.slice A3 n3 c3]) 5 .u8 n3 bs3 (by rfl) (by rfl) Want.none (by kernel_rfl) (by rfl) (fun w h => c_copy w _ _ _ bs3 ((hr3.below h.below).more h.below.size) (by omega)) ?_; intro g5 cap_5 cs_5 hn_5
  refine L_val (.int .i64 (M2 : Int)) (by rfl) (by rfl) (gives_value _ fun _ => by rfl) ?_
  refine L_freshT (vl := [.slice (some ⟨g4, 0, none⟩) n1 cap_4, .slice (some ⟨g5, 0, none⟩) n3 cap_5, .int .i64 (M2 : Int)]) M2 (expandL bs1 bs3 M2) (by rfl) (by rfl) Want.none (by kernel_rfl) (by rfl) (fun w h => x_expand _ _ _ bs1 _ _ _ bs3 M2 w (hn_4.reads (h.blk 1 (by rfl))) (hn_4.le) (hn_5.reads (h.blk 0 (by rfl))) (hn_5.le) (hgl.below h.below h2) (Nat.le_trans h2 h.below.size) (by omega) (by omega) (by omega)) ?_; intro g6 cap_6 cs_6 hn_6
  refine L_val (.tuple #[.slice (some ⟨g6, 0, none⟩) M2 M2, .int .i64 0]) (by rfl) (by rfl) (gives_value _ fun _ => by rfl) ?_
  refine L_val (.slice (some ⟨g6, 0, none⟩) M2 M2) (by rfl) (by rfl) (gives_value _ fun _ => by kernel_rfl) ?_
  refine L_val (.int .i64 0) (by rfl) (by rfl) (gives_value _ fun _ => by kernel_rfl) ?_
  refine L_val (.slice (some ⟨g6, 0, none⟩) M2 M2) (by rfl) (by rfl) (gives_value _ fun _ => by rfl) ?_
  refine L_val (.int .i64 0) (by rfl) (by rfl) (gives_value _ fun _ => by rfl) ?_
  refine L_end ?_
  intro w7 hw7
  refine wp_seq ?_
  refine seq_plain hw7 [0, 1, 2, 3, 4, 5, 6, 7, 8, 9, 10, 11, 12, 13, 14, 15, 16, 17] (by rfl) ?_
  refine L_val (.int .i64 0) (by rfl) (by rfl) (gives_value _ fun _ => by rfl) ?_
  refine L_val (.bool false) (by rfl) (by rfl) (gives_ine (k := .i64) (0) (0) false (by rfl) (by rfl) (decide_eq_false (by omega))) ?_
  refine L_val (.bool false) (by rfl) (by rfl) (gives_value _ fun _ => by rfl) ?_
  refine L_val_g (dj := 57) (.int .i64 0) (by rfl) (by rfl) (by rfl) (by rfl) (by rfl) (gives_value _ fun _ => by rfl) ?_
  refine L_val_g (dj := 57) (.bool false) (by rfl) (by rfl) (by rfl) (by rfl) (by rfl) (gives_ine (k := .i64) (0) (0) false (by rfl) (by rfl) (decide_eq_false (by omega))) ?_
  refine L_val (.bool false) (by rfl) (by rfl) (gives_value _ fun _ => by rfl) ?_
  refine L_val (.bool false) (by rfl) (by rfl) (gives_value _ fun _ => by rfl) ?_
  refine L_val_g (dj := 61) (.slice (some ⟨g3, 0, none⟩) M M) (by rfl) (by rfl) (by rfl) (by rfl) (by rfl) (gives_value _ fun _ => by rfl) ?_
  refine L_val_g (dj := 61) (.int .i64 (M : Int)) (by rfl) (by rfl) (by rfl) (by rfl) (by rfl) (gives_len _ M M und_u8s (by rfl)) ?_
  refine L_val_g (dj := 61) (.int .i64 (M : Int)) (by rfl) (by rfl) (by rfl) (by rfl) (by rfl) (gives_value _ fun _ => by rfl) ?_
  refine L_val_g (dj := 61) (.bool false) (by rfl) (by rfl) (by rfl) (by rfl) (by rfl) (gives_ine (k := .i64) ((M : Int)) ((M : Int)) false (by rfl) (by rfl) (decide_eq_false (by omega))) ?_
  refine L_val (.bool false) (by rfl) (by rfl) (gives_value _ fun _ => by rfl) ?_
  refine L_val (.bool false) (by rfl) (by rfl) (gives_value _ fun _ => by rfl) ?_
  refine L_val_g (dj := 67) (.slice (some ⟨g6, 0, none⟩) M2 M2) (by rfl) (by rfl) (by rfl) (by rfl) (by rfl) (gives_value _ fun _ => by rfl) ?_
  refine L_val_g (dj := 67) (.int .i64 (M2 : Int)) (by rfl) (by rfl) (by rfl) (by rfl) (by rfl) (gives_len _ M2 M2 und_u8s (by rfl)) ?_
  refine L_val_g (dj := 67) (.int .i64 (M2 : Int)) (by rfl) (by rfl) (by rfl) (by rfl) (by rfl) (gives_value _ fun _ => by rfl) ?_
  refine L_val_g (dj := 67) (.bool false) (by rfl) (by rfl) (by rfl) (by rfl) (by rfl) (gives_ine (k := .i64) ((M2 : Int)) ((M2 : Int)) false (by rfl) (by rfl) (decide_eq_false (by omega))) ?_
  refine L_val (.bool false) (by rfl) (by rfl) (gives_value _ fun _ => by rfl) ?_
  refine L_end ?_
  intro w8 hw8
  refine wp_cond_false (fr_at _ _ (by rfl) _) ?_
  refine wp_skip ?_
  change Code.wp _ _ _ _ _
  refine wp_seq ?_
  refine seq_plain hw8 [0, 1, 2, 3, 4, 5, 6, 7, 8, 9, 10, 11, 12, 13, 14] (by rfl) ?_
  refine L_val (.slice A0 n0 c0) (by rfl) (by rfl) (gives_value _ fun _ => by rfl) ?_
  refine L_val (.slice A1 n1 c1) (by rfl) (by rfl) (gives_value _ fun _ => by rfl) ?_
  refine L_val (.bool true) (by rfl) (by rfl) (gives_call (vl := [.slice A0 n0 c0, .slice A1 n1 c1]) (by kernel_rfl) (by rfl) (fun w h => n_same w _ _ _ _ _ _ (bs0) (bs1) ((hr0.below h.below).more h.below.size) ((hr1.below h.below).more h.below.size) (by omega) (by omega) hab)) ?_
  refine L_val (.bool false) (by rfl) (by rfl) (gives_value _ fun _ => by rfl) ?_
  refine L_val (.bool false) (by rfl) (by rfl) (gives_value _ fun _ => by rfl) ?_
  refine L_val_g (dj := 77) (.slice A2 n2 c2) (by rfl) (by rfl) (by rfl) (by rfl) (by rfl) (gives_value _ fun _ => by rfl) ?_
  refine L_val_g (dj := 77) (.slice A3 n3 c3) (by rfl) (by rfl) (by rfl) (by rfl) (by rfl) (gives_value _ fun _ => by rfl) ?_
  refine L_val_g (dj := 77) (.bool true) (by rfl) (by rfl) (by rfl) (by rfl) (by rfl) (gives_call (vl := [.slice A2 n2 c2, .slice A3 n3 c3]) (by kernel_rfl) (by rfl) (fun w h => n_same w _ _ _ _ _ _ (bs2) (bs3) ((hr2.below h.below).more h.below.size) ((hr3.below h.below).more h.below.size) (by omega) (by omega) hst)) ?_
  refine L_val_g (dj := 77) (.bool false) (by rfl) (by rfl) (by rfl) (by rfl) (by rfl) (gives_value _ fun _ => by rfl) ?_
  refine L_val (.bool false) (by rfl) (by rfl) (gives_value _ fun _ => by rfl) ?_
  refine L_val (.bool false) (by rfl) (by rfl) (gives_value _ fun _ => by rfl) ?_
  refine L_val_g (dj := 83) (.int .i64 (M : Int)) (by rfl) (by rfl) (by rfl) (by rfl) (by rfl) (gives_value _ fun _ => by rfl) ?_
  refine L_val_g (dj := 83) (.int .i64 (M2 : Int)) (by rfl) (by rfl) (by rfl) (by rfl) (by rfl) (gives_value _ fun _ => by rfl) ?_
  refine L_val_g (dj := 83) (.bool false) (by rfl) (by rfl) (by rfl) (by rfl) (by rfl) (gives_ine (k := .i64) ((M : Int)) ((M2 : Int)) false (by rfl) (by rfl) (decide_eq_false (by omega))) ?_
  refine L_val (.bool false) (by rfl) (by rfl) (gives_value _ fun _ => by rfl) ?_
  refine L_end ?_
  intro w9 hw9
  refine wp_cond_false (fr_at _ _ (by rfl) _) ?_
  refine wp_skip ?_
  change Code.wp _ _ _ _ _
  refine seq_plain hw9 [0, 1, 2, 3] (by rfl) ?_
  refine L_val (.slice (some ⟨g3, 0, none⟩) M M) (by rfl) (by rfl) (gives_value _ fun _ => by rfl) ?_
  refine L_val (.slice (some ⟨g6, 0, none⟩) M2 M2) (by rfl) (by rfl) (gives_value _ fun _ => by rfl) ?_
  refine L_val (.bool true) (by rfl) (by rfl) (gives_call (vl := [.slice (some ⟨g3, 0, none⟩) M M, .slice (some ⟨g6, 0, none⟩) M2 M2]) (by kernel_rfl) (by rfl) (fun w h => n_same w _ _ _ _ _ _ (expandL bs0 bs2 M) (expandL bs1 bs3 M2) (hn_3.reads (h.blk 3 (by rfl))) (hn_6.reads (h.blk 0 (by rfl))) (by omega) (by omega) (by rw [hab, hst, hMM]))) ?_
  refine L_val (.bool true) (by rfl) (by rfl) (gives_value _ fun _ => by rfl) ?_
  refine L_end ?_
  intro w10 hw10
  refine wp_ret ?_
  change bodyPost _ _ _ Exit.ret _ _
  refine (ret_tmp (by rfl) (by rfl) (by rfl) ⟨rfl, hw10.below⟩)
theorem apart_any (A0 : Option Addr) (n0 c0 : Nat) (bs0 : List Int) (A1 : Option Addr) (n1 c1 : Nat) (bs1 : List Int) (A2 : Option Addr) (n2 c2 : Nat) (bs2 : List Int) (A3 : Option Addr) (n3 c3 : Nat) (bs3 : List Int) (N N2 : Int) (v : World) (hr0 : Reads v v.heap.size A0 n0 (bs0.map (Value.int .u8))) (hnc0 : n0 ≤ c0) (hr1 : Reads v v.heap.size A1 n1 (bs1.map (Value.int .u8))) (hnc1 : n1 ≤ c1) (hr2 : Reads v v.heap.size A2 n2 (bs2.map (Value.int .u8))) (hnc2 : n2 ≤ c2) (hr3 : Reads v v.heap.size A3 n3 (bs3.map (Value.int .u8))) (hnc3 : n3 ≤ c3) (hl0 : n0 ≤ 140737488351232) (hl1 : n1 ≤ 140737488351232) (hl2 : n2 ≤ 140737488351232) (hl3 : n3 ≤ 140737488351232) (hgl : Glob v) (h2 : 2 ≤ v.heap.size) : Rets 9 #[.slice A0 n0 c0, .slice A1 n1 c1, .slice A2 n2 c2, .slice A3 n3 c3, .int .i64 N, .int .i64 N2] v (.bool true) := by
  obtain ⟨M, hM⟩ : ∃ M : Nat, (M : Int) = 32 + N % 64 := ⟨(32 + N % 64).toNat, by omega⟩
  obtain ⟨M2, hM2⟩ : ∃ M2 : Nat, (M2 : Int) = 32 + N2 % 64 := ⟨(32 + N2 % 64).toNat, by omega⟩
  by_cases hs : 4096 < n0 + n1 + n2 + n3
  · exact apart_long A0 n0 c0 bs0 A1 n1 c1 bs1 A2 n2 c2 bs2 A3 n3 c3 bs3 N N2 M M2 v hr0 hnc0 hr1 hnc1 hr2 hnc2 hr3 hnc3 hl0 hl1 hl2 hl3 hgl h2 hM hM2 hs
  by_cases hab : bs0 = bs1
  · by_cases hst : bs2 = bs3
    · by_cases hMM : M = M2
      · exact apart_same A0 n0 c0 bs0 A1 n1 c1 bs1 A2 n2 c2 bs2 A3 n3 c3 bs3 N N2 M M2 v hr0 hnc0 hr1 hnc1 hr2 hnc2 hr3 hnc3 hl0 hl1 hl2 hl3 hgl h2 hM hM2 (by omega) hab hst hMM
      · exact apart_d3 A0 n0 c0 bs0 A1 n1 c1 bs1 A2 n2 c2 bs2 A3 n3 c3 bs3 N N2 M M2 v hr0 hnc0 hr1 hnc1 hr2 hnc2 hr3 hnc3 hl0 hl1 hl2 hl3 hgl h2 hM hM2 (by omega) hab hst hMM
    · exact apart_d2 A0 n0 c0 bs0 A1 n1 c1 bs1 A2 n2 c2 bs2 A3 n3 c3 bs3 N N2 M M2 v hr0 hnc0 hr1 hnc1 hr2 hnc2 hr3 hnc3 hl0 hl1 hl2 hl3 hgl h2 hM hM2 (by omega) hab hst
  · exact apart_d1 A0 n0 c0 bs0 A1 n1 c1 bs1 A2 n2 c2 bs2 A3 n3 c3 bs3 N N2 M M2 v hr0 hnc0 hr1 hnc1 hr2 hnc2 hr3 hnc3 hl0 hl1 hl2 hl3 hgl h2 hM hM2 (by omega) hab
end Go.Proofs.YtgkfkfodeooogaaDoor
