/-
  The law XmdNumbers: the walk.
-/
import Derived.Test.YtialfoccalobpaaDoorWCNd
namespace Go.Proofs.YtialfoccalobpaaDoor
set_option linter.unusedSimpArgs false
set_option linter.unusedVariables false
open Go.RowKit
theorem and_3 (n : Int) (h0 : 0 ≤ n) (h : n < 9223372036854775808) : IntKind.i64.wrap (((n % 2 ^ IntKind.i64.bits).toNat &&& ((3 : Int) % 2 ^ IntKind.i64.bits).toNat : Nat) : Int) = n % 4 := by
  obtain ⟨u, rfl⟩ := Int.eq_ofNat_of_zero_le h0
  have e : ((u : Int) % 2 ^ IntKind.i64.bits).toNat = u := by
    have : (2 : Int) ^ IntKind.i64.bits = 18446744073709551616 := by decide
    rw [this]; omega
  have e2 : ((3 : Int) % 2 ^ IntKind.i64.bits).toNat = 2 ^ 2 - 1 := by decide
  rw [e, e2, Nat.and_two_pow_sub_one_eq_mod, IntKind.wrap_i64]
  omega
theorem expandL_len (msg tag : List Int) (n : Nat) : (expandL msg tag n).length = n := by
  unfold expandL
  rw [List.length_take, outW_len]
  omega
theorem part_len {l : List Int} (o m : Nat) (h : o + m ≤ l.length) : ((l.drop o).take m).length = m := by simp; omega
theorem nums_at (bs0 bs1 : List Int) (cn : Nat) {i : Nat} (h : i < cn) : (numsL bs0 bs1 cn)[i]? = some (elN (expandL bs0 bs1 (128 * cn)) i) := by
  simp [numsL, h]
section
variable {P : Program} {S : World → Prop} {l : List (Nat × Value)} {dst : Option Nat} {x y : Operand} {t ty : TypeId} {pos : String} {after : Array Edge} {gd : Option (Nat × Bool)}
theorem gives_index_E {e : TypeId} {k : IntKind} (g m c s : Nat) (i : Int) (j q : Nat) (hx : rho l x = .slice (some ⟨g, 0, none⟩) m c) (hy : rho l y = .int k i) (ht : P.underlying t = some (.slice e)) (hs : (P.info? e).map (·.size) = some s) (hq : j * s = q) (h1 : i = (j : Int) ∧ j < m) :
    Gives P S (.pointer (some ⟨g, q, none⟩)) (execOp (rho l) ⟨dst, .indexAddr t x y, ty, pos, after, gd⟩) := gives_value _ fun w => by
  obtain ⟨h0, h1⟩ := h1
  subst h0 hq
  obtain ⟨ie, he, hz⟩ := Option.map_eq_some_iff.1 hs
  simp [execOp, hx, hy, Instr.indexAt, run_underlying ht, asIntOf, sizeOf, typeInfo, he, hz, h1, add_plain]
end
theorem ret_tmp_tmpN {P : Program} {fn : Func} {E : Ending → World → Prop} {n : Nat} {sl : List (Nat × Value)} {w : World} {s s' : Nat} {u u' : Value} (hres : fn.results = #[.tmp s, .tmp s']) (hl : inFr n sl = true) (hs : look sl s = u) (hs' : look sl s' = u') (hE : E (.returned (.tuple #[u, u'])) w) : bodyPost P fn E .ret (fr n sl) w := by
  refine bodyPost_ret (v := .tuple #[u, u']) ?_ (fr_defers n sl) hE
  simp [results, hres, fr_at n sl hl, hs, hs']
def RetsE (f : FuncId) (args : Array Value) (w : World) (m : Nat) (qs : List F2) : Prop :=
  Calls Tryd.prog f args w fun r w' => ∃ (g cap : Nat) (cs : Array Value), r = .returned (.tuple #[.slice (some ⟨g, 0, none⟩) m cap, .int .i64 0]) ∧ Rso 12 c2 cs cap m qs ∧ w.heap.size ≤ g ∧ Blk w' g 37 cs ∧ Below w.heap.size w w'
theorem L_freshE2 {ops : Array Oper} {R : Act → World → Prop} {v : World} {L : List (Nat × TypeId × Array Value)} {n : Nat} {sl : List (Nat × Value)} {i d : Nat} {l : List Nat} {f : FuncId} {args : Array Operand} {ats : Array TypeId} {ty : TypeId} {pos : String} {after : Array Edge} {gd : Option (Nat × Bool)} {vl : List Value} (m : Nat) (qs : List F2)
    (hi : ops[i]? = some ⟨some d, .call { callee := .value (.func f), args := args, argTypes := ats }, ty, pos, after, gd⟩) (hl : inFr n sl = true) (hw : Want ops n sl gd) (hf : (Tryd.prog.funcs[f]?).map (fun fn => (fn.name == "runtime.NumGoroutine", fn.body.isNone)) = some (false, false))
    (ha : args.toList.map (rho sl) = vl) (hc : ∀ w, Hbl v L w → RetsE f vl.toArray w m qs)
    (h : ∀ g cap cs, Rso 12 c2 cs cap m qs → wpL Tryd.prog ops R l (fr n ((d, .tuple #[.slice (some ⟨g, 0, none⟩) m cap, .int .i64 0]) :: sl)) (Hbl v ((g, 37, cs) :: L))) : wpL Tryd.prog ops R (i :: l) (fr n sl) (Hbl v L) := fun w hS =>
  wpOp_call hi hl (hw ..) hf ha (hc w hS) fun e w' ⟨g, cap, cs, he, hq, hg, hb, hbel⟩ => ⟨_, he, Hbl v ((g, 37, cs) :: L), Hbl.stays v _, hS.fresh hbel hg hb, h g cap cs hq⟩
attribute [local irreducible] wpL wpF fr Code.wp bodyPost
set_option maxRecDepth 100000 in
set_option maxHeartbeats 4000000 in
theorem x_numbers_neg (A0 : Option Addr) (n0 c0 : Nat) (A1 : Option Addr) (n1 c1 : Nat) (a2 : Int) (v : World) (hN : a2 < 0) : Rets 9 #[.slice A0 n0 c0, .slice A1 n1 c1, .int .i64 a2] v (.tuple #[.slice none 0 0, .int .i64 1]) := by
  refine calls_fr3 Tryd.func9 rfl (by rfl : _ = 45) (by rfl) ?_
  have hw := Hbl.nil v
  refine seq_plain hw [0, 1] (by rfl) ?_
  refine L_val (.slice none 0 0) (by rfl) (by rfl) (gives_value _ fun _ => by rfl) ?_
  refine L_val (.int .i64 0) (by rfl) (by rfl) (gives_value _ fun _ => by rfl) ?_
  refine L_end ?_
  intro w1 hw1
  refine wp_seq ?_
  refine seq_plain hw1 [0, 1, 2, 3, 4, 5] (by rfl) ?_
  refine L_val (.int .i64 a2) (by rfl) (by rfl) (gives_value _ fun _ => by rfl) ?_
  refine L_val (.bool true) (by rfl) (by rfl) (gives_lss (k := .i64) (a2) (0) true (by rfl) (by rfl) (decide_eq_true (by omega))) ?_
  refine L_val (.bool true) (by rfl) (by rfl) (gives_value _ fun _ => by rfl) ?_
  refine L_skip (dj := 14) (by rfl) (by rfl) (by rfl) (by rfl) (by rfl) ?_
  refine L_skip (dj := 14) (by rfl) (by rfl) (by rfl) (by rfl) (by rfl) ?_
  refine L_val (.bool true) (by rfl) (by rfl) (gives_value _ fun _ => by rfl) ?_
  refine L_end ?_
  intro w2 hw2
  refine wp_cond_true (fr_at _ _ (by rfl) _) ?_
  refine seq_plain hw2 [0, 1] (by rfl) ?_
  refine L_val (.slice none 0 0) (by rfl) (by rfl) (gives_value _ fun _ => by rfl) ?_
  refine L_val (.int .i64 1) (by rfl) (by rfl) (gives_value _ fun _ => by rfl) ?_
  refine L_end ?_
  intro w3 hw3
  refine wp_ret ?_
  change bodyPost _ _ _ Exit.ret _ _
  refine (ret_tmp_tmpN (by rfl) (by rfl) (by rfl) (by rfl) ⟨rfl, hw3.below⟩)
set_option maxRecDepth 100000 in
set_option maxHeartbeats 4000000 in
theorem x_numbers_big (A0 : Option Addr) (n0 c0 : Nat) (A1 : Option Addr) (n1 c1 : Nat) (a2 : Int) (v : World) (hN : 63 < a2) : Rets 9 #[.slice A0 n0 c0, .slice A1 n1 c1, .int .i64 a2] v (.tuple #[.slice none 0 0, .int .i64 1]) := by
  refine calls_fr3 Tryd.func9 rfl (by rfl : _ = 45) (by rfl) ?_
  have hw := Hbl.nil v
  refine seq_plain hw [0, 1] (by rfl) ?_
  refine L_val (.slice none 0 0) (by rfl) (by rfl) (gives_value _ fun _ => by rfl) ?_
  refine L_val (.int .i64 0) (by rfl) (by rfl) (gives_value _ fun _ => by rfl) ?_
  refine L_end ?_
  intro w1 hw1
  refine wp_seq ?_
  refine seq_plain hw1 [0, 1, 2, 3, 4, 5] (by rfl) ?_
  refine L_val (.int .i64 a2) (by rfl) (by rfl) (gives_value _ fun _ => by rfl) ?_
  refine L_val (.bool false) (by rfl) (by rfl) (gives_lss (k := .i64) (a2) (0) false (by rfl) (by rfl) (decide_eq_false (by omega))) ?_
  refine L_val (.bool false) (by rfl) (by rfl) (gives_value _ fun _ => by rfl) ?_
  refine L_val_g (dj := 14) (.int .i64 a2) (by rfl) (by rfl) (by rfl) (by rfl) (by rfl) (gives_value _ fun _ => by rfl) ?_
  refine L_val_g (dj := 14) (.bool true) (by rfl) (by rfl) (by rfl) (by rfl) (by rfl) (gives_gtr (k := .i64) (a2) (63) true (by rfl) (by rfl) (decide_eq_true (by omega))) ?_
  refine L_val (.bool true) (by rfl) (by rfl) (gives_value _ fun _ => by rfl) ?_
  refine L_end ?_
  intro w2 hw2
  refine wp_cond_true (fr_at _ _ (by rfl) _) ?_
  refine seq_plain hw2 [0, 1] (by rfl) ?_
  refine L_val (.slice none 0 0) (by rfl) (by rfl) (gives_value _ fun _ => by rfl) ?_
  refine L_val (.int .i64 1) (by rfl) (by rfl) (gives_value _ fun _ => by rfl) ?_
  refine L_end ?_
  intro w3 hw3
  refine wp_ret ?_
  change bodyPost _ _ _ Exit.ret _ _
  refine (ret_tmp_tmpN (by rfl) (by rfl) (by rfl) (by rfl) ⟨rfl, hw3.below⟩)
set_option maxRecDepth 100000 in
set_option maxHeartbeats 4000000 in
theorem numbers_long0 (A0 : Option Addr) (n0 c0 : Nat) (bs0 : List Int) (A1 : Option Addr) (n1 c1 : Nat) (bs1 : List Int) (a2 : Int) (v : World) (hr0 : Reads v v.heap.size A0 n0 (bs0.map (Value.int .u8))) (hr1 : Reads v v.heap.size A1 n1 (bs1.map (Value.int .u8))) (hgl : Glob v) (h2 : 3 ≤ v.heap.size) (hG : Glo0 v) (hH : GShp v) (hs : 4096 < n0) : Rets 3 #[.slice A0 n0 c0, .slice A1 n1 c1, .int .i64 a2] v (.bool true) := by
  refine calls_fr3 Tryd.func3 rfl (by rfl : _ = 121) (by rfl) ?_
  have hw := Hbl.nil v
  refine seq_plain hw [0] (by rfl) ?_
  refine L_val (.bool false) (by rfl) (by rfl) (gives_value _ fun _ => by rfl) ?_
  refine L_end ?_
  intro w1 hw1
  refine wp_seq ?_
  refine seq_plain hw1 [0, 1] (by rfl) ?_
  refine L_val (.bool true) (by rfl) (by rfl) (gives_call (vl := []) (by kernel_rfl) (by rfl) (fun w h => x_head w (hgl.below h.below h2) (Nat.le_trans h2 h.below.size))) ?_
  refine L_val (.bool false) (by rfl) (by rfl) (gives_value _ fun _ => by rfl) ?_
  refine L_end ?_
  intro w2 hw2
  refine wp_cond_false (fr_at _ _ (by rfl) _) ?_
  refine wp_skip ?_
  change Code.wp _ _ _ _ _
  refine wp_seq ?_
  refine seq_plain hw2 [0, 1, 2, 3, 4, 5, 6, 7] (by rfl) ?_
  refine L_val (.slice A0 n0 c0) (by rfl) (by rfl) (gives_value _ fun _ => by rfl) ?_
  refine L_val (.int .i64 (n0 : Int)) (by rfl) (by rfl) (gives_len _ n0 c0 und_u8s (by rfl)) ?_
  refine L_val (.bool true) (by rfl) (by rfl) (gives_gtr (k := .i64) ((n0 : Int)) (4096) true (by rfl) (by rfl) (decide_eq_true (by omega))) ?_
  refine L_val (.bool true) (by rfl) (by rfl) (gives_value _ fun _ => by rfl) ?_
  refine L_skip (dj := 20) (by rfl) (by rfl) (by rfl) (by rfl) (by rfl) ?_
  refine L_skip (dj := 20) (by rfl) (by rfl) (by rfl) (by rfl) (by rfl) ?_
  refine L_skip (dj := 20) (by rfl) (by rfl) (by rfl) (by rfl) (by rfl) ?_
  refine L_val (.bool true) (by rfl) (by rfl) (gives_value _ fun _ => by rfl) ?_
  refine L_end ?_
  intro w3 hw3
  refine wp_cond_true (fr_at _ _ (by rfl) _) ?_
  refine seq_plain hw3 [0] (by rfl) ?_
  refine L_val (.bool true) (by rfl) (by rfl) (gives_value _ fun _ => by rfl) ?_
  refine L_end ?_
  intro w4 hw4
  refine wp_ret ?_
  change bodyPost _ _ _ Exit.ret _ _
  refine (ret_tmp (by rfl) (by rfl) (by rfl) ⟨rfl, hw4.below⟩)
set_option maxRecDepth 100000 in
set_option maxHeartbeats 4000000 in
theorem numbers_long1 (A0 : Option Addr) (n0 c0 : Nat) (bs0 : List Int) (A1 : Option Addr) (n1 c1 : Nat) (bs1 : List Int) (a2 : Int) (v : World) (hr0 : Reads v v.heap.size A0 n0 (bs0.map (Value.int .u8))) (hr1 : Reads v v.heap.size A1 n1 (bs1.map (Value.int .u8))) (hgl : Glob v) (h2 : 3 ≤ v.heap.size) (hG : Glo0 v) (hH : GShp v) (hs : n0 ≤ 4096 ∧ 4096 < n1) : Rets 3 #[.slice A0 n0 c0, .slice A1 n1 c1, .int .i64 a2] v (.bool true) := by
  refine calls_fr3 Tryd.func3 rfl (by rfl : _ = 121) (by rfl) ?_
  have hw := Hbl.nil v
  refine seq_plain hw [0] (by rfl) ?_
  refine L_val (.bool false) (by rfl) (by rfl) (gives_value _ fun _ => by rfl) ?_
  refine L_end ?_
  intro w1 hw1
  refine wp_seq ?_
  refine seq_plain hw1 [0, 1] (by rfl) ?_
  refine L_val (.bool true) (by rfl) (by rfl) (gives_call (vl := []) (by kernel_rfl) (by rfl) (fun w h => x_head w (hgl.below h.below h2) (Nat.le_trans h2 h.below.size))) ?_
  refine L_val (.bool false) (by rfl) (by rfl) (gives_value _ fun _ => by rfl) ?_
  refine L_end ?_
  intro w2 hw2
  refine wp_cond_false (fr_at _ _ (by rfl) _) ?_
  refine wp_skip ?_
  change Code.wp _ _ _ _ _
  refine wp_seq ?_
  refine seq_plain hw2 [0, 1, 2, 3, 4, 5, 6, 7] (by rfl) ?_
  refine L_val (.slice A0 n0 c0) (by rfl) (by rfl) (gives_value _ fun _ => by rfl) ?_
  refine L_val (.int .i64 (n0 : Int)) (by rfl) (by rfl) (gives_len _ n0 c0 und_u8s (by rfl)) ?_
  refine L_val (.bool false) (by rfl) (by rfl) (gives_gtr (k := .i64) ((n0 : Int)) (4096) false (by rfl) (by rfl) (decide_eq_false (by omega))) ?_
  refine L_val (.bool false) (by rfl) (by rfl) (gives_value _ fun _ => by rfl) ?_
  refine L_val_g (dj := 20) (.slice A1 n1 c1) (by rfl) (by rfl) (by rfl) (by rfl) (by rfl) (gives_value _ fun _ => by rfl) ?_
  refine L_val_g (dj := 20) (.int .i64 (n1 : Int)) (by rfl) (by rfl) (by rfl) (by rfl) (by rfl) (gives_len _ n1 c1 und_u8s (by rfl)) ?_
  refine L_val_g (dj := 20) (.bool true) (by rfl) (by rfl) (by rfl) (by rfl) (by rfl) (gives_gtr (k := .i64) ((n1 : Int)) (4096) true (by rfl) (by rfl) (decide_eq_true (by omega))) ?_
  refine L_val (.bool true) (by rfl) (by rfl) (gives_value _ fun _ => by rfl) ?_
  refine L_end ?_
  intro w3 hw3
  refine wp_cond_true (fr_at _ _ (by rfl) _) ?_
  refine seq_plain hw3 [0] (by rfl) ?_
  refine L_val (.bool true) (by rfl) (by rfl) (gives_value _ fun _ => by rfl) ?_
  refine L_end ?_
  intro w4 hw4
  refine wp_ret ?_
  change bodyPost _ _ _ Exit.ret _ _
  refine (ret_tmp (by rfl) (by rfl) (by rfl) ⟨rfl, hw4.below⟩)
set_option maxRecDepth 100000 in
set_option maxHeartbeats 4000000 in
theorem numbers_neg (A0 : Option Addr) (n0 c0 : Nat) (bs0 : List Int) (A1 : Option Addr) (n1 c1 : Nat) (bs1 : List Int) (a2 : Int) (v : World) (hr0 : Reads v v.heap.size A0 n0 (bs0.map (Value.int .u8))) (hr1 : Reads v v.heap.size A1 n1 (bs1.map (Value.int .u8))) (hgl : Glob v) (h2 : 3 ≤ v.heap.size) (hG : Glo0 v) (hH : GShp v) (hs : n0 ≤ 4096 ∧ n1 ≤ 4096) (hN : a2 < 0) : Rets 3 #[.slice A0 n0 c0, .slice A1 n1 c1, .int .i64 a2] v (.bool true) := by
  refine calls_fr3 Tryd.func3 rfl (by rfl : _ = 121) (by rfl) ?_
  have hw := Hbl.nil v
  refine seq_plain hw [0] (by rfl) ?_
  refine L_val (.bool false) (by rfl) (by rfl) (gives_value _ fun _ => by rfl) ?_
  refine L_end ?_
  intro w1 hw1
  refine wp_seq ?_
  refine seq_plain hw1 [0, 1] (by rfl) ?_
  refine L_val (.bool true) (by rfl) (by rfl) (gives_call (vl := []) (by kernel_rfl) (by rfl) (fun w h => x_head w (hgl.below h.below h2) (Nat.le_trans h2 h.below.size))) ?_
  refine L_val (.bool false) (by rfl) (by rfl) (gives_value _ fun _ => by rfl) ?_
  refine L_end ?_
  intro w2 hw2
  refine wp_cond_false (fr_at _ _ (by rfl) _) ?_
  refine wp_skip ?_
  change Code.wp _ _ _ _ _
  refine wp_seq ?_
  refine seq_plain hw2 [0, 1, 2, 3, 4, 5, 6, 7] (by rfl) ?_
  refine L_val (.slice A0 n0 c0) (by rfl) (by rfl) (gives_value _ fun _ => by rfl) ?_
  refine L_val (.int .i64 (n0 : Int)) (by rfl) (by rfl) (gives_len _ n0 c0 und_u8s (by rfl)) ?_
  refine L_val (.bool false) (by rfl) (by rfl) (gives_gtr (k := .i64) ((n0 : Int)) (4096) false (by rfl) (by rfl) (decide_eq_false (by omega))) ?_
  refine L_val (.bool false) (by rfl) (by rfl) (gives_value _ fun _ => by rfl) ?_
  refine L_val_g (dj := 20) (.slice A1 n1 c1) (by rfl) (by rfl) (by rfl) (by rfl) (by rfl) (gives_value _ fun _ => by rfl) ?_
  refine L_val_g (dj := 20) (.int .i64 (n1 : Int)) (by rfl) (by rfl) (by rfl) (by rfl) (by rfl) (gives_len _ n1 c1 und_u8s (by rfl)) ?_
  refine L_val_g (dj := 20) (.bool false) (by rfl) (by rfl) (by rfl) (by rfl) (by rfl) (gives_gtr (k := .i64) ((n1 : Int)) (4096) false (by rfl) (by rfl) (decide_eq_false (by omega))) ?_
  refine L_val (.bool false) (by rfl) (by rfl) (gives_value _ fun _ => by rfl) ?_
  refine L_end ?_
  intro w3 hw3
  refine wp_cond_false (fr_at _ _ (by rfl) _) ?_
  refine wp_skip ?_
  change Code.wp _ _ _ _ _
  refine wp_seq ?_
  refine seq_plain hw3 [0, 1, 2, 3, 4, 5] (by rfl) ?_
  refine L_val (.int .i64 a2) (by rfl) (by rfl) (gives_value _ fun _ => by rfl) ?_
  refine L_val (.bool false) (by rfl) (by rfl) (gives_gtr (k := .i64) (a2) (4) false (by rfl) (by rfl) (decide_eq_false (by omega))) ?_
  refine L_val (.bool false) (by rfl) (by rfl) (gives_value _ fun _ => by rfl) ?_
  refine L_skip (dj := 27) (by rfl) (by rfl) (by rfl) (by rfl) (by rfl) ?_
  refine L_skip (dj := 27) (by rfl) (by rfl) (by rfl) (by rfl) (by rfl) ?_
  refine L_val (.bool false) (by rfl) (by rfl) (gives_value _ fun _ => by rfl) ?_
  refine L_end ?_
  intro w4 hw4
  refine wp_cond_false (fr_at _ _ (by rfl) _) ?_
  refine wp_skip ?_
  change Code.wp _ _ _ _ _
  refine seq_plain hw4 [0, 1, 2, 3, 4, 5, 6, 7, 8, 9, 10] (by rfl) ?_
  refine L_val (.slice A0 n0 c0) (by rfl) (by rfl) (gives_value _ fun _ => by rfl) ?_
  refine L_freshP (vl := [.slice A0 n0 c0]) 5 .u8 n0 bs0 (by rfl) (by rfl) Want.none (by kernel_rfl) (by rfl) (fun w h => c_copy w _ _ _ bs0 ((hr0.below h.below).more h.below.size) (by omega)) ?_; intro g1 cap_1 cs_1 hn_1
  refine L_val (.slice A1 n1 c1) (by rfl) (by rfl) (gives_value _ fun _ => by rfl) ?_
  refine L_freshP (vl := [.slice A1 n1 c1]) 5 .u8 n1 bs1 (by rfl) (by rfl) Want.none (by kernel_rfl) (by rfl) (fun w h => c_copy w _ _ _ bs1 ((hr1.below h.below).more h.below.size) (by omega)) ?_; intro g2 cap_2 cs_2 hn_2
  refine L_val (.int .i64 a2) (by rfl) (by rfl) (gives_value _ fun _ => by rfl) ?_
  refine L_val (.tuple #[.slice none 0 0, .int .i64 1]) (by rfl) (by rfl) (gives_call (vl := [.slice (some ⟨g1, 0, none⟩) n0 cap_1, .slice (some ⟨g2, 0, none⟩) n1 cap_2, .int .i64 a2]) (by kernel_rfl) (by rfl) (fun w h => x_numbers_neg _ _ _ _ _ _ _ w (by omega))) ?_
  refine L_val (.tuple #[.slice none 0 0, .int .i64 1]) (by rfl) (by rfl) (gives_value _ fun _ => by rfl) ?_
  refine L_val (.slice none 0 0) (by rfl) (by rfl) (gives_value _ fun _ => by kernel_rfl) ?_
  refine L_val (.int .i64 1) (by rfl) (by rfl) (gives_value _ fun _ => by kernel_rfl) ?_
  refine L_val (.slice none 0 0) (by rfl) (by rfl) (gives_value _ fun _ => by rfl) ?_
  refine L_val (.int .i64 1) (by rfl) (by rfl) (gives_value _ fun _ => by rfl) ?_
  refine L_end ?_
  intro w5 hw5
  refine wp_seq ?_
  refine seq_plain hw5 [0, 1, 2, 3, 4, 5] (by rfl) ?_
  refine L_val (.int .i64 a2) (by rfl) (by rfl) (gives_value _ fun _ => by rfl) ?_
  refine L_val (.bool true) (by rfl) (by rfl) (gives_lss (k := .i64) (a2) (0) true (by rfl) (by rfl) (decide_eq_true (by omega))) ?_
  refine L_val (.bool true) (by rfl) (by rfl) (gives_value _ fun _ => by rfl) ?_
  refine L_skip (dj := 44) (by rfl) (by rfl) (by rfl) (by rfl) (by rfl) ?_
  refine L_skip (dj := 44) (by rfl) (by rfl) (by rfl) (by rfl) (by rfl) ?_
  refine L_val (.bool true) (by rfl) (by rfl) (gives_value _ fun _ => by rfl) ?_
  refine L_end ?_
  intro w6 hw6
  refine wp_cond_true (fr_at _ _ (by rfl) _) ?_
  refine seq_plain hw6 [0, 1, 2, 3, 4, 5, 6, 7] (by rfl) ?_
  refine L_val (.int .i64 1) (by rfl) (by rfl) (gives_value _ fun _ => by rfl) ?_
  refine L_val (.bool true) (by rfl) (by rfl) (gives_ieq (k := .i64) 1 1 true (by rfl) (by rfl) (by rfl)) ?_
  refine L_val (.bool true) (by rfl) (by rfl) (gives_value _ fun _ => by rfl) ?_
  refine L_val_g (dj := 50) (.slice none 0 0) (by rfl) (by rfl) (by rfl) (by rfl) (by rfl) (gives_value _ fun _ => by rfl) ?_
  refine L_val_g (dj := 50) (.int .i64 0) (by rfl) (by rfl) (by rfl) (by rfl) (by rfl) (gives_value _ fun _ => by kernel_rfl) ?_
  refine L_val_g (dj := 50) (.bool true) (by rfl) (by rfl) (by rfl) (by rfl) (by rfl) (gives_ieq (k := .i64) 0 0 true (by rfl) (by rfl) (by rfl)) ?_
  refine L_val (.bool true) (by rfl) (by rfl) (gives_value _ fun _ => by rfl) ?_
  refine L_val (.bool true) (by rfl) (by rfl) (gives_value _ fun _ => by rfl) ?_
  refine L_end ?_
  intro w7 hw7
  refine wp_ret ?_
  change bodyPost _ _ _ Exit.ret _ _
  refine (ret_tmp (by rfl) (by rfl) (by rfl) ⟨rfl, hw7.below⟩)
set_option maxRecDepth 100000 in
set_option maxHeartbeats 4000000 in
theorem numbers_big (A0 : Option Addr) (n0 c0 : Nat) (bs0 : List Int) (A1 : Option Addr) (n1 c1 : Nat) (bs1 : List Int) (a2 : Int) (v : World) (hr0 : Reads v v.heap.size A0 n0 (bs0.map (Value.int .u8))) (hr1 : Reads v v.heap.size A1 n1 (bs1.map (Value.int .u8))) (hgl : Glob v) (h2 : 3 ≤ v.heap.size) (hG : Glo0 v) (hH : GShp v) (hs : n0 ≤ 4096 ∧ n1 ≤ 4096) (hN : 63 < a2) : Rets 3 #[.slice A0 n0 c0, .slice A1 n1 c1, .int .i64 a2] v (.bool true) := by
  refine calls_fr3 Tryd.func3 rfl (by rfl : _ = 121) (by rfl) ?_
  have hw := Hbl.nil v
  refine seq_plain hw [0] (by rfl) ?_
  refine L_val (.bool false) (by rfl) (by rfl) (gives_value _ fun _ => by rfl) ?_
  refine L_end ?_
  intro w1 hw1
  refine wp_seq ?_
  refine seq_plain hw1 [0, 1] (by rfl) ?_
  refine L_val (.bool true) (by rfl) (by rfl) (gives_call (vl := []) (by kernel_rfl) (by rfl) (fun w h => x_head w (hgl.below h.below h2) (Nat.le_trans h2 h.below.size))) ?_
  refine L_val (.bool false) (by rfl) (by rfl) (gives_value _ fun _ => by rfl) ?_
  refine L_end ?_
  intro w2 hw2
  refine wp_cond_false (fr_at _ _ (by rfl) _) ?_
  refine wp_skip ?_
  change Code.wp _ _ _ _ _
  refine wp_seq ?_
  refine seq_plain hw2 [0, 1, 2, 3, 4, 5, 6, 7] (by rfl) ?_
  refine L_val (.slice A0 n0 c0) (by rfl) (by rfl) (gives_value _ fun _ => by rfl) ?_
  refine L_val (.int .i64 (n0 : Int)) (by rfl) (by rfl) (gives_len _ n0 c0 und_u8s (by rfl)) ?_
  refine L_val (.bool false) (by rfl) (by rfl) (gives_gtr (k := .i64) ((n0 : Int)) (4096) false (by rfl) (by rfl) (decide_eq_false (by omega))) ?_
  refine L_val (.bool false) (by rfl) (by rfl) (gives_value _ fun _ => by rfl) ?_
  refine L_val_g (dj := 20) (.slice A1 n1 c1) (by rfl) (by rfl) (by rfl) (by rfl) (by rfl) (gives_value _ fun _ => by rfl) ?_
  refine L_val_g (dj := 20) (.int .i64 (n1 : Int)) (by rfl) (by rfl) (by rfl) (by rfl) (by rfl) (gives_len _ n1 c1 und_u8s (by rfl)) ?_
  refine L_val_g (dj := 20) (.bool false) (by rfl) (by rfl) (by rfl) (by rfl) (by rfl) (gives_gtr (k := .i64) ((n1 : Int)) (4096) false (by rfl) (by rfl) (decide_eq_false (by omega))) ?_
  refine L_val (.bool false) (by rfl) (by rfl) (gives_value _ fun _ => by rfl) ?_
  refine L_end ?_
  intro w3 hw3
  refine wp_cond_false (fr_at _ _ (by rfl) _) ?_
  refine wp_skip ?_
  change Code.wp _ _ _ _ _
  refine wp_seq ?_
  refine seq_plain hw3 [0, 1, 2, 3, 4, 5] (by rfl) ?_
  refine L_val (.int .i64 a2) (by rfl) (by rfl) (gives_value _ fun _ => by rfl) ?_
  refine L_val (.bool true) (by rfl) (by rfl) (gives_gtr (k := .i64) (a2) (4) true (by rfl) (by rfl) (decide_eq_true (by omega))) ?_
  refine L_val (.bool true) (by rfl) (by rfl) (gives_value _ fun _ => by rfl) ?_
  refine L_val_g (dj := 27) (.int .i64 a2) (by rfl) (by rfl) (by rfl) (by rfl) (by rfl) (gives_value _ fun _ => by rfl) ?_
  refine L_val_g (dj := 27) (.bool false) (by rfl) (by rfl) (by rfl) (by rfl) (by rfl) (gives_leq (k := .i64) (a2) (63) false (by rfl) (by rfl) (decide_eq_false (by omega))) ?_
  refine L_val (.bool false) (by rfl) (by rfl) (gives_value _ fun _ => by rfl) ?_
  refine L_end ?_
  intro w4 hw4
  refine wp_cond_false (fr_at _ _ (by rfl) _) ?_
  refine wp_skip ?_
  change Code.wp _ _ _ _ _
  refine seq_plain hw4 [0, 1, 2, 3, 4, 5, 6, 7, 8, 9, 10] (by rfl) ?_
  refine L_val (.slice A0 n0 c0) (by rfl) (by rfl) (gives_value _ fun _ => by rfl) ?_
  refine L_freshP (vl := [.slice A0 n0 c0]) 5 .u8 n0 bs0 (by rfl) (by rfl) Want.none (by kernel_rfl) (by rfl) (fun w h => c_copy w _ _ _ bs0 ((hr0.below h.below).more h.below.size) (by omega)) ?_; intro g1 cap_1 cs_1 hn_1
  refine L_val (.slice A1 n1 c1) (by rfl) (by rfl) (gives_value _ fun _ => by rfl) ?_
  refine L_freshP (vl := [.slice A1 n1 c1]) 5 .u8 n1 bs1 (by rfl) (by rfl) Want.none (by kernel_rfl) (by rfl) (fun w h => c_copy w _ _ _ bs1 ((hr1.below h.below).more h.below.size) (by omega)) ?_; intro g2 cap_2 cs_2 hn_2
  refine L_val (.int .i64 a2) (by rfl) (by rfl) (gives_value _ fun _ => by rfl) ?_
  refine L_val (.tuple #[.slice none 0 0, .int .i64 1]) (by rfl) (by rfl) (gives_call (vl := [.slice (some ⟨g1, 0, none⟩) n0 cap_1, .slice (some ⟨g2, 0, none⟩) n1 cap_2, .int .i64 a2]) (by kernel_rfl) (by rfl) (fun w h => x_numbers_big _ _ _ _ _ _ _ w (by omega))) ?_
  refine L_val (.tuple #[.slice none 0 0, .int .i64 1]) (by rfl) (by rfl) (gives_value _ fun _ => by rfl) ?_
  refine L_val (.slice none 0 0) (by rfl) (by rfl) (gives_value _ fun _ => by kernel_rfl) ?_
  refine L_val (.int .i64 1) (by rfl) (by rfl) (gives_value _ fun _ => by kernel_rfl) ?_
  refine L_val (.slice none 0 0) (by rfl) (by rfl) (gives_value _ fun _ => by rfl) ?_
  refine L_val (.int .i64 1) (by rfl) (by rfl) (gives_value _ fun _ => by rfl) ?_
  refine L_end ?_
  intro w5 hw5
  refine wp_seq ?_
  refine seq_plain hw5 [0, 1, 2, 3, 4, 5] (by rfl) ?_
  refine L_val (.int .i64 a2) (by rfl) (by rfl) (gives_value _ fun _ => by rfl) ?_
  refine L_val (.bool false) (by rfl) (by rfl) (gives_lss (k := .i64) (a2) (0) false (by rfl) (by rfl) (decide_eq_false (by omega))) ?_
  refine L_val (.bool false) (by rfl) (by rfl) (gives_value _ fun _ => by rfl) ?_
  refine L_val_g (dj := 44) (.int .i64 a2) (by rfl) (by rfl) (by rfl) (by rfl) (by rfl) (gives_value _ fun _ => by rfl) ?_
  refine L_val_g (dj := 44) (.bool true) (by rfl) (by rfl) (by rfl) (by rfl) (by rfl) (gives_gtr (k := .i64) (a2) (63) true (by rfl) (by rfl) (decide_eq_true (by omega))) ?_
  refine L_val (.bool true) (by rfl) (by rfl) (gives_value _ fun _ => by rfl) ?_
  refine L_end ?_
  intro w6 hw6
  refine wp_cond_true (fr_at _ _ (by rfl) _) ?_
  refine seq_plain hw6 [0, 1, 2, 3, 4, 5, 6, 7] (by rfl) ?_
  refine L_val (.int .i64 1) (by rfl) (by rfl) (gives_value _ fun _ => by rfl) ?_
  refine L_val (.bool true) (by rfl) (by rfl) (gives_ieq (k := .i64) 1 1 true (by rfl) (by rfl) (by rfl)) ?_
  refine L_val (.bool true) (by rfl) (by rfl) (gives_value _ fun _ => by rfl) ?_
  refine L_val_g (dj := 50) (.slice none 0 0) (by rfl) (by rfl) (by rfl) (by rfl) (by rfl) (gives_value _ fun _ => by rfl) ?_
  refine L_val_g (dj := 50) (.int .i64 0) (by rfl) (by rfl) (by rfl) (by rfl) (by rfl) (gives_value _ fun _ => by kernel_rfl) ?_
  refine L_val_g (dj := 50) (.bool true) (by rfl) (by rfl) (by rfl) (by rfl) (by rfl) (gives_ieq (k := .i64) 0 0 true (by rfl) (by rfl) (by rfl)) ?_
  refine L_val (.bool true) (by rfl) (by rfl) (gives_value _ fun _ => by rfl) ?_
  refine L_val (.bool true) (by rfl) (by rfl) (gives_value _ fun _ => by rfl) ?_
  refine L_end ?_
  intro w7 hw7
  refine wp_ret ?_
  change bodyPost _ _ _ Exit.ret _ _
  refine (ret_tmp (by rfl) (by rfl) (by rfl) ⟨rfl, hw7.below⟩)
set_option maxRecDepth 100000 in
set_option maxHeartbeats 4000000 in
theorem numbers_in (A0 : Option Addr) (n0 c0 : Nat) (bs0 : List Int) (A1 : Option Addr) (n1 c1 : Nat) (bs1 : List Int) (cn : Nat) (v : World) (hr0 : Reads v v.heap.size A0 n0 (bs0.map (Value.int .u8))) (hr1 : Reads v v.heap.size A1 n1 (bs1.map (Value.int .u8))) (hgl : Glob v) (h2 : 3 ≤ v.heap.size) (hG : Glo0 v) (hH : GShp v) (hs : n0 ≤ 4096 ∧ n1 ≤ 4096) (hN : cn ≤ 4) : Rets 3 #[.slice A0 n0 c0, .slice A1 n1 c1, .int .i64 (cn : Int)] v (.bool true) := by
  refine calls_fr3 Tryd.func3 rfl (by rfl : _ = 121) (by rfl) ?_
  have hw := Hbl.nil v
  refine seq_plain hw [0] (by rfl) ?_
  refine L_val (.bool false) (by rfl) (by rfl) (gives_value _ fun _ => by rfl) ?_
  refine L_end ?_
  intro w1 hw1
  refine wp_seq ?_
  refine seq_plain hw1 [0, 1] (by rfl) ?_
  refine L_val (.bool true) (by rfl) (by rfl) (gives_call (vl := []) (by kernel_rfl) (by rfl) (fun w h => x_head w (hgl.below h.below h2) (Nat.le_trans h2 h.below.size))) ?_
  refine L_val (.bool false) (by rfl) (by rfl) (gives_value _ fun _ => by rfl) ?_
  refine L_end ?_
  intro w2 hw2
  refine wp_cond_false (fr_at _ _ (by rfl) _) ?_
  refine wp_skip ?_
  change Code.wp _ _ _ _ _
  refine wp_seq ?_
  refine seq_plain hw2 [0, 1, 2, 3, 4, 5, 6, 7] (by rfl) ?_
  refine L_val (.slice A0 n0 c0) (by rfl) (by rfl) (gives_value _ fun _ => by rfl) ?_
  refine L_val (.int .i64 (n0 : Int)) (by rfl) (by rfl) (gives_len _ n0 c0 und_u8s (by rfl)) ?_
  refine L_val (.bool false) (by rfl) (by rfl) (gives_gtr (k := .i64) ((n0 : Int)) (4096) false (by rfl) (by rfl) (decide_eq_false (by omega))) ?_
  refine L_val (.bool false) (by rfl) (by rfl) (gives_value _ fun _ => by rfl) ?_
  refine L_val_g (dj := 20) (.slice A1 n1 c1) (by rfl) (by rfl) (by rfl) (by rfl) (by rfl) (gives_value _ fun _ => by rfl) ?_
  refine L_val_g (dj := 20) (.int .i64 (n1 : Int)) (by rfl) (by rfl) (by rfl) (by rfl) (by rfl) (gives_len _ n1 c1 und_u8s (by rfl)) ?_
  refine L_val_g (dj := 20) (.bool false) (by rfl) (by rfl) (by rfl) (by rfl) (by rfl) (gives_gtr (k := .i64) ((n1 : Int)) (4096) false (by rfl) (by rfl) (decide_eq_false (by omega))) ?_
  refine L_val (.bool false) (by rfl) (by rfl) (gives_value _ fun _ => by rfl) ?_
  refine L_end ?_
  intro w3 hw3
  refine wp_cond_false (fr_at _ _ (by rfl) _) ?_
  refine wp_skip ?_
  change Code.wp _ _ _ _ _
  refine wp_seq ?_
  refine seq_plain hw3 [0, 1, 2, 3, 4, 5] (by rfl) ?_
  refine L_val (.int .i64 (cn : Int)) (by rfl) (by rfl) (gives_value _ fun _ => by rfl) ?_
  refine L_val (.bool false) (by rfl) (by rfl) (gives_gtr (k := .i64) ((cn : Int)) (4) false (by rfl) (by rfl) (decide_eq_false (by omega))) ?_
  refine L_val (.bool false) (by rfl) (by rfl) (gives_value _ fun _ => by rfl) ?_
  refine L_skip (dj := 27) (by rfl) (by rfl) (by rfl) (by rfl) (by rfl) ?_
  refine L_skip (dj := 27) (by rfl) (by rfl) (by rfl) (by rfl) (by rfl) ?_
  refine L_val (.bool false) (by rfl) (by rfl) (gives_value _ fun _ => by rfl) ?_
  refine L_end ?_
  intro w4 hw4
  refine wp_cond_false (fr_at _ _ (by rfl) _) ?_
  refine wp_skip ?_
  change Code.wp _ _ _ _ _
  refine seq_plain hw4 [0, 1, 2, 3, 4, 5, 6, 7, 8, 9, 10] (by rfl) ?_
  refine L_val (.slice A0 n0 c0) (by rfl) (by rfl) (gives_value _ fun _ => by rfl) ?_
  refine L_freshP (vl := [.slice A0 n0 c0]) 5 .u8 n0 bs0 (by rfl) (by rfl) Want.none (by kernel_rfl) (by rfl) (fun w h => c_copy w _ _ _ bs0 ((hr0.below h.below).more h.below.size) (by omega)) ?_; intro g1 cap_1 cs_1 hn_1
  refine L_val (.slice A1 n1 c1) (by rfl) (by rfl) (gives_value _ fun _ => by rfl) ?_
  refine L_freshP (vl := [.slice A1 n1 c1]) 5 .u8 n1 bs1 (by rfl) (by rfl) Want.none (by kernel_rfl) (by rfl) (fun w h => c_copy w _ _ _ bs1 ((hr1.below h.below).more h.below.size) (by omega)) ?_; intro g2 cap_2 cs_2 hn_2
  refine L_val (.int .i64 (cn : Int)) (by rfl) (by rfl) (gives_value _ fun _ => by rfl) ?_
  refine L_freshE2 (vl := [.slice (some ⟨g1, 0, none⟩) n0 cap_1, .slice (some ⟨g2, 0, none⟩) n1 cap_2, .int .i64 (cn : Int)]) cn (numsL bs0 bs1 cn) (by rfl) (by rfl) Want.none (by kernel_rfl) (by rfl) (fun w h => x_numbers _ _ _ bs0 _ _ _ bs1 cn w (hn_1.reads (h.blk 1 (by rfl))) (hn_1.le) (hn_2.reads (h.blk 0 (by rfl))) (hn_2.le) (hgl.below h.below h2) (Nat.le_trans h2 h.below.size) (hG.keep h.below) (hH.keep h.below) (by omega) (by omega) (by omega)) ?_; intro g3 cap_3 cs_3 hn_3
  refine L_val (.tuple #[.slice (some ⟨g3, 0, none⟩) cn cap_3, .int .i64 0]) (by rfl) (by rfl) (gives_value _ fun _ => by rfl) ?_
  refine L_val (.slice (some ⟨g3, 0, none⟩) cn cap_3) (by rfl) (by rfl) (gives_value _ fun _ => by kernel_rfl) ?_
  refine L_val (.int .i64 0) (by rfl) (by rfl) (gives_value _ fun _ => by kernel_rfl) ?_
  refine L_val (.slice (some ⟨g3, 0, none⟩) cn cap_3) (by rfl) (by rfl) (gives_value _ fun _ => by rfl) ?_
  refine L_val (.int .i64 0) (by rfl) (by rfl) (gives_value _ fun _ => by rfl) ?_
  refine L_end ?_
  intro w5 hw5
  refine wp_seq ?_
  refine seq_plain hw5 [0, 1, 2, 3, 4, 5] (by rfl) ?_
  refine L_val (.int .i64 (cn : Int)) (by rfl) (by rfl) (gives_value _ fun _ => by rfl) ?_
  refine L_val (.bool false) (by rfl) (by rfl) (gives_lss (k := .i64) ((cn : Int)) (0) false (by rfl) (by rfl) (decide_eq_false (by omega))) ?_
  refine L_val (.bool false) (by rfl) (by rfl) (gives_value _ fun _ => by rfl) ?_
  refine L_val_g (dj := 44) (.int .i64 (cn : Int)) (by rfl) (by rfl) (by rfl) (by rfl) (by rfl) (gives_value _ fun _ => by rfl) ?_
  refine L_val_g (dj := 44) (.bool false) (by rfl) (by rfl) (by rfl) (by rfl) (by rfl) (gives_gtr (k := .i64) ((cn : Int)) (63) false (by rfl) (by rfl) (decide_eq_false (by omega))) ?_
  refine L_val (.bool false) (by rfl) (by rfl) (gives_value _ fun _ => by rfl) ?_
  refine L_end ?_
  intro w6 hw6
  refine wp_cond_false (fr_at _ _ (by rfl) _) ?_
  refine wp_skip ?_
  change Code.wp _ _ _ _ _
  refine seq_plain hw6 [0, 1, 2, 3, 4, 5, 6, 7, 8, 9] (by rfl) ?_
  refine L_val (.slice A0 n0 c0) (by rfl) (by rfl) (gives_value _ fun _ => by rfl) ?_
  refine L_val (.slice A1 n1 c1) (by rfl) (by rfl) (gives_value _ fun _ => by rfl) ?_
  refine L_val (.int .i64 (cn : Int)) (by rfl) (by rfl) (gives_value _ fun _ => by rfl) ?_
  refine L_val (.int .i64 ((128 * cn : Nat) : Int)) (by rfl) (by rfl) (gives_mul (k := .i64) (128) ((cn : Int)) (((128 * cn : Nat) : Int)) (by rfl) (by rfl) (by rw [IntWalk.i64_in _ (by omega)]; omega)) ?_
  refine L_freshT2 (vl := [.slice A0 n0 c0, .slice A1 n1 c1, .int .i64 ((128 * cn : Nat) : Int)]) (128 * cn) (expandL bs0 bs1 (128 * cn)) (by rfl) (by rfl) Want.none (by kernel_rfl) (by rfl) (fun w h => x_ref _ _ _ bs0 _ _ _ bs1 (128 * cn) w ((hr0.below h.below).more h.below.size) ((hr1.below h.below).more h.below.size) (hgl.below h.below h2) (Nat.le_trans h2 h.below.size) (by omega) (by omega) (by omega)) ?_; intro g4 cap_4 cs_4 hn_4
  refine L_val (.tuple #[.slice (some ⟨g4, 0, none⟩) (128 * cn) cap_4, .int .i64 0]) (by rfl) (by rfl) (gives_value _ fun _ => by rfl) ?_
  refine L_val (.slice (some ⟨g4, 0, none⟩) (128 * cn) cap_4) (by rfl) (by rfl) (gives_value _ fun _ => by kernel_rfl) ?_
  refine L_val (.int .i64 0) (by rfl) (by rfl) (gives_value _ fun _ => by kernel_rfl) ?_
  refine L_val (.slice (some ⟨g4, 0, none⟩) (128 * cn) cap_4) (by rfl) (by rfl) (gives_value _ fun _ => by rfl) ?_
  refine L_val (.int .i64 0) (by rfl) (by rfl) (gives_value _ fun _ => by rfl) ?_
  refine L_end ?_
  intro w7 hw7
  refine wp_seq ?_
  refine seq_plain hw7 [0, 1, 2, 3, 4, 5, 6, 7] (by rfl) ?_
  refine L_val (.int .i64 0) (by rfl) (by rfl) (gives_value _ fun _ => by rfl) ?_
  refine L_val (.bool false) (by rfl) (by rfl) (gives_ine (k := .i64) (0) (0) false (by rfl) (by rfl) (decide_eq_false (by omega))) ?_
  refine L_val (.bool false) (by rfl) (by rfl) (gives_value _ fun _ => by rfl) ?_
  refine L_val_g (dj := 65) (.slice (some ⟨g3, 0, none⟩) cn cap_3) (by rfl) (by rfl) (by rfl) (by rfl) (by rfl) (gives_value _ fun _ => by rfl) ?_
  refine L_val_g (dj := 65) (.int .i64 (cn : Int)) (by rfl) (by rfl) (by rfl) (by rfl) (by rfl) (gives_len _ cn cap_3 Tryd.underlying24 (by rfl)) ?_
  refine L_val_g (dj := 65) (.int .i64 (cn : Int)) (by rfl) (by rfl) (by rfl) (by rfl) (by rfl) (gives_value _ fun _ => by rfl) ?_
  refine L_val_g (dj := 65) (.bool false) (by rfl) (by rfl) (by rfl) (by rfl) (by rfl) (gives_ine (k := .i64) ((cn : Int)) ((cn : Int)) false (by rfl) (by rfl) (decide_eq_false (by omega))) ?_
  refine L_val (.bool false) (by rfl) (by rfl) (gives_value _ fun _ => by rfl) ?_
  refine L_end ?_
  intro w8 hw8
  refine wp_cond_false (fr_at _ _ (by rfl) _) ?_
  refine wp_skip ?_
  change Code.wp _ _ _ _ _
  refine wp_seq ?_
  refine seq_plain hw8 [0, 1, 2] (by rfl) ?_
  refine L_val (.slice (some ⟨g3, 0, none⟩) cn cap_3) (by rfl) (by rfl) (gives_value _ fun _ => by rfl) ?_
  refine L_val (.int .i64 (cn : Int)) (by rfl) (by rfl) (gives_len _ cn cap_3 Tryd.underlying24 (by rfl)) ?_
  refine L_val (.int .i64 0) (by rfl) (by rfl) (gives_value _ fun _ => by rfl) ?_
  refine L_end ?_
  intro w9 hw9
  refine wp_block ?_
  refine loop_down (fun (r_ : Nat) a w => ∃ (i : Nat) (l_1 : List (Nat × Value)), cn - i = r_ ∧ inFr 121 l_1 = true ∧ a = fr 121 ((7, .slice (some ⟨g3, 0, none⟩) cn cap_3) :: (9, .slice (some ⟨g4, 0, none⟩) (128 * cn) cap_4) :: (72, .int .i64 (cn : Int)) :: (73, .int .i64 (i : Int)) :: l_1) ∧ (i ≤ cn) ∧ Hbl v [(g4, 5, cs_4), (g3, 37, cs_3)] w) ?_ _ _ _ ⟨0, [(73, .int .i64 0), (72, .int .i64 (cn : Int)), (71, .slice (some ⟨g3, 0, none⟩) cn cap_3), (70, .bool false), (69, .bool false), (68, .int .i64 (cn : Int)), (67, .int .i64 (cn : Int)), (66, .slice (some ⟨g3, 0, none⟩) cn cap_3), (65, .bool false), (64, .bool false), (63, .int .i64 0), (10, .int .i64 0), (9, .slice (some ⟨g4, 0, none⟩) (128 * cn) cap_4), (62, .int .i64 0), (61, .slice (some ⟨g4, 0, none⟩) (128 * cn) cap_4), (55, .tuple #[.slice (some ⟨g4, 0, none⟩) (128 * cn) cap_4, .int .i64 0]), (60, .tuple #[.slice (some ⟨g4, 0, none⟩) (128 * cn) cap_4, .int .i64 0]), (59, .int .i64 ((128 * cn : Nat) : Int)), (58, .int .i64 (cn : Int)), (57, .slice A1 n1 c1), (56, .slice A0 n0 c0), (47, .bool false), (46, .bool false), (45, .int .i64 (cn : Int)), (44, .bool false), (43, .bool false), (42, .int .i64 (cn : Int)), (8, .int .i64 0), (7, .slice (some ⟨g3, 0, none⟩) cn cap_3), (41, .int .i64 0), (40, .slice (some ⟨g3, 0, none⟩) cn cap_3), (33, .tuple #[.slice (some ⟨g3, 0, none⟩) cn cap_3, .int .i64 0]), (39, .tuple #[.slice (some ⟨g3, 0, none⟩) cn cap_3, .int .i64 0]), (38, .int .i64 (cn : Int)), (37, .slice (some ⟨g2, 0, none⟩) n1 cap_2), (36, .slice A1 n1 c1), (35, .slice (some ⟨g1, 0, none⟩) n0 cap_1), (34, .slice A0 n0 c0), (30, .bool false), (29, undef), (28, undef), (27, .bool false), (26, .bool false), (25, .int .i64 (cn : Int)), (24, .bool false), (23, .bool false), (22, .int .i64 (n1 : Int)), (21, .slice A1 n1 c1), (20, .bool false), (19, .bool false), (18, .int .i64 (n0 : Int)), (17, .slice A0 n0 c0), (16, .bool false), (15, .bool true), (6, .bool false), (2, .int .i64 (cn : Int)), (1, .slice A1 n1 c1), (0, .slice A0 n0 c0)], rfl, (by rfl), (Eq.trans (Eq.trans (Eq.trans (fr_dup _ _ 73 _ (by rfl) (by rfl) (by rfl)).symm (fr_dup _ _ 72 _ (by rfl) (by rfl) (by rfl)).symm) (fr_dup _ _ 9 _ (by rfl) (by rfl) (by rfl)).symm) (fr_dup _ _ 7 _ (by rfl) (by rfl) (by rfl)).symm), Nat.zero_le _, (hw9.sub (List.Sublist.cons_cons _ (List.Sublist.cons_cons _ (List.Sublist.cons _ (List.Sublist.cons _ (List.Sublist.refl _))))))⟩
  rintro r_1 a0 w0_1 ⟨i, l_1, hr_1, hl_1, rfl, hi, hw0_1⟩
  by_cases hlt : i < cn
  ·
    have hle_ := hn_4.le
    refine seq_plain hw0_1 [0] (by rfl) ?_
    refine L_val (.bool true) (by rfl) (by exact hl_1) (gives_lss (k := .i64) ((i : Int)) ((cn : Int)) true (by rfl) (by rfl) (decide_eq_true (by omega))) ?_
    refine L_end ?_
    intro w10 hw10
    refine wp_seq ?_
    refine wp_cond_true (fr_at _ _ (by exact hl_1) _) ?_
    refine wp_skip ?_
    change Code.wp _ _ _ _ _
    refine wp_seq ?_
    refine wp_block ?_
    refine seq_plain hw10 [0, 1] (by rfl) ?_
    refine L_val (.int .i64 (i : Int)) (by rfl) (by exact hl_1) (gives_value _ fun _ => by rfl) ?_
    refine L_val (.int .i64 (i : Int)) (by rfl) (by exact hl_1) (gives_value _ fun _ => by rfl) ?_
    refine L_end ?_
    intro w11 hw11
    refine seq_plain hw11 [0, 1, 2, 3, 4, 5, 6, 7] (by rfl) ?_
    refine L_val (.slice (some ⟨g3, 0, none⟩) cn cap_3) (by rfl) (by exact hl_1) (gives_value _ fun _ => by rfl) ?_
    refine L_val (.int .i64 (i : Int)) (by rfl) (by exact hl_1) (gives_value _ fun _ => by rfl) ?_
    refine L_val (.pointer (some ⟨g3, i * 12, none⟩)) (by rfl) (by exact hl_1) (gives_index_E g3 cn cap_3 12 ((i : Int)) i (i * 12) (by rfl) (by rfl) Tryd.underlying24 (by kernel_rfl) rfl (by omega)) ?_
    refine L_val (.pointer (some ⟨g3, i * 12, none⟩)) (by rfl) (by exact hl_1) (gives_value _ fun _ => by kernel_rfl) ?_
    refine L_val (.agg (pc ((elN (expandL bs0 bs1 (128 * cn)) i).a))) (by rfl) (by exact hl_1) (gives_load g3 (i * 12) 37 cs_3 (pc ((elN (expandL bs0 bs1 (128 * cn)) i).a)) _ (by rfl) (fun _ h => h.blk 1 (by rfl)) (sl_2a (elN (expandL bs0 bs1 (128 * cn)) i) _ _ (hn_3.sl c2_size (nums_at _ _ _ (by omega)))) Tryd.underlying35 (by rfl) (hi_1 _)) ?_
    refine L_val (.agg (b48c (((elN (expandL bs0 bs1 (128 * cn)) i).a).val : Int))) (by rfl) (by exact hl_1) (gives_call (vl := [.agg (pc ((elN (expandL bs0 bs1 (128 * cn)) i).a))]) (by kernel_rfl) (by rfl) (fun w h => v_bytes _ w (hG.keep h.below))) ?_
    refine L_alloc _ (by rfl) (by exact hl_1) z_b48 (b48c (0 : Int)) rfl ?_; intro g5
    refine L_store (t := 31) 0 g5 (b48c (0 : Int)) (b48c (((elN (expandL bs0 bs1 (128 * cn)) i).a).val : Int)) (by rfl) (by exact hl_1) (by rfl) (by rfl) (by rfl) (hi_b48 _) ((b48c_size _).trans (b48c_size _).symm) (b48c_one _) ?_
    simp only [List.set_cons_zero, List.set_cons_succ]
    refine L_end ?_
    intro w12 hw12
    refine seq_plain hw12 [0, 1, 2, 3, 4, 5, 6, 7] (by rfl) ?_
    refine L_val (.slice (some ⟨g3, 0, none⟩) cn cap_3) (by rfl) (by exact hl_1) (gives_value _ fun _ => by rfl) ?_
    refine L_val (.int .i64 (i : Int)) (by rfl) (by exact hl_1) (gives_value _ fun _ => by rfl) ?_
    refine L_val (.pointer (some ⟨g3, i * 12, none⟩)) (by rfl) (by exact hl_1) (gives_index_E g3 cn cap_3 12 ((i : Int)) i (i * 12) (by rfl) (by rfl) Tryd.underlying24 (by kernel_rfl) rfl (by omega)) ?_
    refine L_val (.pointer (some ⟨g3, i * 12 + 6, none⟩)) (by rfl) (by exact hl_1) (gives_value _ fun _ => by kernel_rfl) ?_
    refine L_val (.agg (pc ((elN (expandL bs0 bs1 (128 * cn)) i).b))) (by rfl) (by exact hl_1) (gives_load g3 (i * 12 + 6) 37 cs_3 (pc ((elN (expandL bs0 bs1 (128 * cn)) i).b)) _ (by rfl) (fun _ h => h.blk 2 (by rfl)) (sl_2b (elN (expandL bs0 bs1 (128 * cn)) i) _ _ (i * 12 + 6) (hn_3.sl c2_size (nums_at _ _ _ (by omega))) rfl) Tryd.underlying35 (by rfl) (hi_1 _)) ?_
    refine L_val (.agg (b48c (((elN (expandL bs0 bs1 (128 * cn)) i).b).val : Int))) (by rfl) (by exact hl_1) (gives_call (vl := [.agg (pc ((elN (expandL bs0 bs1 (128 * cn)) i).b))]) (by kernel_rfl) (by rfl) (fun w h => v_bytes _ w (hG.keep h.below))) ?_
    refine L_alloc _ (by rfl) (by exact hl_1) z_b48 (b48c (0 : Int)) rfl ?_; intro g6
    refine L_store (t := 31) 0 g6 (b48c (0 : Int)) (b48c (((elN (expandL bs0 bs1 (128 * cn)) i).b).val : Int)) (by rfl) (by exact hl_1) (by rfl) (by rfl) (by rfl) (hi_b48 _) ((b48c_size _).trans (b48c_size _).symm) (b48c_one _) ?_
    simp only [List.set_cons_zero, List.set_cons_succ]
    refine L_end ?_
    intro w13 hw13
    refine seq_plain hw13 [0, 1] (by rfl) ?_
    refine L_freshW (vl := []) (24) (Mp) (by rfl) (by exact hl_1) (by kernel_rfl) (by rfl) (fun w h => m_04 w) ?_; intro g7 cap_5 cs_5 hwb_5
    refine L_val (.slice (some ⟨g7, 0, none⟩) (24) cap_5) (by rfl) (by exact hl_1) (gives_value _ fun _ => by rfl) ?_
    refine L_end ?_
    intro w14 hw14
    refine seq_flow (by kernel_rfl) hw14 [] [(g7, 100, cs_5), (g6, 31, (b48c (((elN (expandL bs0 bs1 (128 * cn)) i).b).val : Int))), (g5, 31, (b48c (((elN (expandL bs0 bs1 (128 * cn)) i).a).val : Int))), (g4, 5, cs_4), (g3, 37, cs_3)] 31 (by rfl) ?_
    refine flow_take (i := 0) (.slice (some ⟨g5, 0, none⟩) 48 48) (by rfl) (by kernel_rfl) (by kernel_rfl) (by kernel_rfl) (by exact hl_1) (by kernel_rfl) (List.Sublist.refl _) (gives_slice_arr g5 48 1 (by rfl) und_b48 u8_sz) ?_
    refine flow_take (i := 1) (.slice (some ⟨g4, 0, none⟩) (128 * cn) cap_4) (by rfl) (by kernel_rfl) (by kernel_rfl) (by kernel_rfl) (by exact hl_1) (by kernel_rfl) (List.Sublist.refl _) (gives_value _ fun _ => by rfl) ?_
    refine flow_take (i := 2) (.int .i64 (i : Int)) (by rfl) (by kernel_rfl) (by kernel_rfl) (by kernel_rfl) (by exact hl_1) (by kernel_rfl) (List.Sublist.refl _) (gives_value _ fun _ => by rfl) ?_
    refine flow_take (i := 3) (.int .i64 (128 * (i : Int))) (by rfl) (by kernel_rfl) (by kernel_rfl) (by kernel_rfl) (by exact hl_1) (by kernel_rfl) (List.Sublist.refl _) (gives_mul (k := .i64) (128) ((i : Int)) (128 * (i : Int)) (by rfl) (by rfl) (IntWalk.i64_in _ (by omega))) ?_
    refine flow_take (i := 4) (.int .i64 (i : Int)) (by rfl) (by kernel_rfl) (by kernel_rfl) (by kernel_rfl) (by exact hl_1) (by kernel_rfl) (List.Sublist.refl _) (gives_value _ fun _ => by rfl) ?_
    refine flow_take (i := 5) (.int .i64 (128 * (i : Int))) (by rfl) (by kernel_rfl) (by kernel_rfl) (by kernel_rfl) (by exact hl_1) (by kernel_rfl) (List.Sublist.refl _) (gives_mul (k := .i64) (128) ((i : Int)) (128 * (i : Int)) (by rfl) (by rfl) (IntWalk.i64_in _ (by omega))) ?_
    refine flow_take (i := 6) (.int .i64 ((128 * (i : Int)) + 64)) (by rfl) (by kernel_rfl) (by kernel_rfl) (by kernel_rfl) (by exact hl_1) (by kernel_rfl) (List.Sublist.refl _) (gives_add (k := .i64) (128 * (i : Int)) (64) ((128 * (i : Int)) + 64) (by rfl) (by rfl) (IntWalk.i64_in _ (by omega))) ?_
    refine flow_take (i := 7) (.slice (some ⟨g4, 128 * i, none⟩) 64 (cap_4 - (128 * i))) (by rfl) (by kernel_rfl) (by kernel_rfl) (by kernel_rfl) (by exact hl_1) (by kernel_rfl) (List.Sublist.refl _) (gives_slice_lh g4 0 (128 * cn) cap_4 (128 * i) (128 * i + 64) (128 * i) 64 (cap_4 - (128 * i)) (128 * (i : Int)) ((128 * (i : Int)) + 64) (by rfl) (by rfl) (by rfl) und_u8s u8_sz (by omega) (by omega) (by omega) (by omega) (by omega) (by omega) (by omega) (by omega)) ?_
    refine flow_take (i := 9) (.slice (some ⟨g7, 0, none⟩) (24) cap_5) (by rfl) (by kernel_rfl) (by kernel_rfl) (by kernel_rfl) (by exact hl_1) (by kernel_rfl) (List.Sublist.refl _) (gives_value _ fun _ => by rfl) ?_
    refine flow_one 8 (by kernel_rfl) ?_
    refine F_freshW (vl := [.slice (some ⟨g4, 128 * i, none⟩) 64 (cap_4 - (128 * i))]) ((64 + 1) / 2) (num (((expandL bs0 bs1 (128 * cn)).drop (128 * i)).take 64)) (by rfl) (by exact hl_1) Want.none (by kernel_rfl) (by rfl) (List.Sublist.refl _) (fun w h => n_number w _ _ _ (((expandL bs0 bs1 (128 * cn)).drop (128 * i)).take 64) (hn_4.part (h.blk 3 (by rfl)) (128 * i) 64 (by omega)) (oct_part (expandL_oct _ _ _) _ _) (by omega)) ?_; intro g8 cap_6 cs_6 hwb_6
    refine flow_one 10 (by kernel_rfl) ?_
    refine F_freshW (vl := [.slice (some ⟨g8, 0, none⟩) ((64 + 1) / 2) cap_6, .slice (some ⟨g7, 0, none⟩) (24) cap_5]) (24) ((num (((expandL bs0 bs1 (128 * cn)).drop (128 * i)).take 64)) % Mp) (by rfl) (by exact hl_1) Want.none (by kernel_rfl) (by rfl) (List.Sublist.cons _ (List.Sublist.refl _)) (fun w h => n_mod w _ _ _ _ _ _ _ _ (hwb_6.num (h.blk 0 (by rfl)) (num_rng (((expandL bs0 bs1 (128 * cn)).drop (128 * i)).take 64) _ (oct_part (expandL_oct _ _ _) _ _) (part_len _ _ (by rw [expandL_len]; omega))) (by omega)) (hwb_5.num (h.blk 1 (by rfl)) ⟨Int.le_of_lt Mp_pos, Mp_24⟩ (by omega)) Mp_pos) ?_; intro g9 cap_7 cs_7 hwb_7
    refine flow_one 11 (by kernel_rfl) ?_
    refine F_fresh (vl := [.slice (some ⟨g9, 0, none⟩) (24) cap_7, .int .i64 48]) 5 (ag8 (lo ((num (((expandL bs0 bs1 (128 * cn)).drop (128 * i)).take 64)) % Mp) 48)) (fun g => .slice (some ⟨g, 0, none⟩) 48 48) (by rfl) (by exact hl_1) Want.none (by kernel_rfl) (by rfl) (List.Sublist.cons _ (List.Sublist.cons _ (List.Sublist.refl _))) (fun w h => n_bytes w _ _ _ _ 48 (by omega) (hwb_7.num (h.blk 0 (by rfl)) (mod_rng _ _ _ Mp_pos Mp_24) (by omega))) ?_; intro g10
    refine flow_one 12 (by kernel_rfl) ?_
    refine F_val (vl := [.slice (some ⟨g5, 0, none⟩) 48 48, .slice (some ⟨g10, 0, none⟩) 48 48]) (.bool true) (by rfl) (by exact hl_1) Want.none (by kernel_rfl) (by rfl) (List.Sublist.cons _ (List.Sublist.cons _ (List.Sublist.cons _ (List.Sublist.refl _)))) (fun w h => n_same w _ _ _ _ _ _ (lo (((elN (expandL bs0 bs1 (128 * cn)) i).a).val : Int) 48) (lo ((num (((expandL bs0 bs1 (128 * cn)).drop (128 * i)).take 64)) % Mp) 48) (copy_reads (h.blk 5 (by rfl)) (lo_len _ _)) (copy_reads (h.blk 0 (by rfl)) (lo_len _ _)) (by omega) (by omega) (by exact congrArg (fun t => lo t 48) (Fp.n_val _))) ?_
    refine flow_take (i := 13) (.bool false) (by rfl) (by kernel_rfl) (by kernel_rfl) (by kernel_rfl) (by exact hl_1) (by kernel_rfl) (List.Sublist.cons _ (List.Sublist.cons _ (List.Sublist.cons _ (List.Sublist.refl _)))) (gives_value _ fun _ => by rfl) ?_
    refine flow_take (i := 14) (.bool false) (by rfl) (by kernel_rfl) (by kernel_rfl) (by kernel_rfl) (by exact hl_1) (by kernel_rfl) (List.Sublist.cons _ (List.Sublist.cons _ (List.Sublist.cons _ (List.Sublist.refl _)))) (gives_value _ fun _ => by rfl) ?_
    refine flow_take_g (i := 15) (dj := 103) (.slice (some ⟨g6, 0, none⟩) 48 48) (by rfl) (by kernel_rfl) (by kernel_rfl) (by kernel_rfl) (by exact hl_1) (by kernel_rfl) (List.Sublist.cons _ (List.Sublist.cons _ (List.Sublist.cons _ (List.Sublist.refl _)))) (by rfl) (by rfl) (by rfl) (gives_slice_arr g6 48 1 (by rfl) und_b48 u8_sz) ?_
    refine flow_take_g (i := 16) (dj := 103) (.slice (some ⟨g4, 0, none⟩) (128 * cn) cap_4) (by rfl) (by kernel_rfl) (by kernel_rfl) (by kernel_rfl) (by exact hl_1) (by kernel_rfl) (List.Sublist.cons _ (List.Sublist.cons _ (List.Sublist.cons _ (List.Sublist.refl _)))) (by rfl) (by rfl) (by rfl) (gives_value _ fun _ => by rfl) ?_
    refine flow_take_g (i := 17) (dj := 103) (.int .i64 (i : Int)) (by rfl) (by kernel_rfl) (by kernel_rfl) (by kernel_rfl) (by exact hl_1) (by kernel_rfl) (List.Sublist.cons _ (List.Sublist.cons _ (List.Sublist.cons _ (List.Sublist.refl _)))) (by rfl) (by rfl) (by rfl) (gives_value _ fun _ => by rfl) ?_
    refine flow_take_g (i := 18) (dj := 103) (.int .i64 (128 * (i : Int))) (by rfl) (by kernel_rfl) (by kernel_rfl) (by kernel_rfl) (by exact hl_1) (by kernel_rfl) (List.Sublist.cons _ (List.Sublist.cons _ (List.Sublist.cons _ (List.Sublist.refl _)))) (by rfl) (by rfl) (by rfl) (gives_mul (k := .i64) (128) ((i : Int)) (128 * (i : Int)) (by rfl) (by rfl) (IntWalk.i64_in _ (by omega))) ?_
    refine flow_take_g (i := 19) (dj := 103) (.int .i64 ((128 * (i : Int)) + 64)) (by rfl) (by kernel_rfl) (by kernel_rfl) (by kernel_rfl) (by exact hl_1) (by kernel_rfl) (List.Sublist.cons _ (List.Sublist.cons _ (List.Sublist.cons _ (List.Sublist.refl _)))) (by rfl) (by rfl) (by rfl) (gives_add (k := .i64) (128 * (i : Int)) (64) ((128 * (i : Int)) + 64) (by rfl) (by rfl) (IntWalk.i64_in _ (by omega))) ?_
    refine flow_take_g (i := 20) (dj := 103) (.int .i64 (i : Int)) (by rfl) (by kernel_rfl) (by kernel_rfl) (by kernel_rfl) (by exact hl_1) (by kernel_rfl) (List.Sublist.cons _ (List.Sublist.cons _ (List.Sublist.cons _ (List.Sublist.refl _)))) (by rfl) (by rfl) (by rfl) (gives_value _ fun _ => by rfl) ?_
    refine flow_take_g (i := 21) (dj := 103) (.int .i64 (128 * (i : Int))) (by rfl) (by kernel_rfl) (by kernel_rfl) (by kernel_rfl) (by exact hl_1) (by kernel_rfl) (List.Sublist.cons _ (List.Sublist.cons _ (List.Sublist.cons _ (List.Sublist.refl _)))) (by rfl) (by rfl) (by rfl) (gives_mul (k := .i64) (128) ((i : Int)) (128 * (i : Int)) (by rfl) (by rfl) (IntWalk.i64_in _ (by omega))) ?_
    refine flow_take_g (i := 22) (dj := 103) (.int .i64 ((128 * (i : Int)) + 128)) (by rfl) (by kernel_rfl) (by kernel_rfl) (by kernel_rfl) (by exact hl_1) (by kernel_rfl) (List.Sublist.cons _ (List.Sublist.cons _ (List.Sublist.cons _ (List.Sublist.refl _)))) (by rfl) (by rfl) (by rfl) (gives_add (k := .i64) (128 * (i : Int)) (128) ((128 * (i : Int)) + 128) (by rfl) (by rfl) (IntWalk.i64_in _ (by omega))) ?_
    refine flow_take_g (i := 23) (dj := 103) (.slice (some ⟨g4, 128 * i + 64, none⟩) 64 (cap_4 - (128 * i + 64))) (by rfl) (by kernel_rfl) (by kernel_rfl) (by kernel_rfl) (by exact hl_1) (by kernel_rfl) (List.Sublist.cons _ (List.Sublist.cons _ (List.Sublist.cons _ (List.Sublist.refl _)))) (by rfl) (by rfl) (by rfl) (gives_slice_lh g4 0 (128 * cn) cap_4 (128 * i + 64) (128 * i + 128) (128 * i + 64) 64 (cap_4 - (128 * i + 64)) ((128 * (i : Int)) + 64) ((128 * (i : Int)) + 128) (by rfl) (by rfl) (by rfl) und_u8s u8_sz (by omega) (by omega) (by omega) (by omega) (by omega) (by omega) (by omega) (by omega)) ?_
    refine flow_take_g (i := 25) (dj := 103) (.slice (some ⟨g7, 0, none⟩) (24) cap_5) (by rfl) (by kernel_rfl) (by kernel_rfl) (by kernel_rfl) (by exact hl_1) (by kernel_rfl) (List.Sublist.cons _ (List.Sublist.cons _ (List.Sublist.cons _ (List.Sublist.refl _)))) (by rfl) (by rfl) (by rfl) (gives_value _ fun _ => by rfl) ?_
    refine flow_one 24 (by kernel_rfl) ?_
    refine F_freshW (vl := [.slice (some ⟨g4, 128 * i + 64, none⟩) 64 (cap_4 - (128 * i + 64))]) ((64 + 1) / 2) (num (((expandL bs0 bs1 (128 * cn)).drop (128 * i + 64)).take 64)) (by rfl) (by exact hl_1) (Want.some (dj := 103) (by exact hl_1) (by rfl) (by rfl) (by rfl)) (by kernel_rfl) (by rfl) (List.Sublist.cons _ (List.Sublist.cons _ (List.Sublist.cons _ (List.Sublist.refl _)))) (fun w h => n_number w _ _ _ (((expandL bs0 bs1 (128 * cn)).drop (128 * i + 64)).take 64) (hn_4.part (h.blk 6 (by rfl)) (128 * i + 64) 64 (by omega)) (oct_part (expandL_oct _ _ _) _ _) (by omega)) ?_; intro g11 cap_8 cs_8 hwb_8
    refine flow_one 26 (by kernel_rfl) ?_
    refine F_freshW (vl := [.slice (some ⟨g11, 0, none⟩) ((64 + 1) / 2) cap_8, .slice (some ⟨g7, 0, none⟩) (24) cap_5]) (24) ((num (((expandL bs0 bs1 (128 * cn)).drop (128 * i + 64)).take 64)) % Mp) (by rfl) (by exact hl_1) (Want.some (dj := 103) (by exact hl_1) (by rfl) (by rfl) (by rfl)) (by kernel_rfl) (by rfl) (List.Sublist.cons _ (List.Sublist.cons _ (List.Sublist.cons _ (List.Sublist.cons _ (List.Sublist.refl _))))) (fun w h => n_mod w _ _ _ _ _ _ _ _ (hwb_8.num (h.blk 0 (by rfl)) (num_rng (((expandL bs0 bs1 (128 * cn)).drop (128 * i + 64)).take 64) _ (oct_part (expandL_oct _ _ _) _ _) (part_len _ _ (by rw [expandL_len]; omega))) (by omega)) (hwb_5.num (h.blk 4 (by rfl)) ⟨Int.le_of_lt Mp_pos, Mp_24⟩ (by omega)) Mp_pos) ?_; intro g12 cap_9 cs_9 hwb_9
    refine flow_one 27 (by kernel_rfl) ?_
    refine F_fresh (vl := [.slice (some ⟨g12, 0, none⟩) (24) cap_9, .int .i64 48]) 5 (ag8 (lo ((num (((expandL bs0 bs1 (128 * cn)).drop (128 * i + 64)).take 64)) % Mp) 48)) (fun g => .slice (some ⟨g, 0, none⟩) 48 48) (by rfl) (by exact hl_1) (Want.some (dj := 103) (by exact hl_1) (by rfl) (by rfl) (by rfl)) (by kernel_rfl) (by rfl) (List.Sublist.cons _ (List.Sublist.cons _ (List.Sublist.cons _ (List.Sublist.cons _ (List.Sublist.cons _ (List.Sublist.refl _)))))) (fun w h => n_bytes w _ _ _ _ 48 (by omega) (hwb_9.num (h.blk 0 (by rfl)) (mod_rng _ _ _ Mp_pos Mp_24) (by omega))) ?_; intro g13
    refine flow_one 28 (by kernel_rfl) ?_
    refine F_val (vl := [.slice (some ⟨g6, 0, none⟩) 48 48, .slice (some ⟨g13, 0, none⟩) 48 48]) (.bool true) (by rfl) (by exact hl_1) (Want.some (dj := 103) (by exact hl_1) (by rfl) (by rfl) (by rfl)) (by kernel_rfl) (by rfl) (List.Sublist.cons _ (List.Sublist.cons _ (List.Sublist.cons _ (List.Sublist.cons _ (List.Sublist.cons _ (List.Sublist.cons _ (List.Sublist.refl _))))))) (fun w h => n_same w _ _ _ _ _ _ (lo (((elN (expandL bs0 bs1 (128 * cn)) i).b).val : Int) 48) (lo ((num (((expandL bs0 bs1 (128 * cn)).drop (128 * i + 64)).take 64)) % Mp) 48) (copy_reads (h.blk 7 (by rfl)) (lo_len _ _)) (copy_reads (h.blk 0 (by rfl)) (lo_len _ _)) (by omega) (by omega) (by exact congrArg (fun t => lo t 48) (Fp.n_val _))) ?_
    refine flow_take_g (i := 29) (dj := 103) (.bool false) (by rfl) (by kernel_rfl) (by kernel_rfl) (by kernel_rfl) (by exact hl_1) (by kernel_rfl) (List.Sublist.cons _ (List.Sublist.cons _ (List.Sublist.cons _ (List.Sublist.cons _ (List.Sublist.cons _ (List.Sublist.cons _ (List.Sublist.refl _))))))) (by rfl) (by rfl) (by rfl) (gives_value _ fun _ => by rfl) ?_
    refine flow_take (i := 30) (.bool false) (by rfl) (by kernel_rfl) (by kernel_rfl) (by kernel_rfl) (by exact hl_1) (by kernel_rfl) (List.Sublist.cons _ (List.Sublist.cons _ (List.Sublist.cons _ (List.Sublist.cons _ (List.Sublist.cons _ (List.Sublist.cons _ (List.Sublist.refl _))))))) (gives_value _ fun _ => by rfl) ?_
    refine flow_done (by kernel_rfl) ?_
    intro w15 hw15
    refine wp_cond_false (fr_at _ _ (by exact hl_1) _) ?_
    refine wp_skip ?_
    change Code.wp _ _ _ _ _
    refine one_plain hw15 [0, 1] (by rfl) ?_
    refine L_val (.int .i64 ((i : Int) + 1)) (by rfl) (by exact hl_1) (gives_add (k := .i64) ((i : Int)) (1) ((i : Int) + 1) (by rfl) (by rfl) (IntWalk.i64_in _ (by omega))) ?_
    refine L_val (.int .i64 ((i : Int) + 1)) (by rfl) (by exact hl_1) (gives_value _ fun _ => by rfl) ?_
    refine L_end ?_
    intro w16 hw16
    change ∃ r' : Nat, r' < r_1 ∧ _
    refine ⟨_, ?_, i + 1, ((73, .int .i64 ((i : Int) + 1)) :: (120, .int .i64 ((i : Int) + 1)) :: (119, .bool false) :: (118, .bool false) :: (117, .bool true) :: (116, .slice (some ⟨g13, 0, none⟩) 48 48) :: (115, .slice (some ⟨g12, 0, none⟩) (24) cap_9) :: (113, .slice (some ⟨g11, 0, none⟩) ((64 + 1) / 2) cap_8) :: (114, .slice (some ⟨g7, 0, none⟩) (24) cap_5) :: (112, .slice (some ⟨g4, 128 * i + 64, none⟩) 64 (cap_4 - (128 * i + 64))) :: (111, .int .i64 ((128 * (i : Int)) + 128)) :: (110, .int .i64 (128 * (i : Int))) :: (109, .int .i64 (i : Int)) :: (108, .int .i64 ((128 * (i : Int)) + 64)) :: (107, .int .i64 (128 * (i : Int))) :: (106, .int .i64 (i : Int)) :: (105, .slice (some ⟨g4, 0, none⟩) (128 * cn) cap_4) :: (104, .slice (some ⟨g6, 0, none⟩) 48 48) :: (103, .bool false) :: (102, .bool false) :: (101, .bool true) :: (100, .slice (some ⟨g10, 0, none⟩) 48 48) :: (99, .slice (some ⟨g9, 0, none⟩) (24) cap_7) :: (97, .slice (some ⟨g8, 0, none⟩) ((64 + 1) / 2) cap_6) :: (98, .slice (some ⟨g7, 0, none⟩) (24) cap_5) :: (96, .slice (some ⟨g4, 128 * i, none⟩) 64 (cap_4 - (128 * i))) :: (95, .int .i64 ((128 * (i : Int)) + 64)) :: (94, .int .i64 (128 * (i : Int))) :: (93, .int .i64 (i : Int)) :: (92, .int .i64 (128 * (i : Int))) :: (91, .int .i64 (i : Int)) :: (90, .slice (some ⟨g4, 0, none⟩) (128 * cn) cap_4) :: (89, .slice (some ⟨g5, 0, none⟩) 48 48) :: (14, .slice (some ⟨g7, 0, none⟩) (24) cap_5) :: (88, .slice (some ⟨g7, 0, none⟩) (24) cap_5) :: (13, .pointer (some ⟨g6, 0, none⟩)) :: (87, .agg (b48c (((elN (expandL bs0 bs1 (128 * cn)) i).b).val : Int))) :: (86, .agg (pc ((elN (expandL bs0 bs1 (128 * cn)) i).b))) :: (85, .pointer (some ⟨g3, i * 12 + 6, none⟩)) :: (84, .pointer (some ⟨g3, i * 12, none⟩)) :: (83, .int .i64 (i : Int)) :: (82, .slice (some ⟨g3, 0, none⟩) cn cap_3) :: (12, .pointer (some ⟨g5, 0, none⟩)) :: (81, .agg (b48c (((elN (expandL bs0 bs1 (128 * cn)) i).a).val : Int))) :: (80, .agg (pc ((elN (expandL bs0 bs1 (128 * cn)) i).a))) :: (79, .pointer (some ⟨g3, i * 12, none⟩)) :: (78, .pointer (some ⟨g3, i * 12, none⟩)) :: (77, .int .i64 (i : Int)) :: (76, .slice (some ⟨g3, 0, none⟩) cn cap_3) :: (11, .int .i64 (i : Int)) :: (75, .int .i64 (i : Int)) :: (74, .bool true) :: (7, .slice (some ⟨g3, 0, none⟩) cn cap_3) :: (9, .slice (some ⟨g4, 0, none⟩) (128 * cn) cap_4) :: (72, .int .i64 (cn : Int)) :: (73, .int .i64 (i : Int)) :: l_1), rfl, (by exact hl_1), (Eq.trans (Eq.trans (Eq.trans (fr_dup _ _ 73 _ (by exact hl_1) (by rfl) (by rfl)).symm (fr_dup _ _ 72 _ (by exact hl_1) (by rfl) (by rfl)).symm) (fr_dup _ _ 9 _ (by exact hl_1) (by rfl) (by rfl)).symm) (fr_dup _ _ 7 _ (by exact hl_1) (by rfl) (by rfl)).symm), by omega, (hw16.sub (List.Sublist.cons _ (List.Sublist.cons _ (List.Sublist.cons _ (List.Sublist.cons _ (List.Sublist.cons _ (List.Sublist.cons _ (List.Sublist.cons _ (List.Sublist.cons _ (List.Sublist.cons _ (List.Sublist.cons_cons _ (List.Sublist.cons_cons _ (List.Sublist.refl _)))))))))))))⟩
    omega
  ·
    refine seq_plain hw0_1 [0] (by rfl) ?_
    refine L_val (.bool false) (by rfl) (by exact hl_1) (gives_lss (k := .i64) ((i : Int)) ((cn : Int)) false (by rfl) (by rfl) (decide_eq_false (by omega))) ?_
    refine L_end ?_
    intro w17 hw17
    refine wp_seq ?_
    refine wp_cond_false (fr_at _ _ (by exact hl_1) _) ?_
    refine wp_exit ?_
    change Code.wp _ _ _ _ _
    change Code.wp _ _ _ _ _
    refine seq_plain hw17 [0] (by rfl) ?_
    refine L_val (.bool true) (by rfl) (by exact hl_1) (gives_value _ fun _ => by rfl) ?_
    refine L_end ?_
    intro w18 hw18
    refine wp_ret ?_
    change bodyPost _ _ _ Exit.ret _ _
    refine (ret_tmp (by rfl) (by exact hl_1) (by rfl) ⟨rfl, hw18.below⟩)
set_option maxRecDepth 100000 in
set_option maxHeartbeats 4000000 in
theorem numbers_wrap (A0 : Option Addr) (n0 c0 : Nat) (bs0 : List Int) (A1 : Option Addr) (n1 c1 : Nat) (bs1 : List Int) (N cn : Nat) (v : World) (hr0 : Reads v v.heap.size A0 n0 (bs0.map (Value.int .u8))) (hr1 : Reads v v.heap.size A1 n1 (bs1.map (Value.int .u8))) (hgl : Glob v) (h2 : 3 ≤ v.heap.size) (hG : Glo0 v) (hH : GShp v) (hs : n0 ≤ 4096 ∧ n1 ≤ 4096) (hN : 4 < N ∧ N ≤ 63) (hc : N % 4 = cn) : Rets 3 #[.slice A0 n0 c0, .slice A1 n1 c1, .int .i64 (N : Int)] v (.bool true) := by
  refine calls_fr3 Tryd.func3 rfl (by rfl : _ = 121) (by rfl) ?_
  have hw := Hbl.nil v
  refine seq_plain hw [0] (by rfl) ?_
  refine L_val (.bool false) (by rfl) (by rfl) (gives_value _ fun _ => by rfl) ?_
  refine L_end ?_
  intro w1 hw1
  refine wp_seq ?_
  refine seq_plain hw1 [0, 1] (by rfl) ?_
  refine L_val (.bool true) (by rfl) (by rfl) (gives_call (vl := []) (by kernel_rfl) (by rfl) (fun w h => x_head w (hgl.below h.below h2) (Nat.le_trans h2 h.below.size))) ?_
  refine L_val (.bool false) (by rfl) (by rfl) (gives_value _ fun _ => by rfl) ?_
  refine L_end ?_
  intro w2 hw2
  refine wp_cond_false (fr_at _ _ (by rfl) _) ?_
  refine wp_skip ?_
  change Code.wp _ _ _ _ _
  refine wp_seq ?_
  refine seq_plain hw2 [0, 1, 2, 3, 4, 5, 6, 7] (by rfl) ?_
  refine L_val (.slice A0 n0 c0) (by rfl) (by rfl) (gives_value _ fun _ => by rfl) ?_
  refine L_val (.int .i64 (n0 : Int)) (by rfl) (by rfl) (gives_len _ n0 c0 und_u8s (by rfl)) ?_
  refine L_val (.bool false) (by rfl) (by rfl) (gives_gtr (k := .i64) ((n0 : Int)) (4096) false (by rfl) (by rfl) (decide_eq_false (by omega))) ?_
  refine L_val (.bool false) (by rfl) (by rfl) (gives_value _ fun _ => by rfl) ?_
  refine L_val_g (dj := 20) (.slice A1 n1 c1) (by rfl) (by rfl) (by rfl) (by rfl) (by rfl) (gives_value _ fun _ => by rfl) ?_
  refine L_val_g (dj := 20) (.int .i64 (n1 : Int)) (by rfl) (by rfl) (by rfl) (by rfl) (by rfl) (gives_len _ n1 c1 und_u8s (by rfl)) ?_
  refine L_val_g (dj := 20) (.bool false) (by rfl) (by rfl) (by rfl) (by rfl) (by rfl) (gives_gtr (k := .i64) ((n1 : Int)) (4096) false (by rfl) (by rfl) (decide_eq_false (by omega))) ?_
  refine L_val (.bool false) (by rfl) (by rfl) (gives_value _ fun _ => by rfl) ?_
  refine L_end ?_
  intro w3 hw3
  refine wp_cond_false (fr_at _ _ (by rfl) _) ?_
  refine wp_skip ?_
  change Code.wp _ _ _ _ _
  refine wp_seq ?_
  refine seq_plain hw3 [0, 1, 2, 3, 4, 5] (by rfl) ?_
  refine L_val (.int .i64 (N : Int)) (by rfl) (by rfl) (gives_value _ fun _ => by rfl) ?_
  refine L_val (.bool true) (by rfl) (by rfl) (gives_gtr (k := .i64) ((N : Int)) (4) true (by rfl) (by rfl) (decide_eq_true (by omega))) ?_
  refine L_val (.bool true) (by rfl) (by rfl) (gives_value _ fun _ => by rfl) ?_
  refine L_val_g (dj := 27) (.int .i64 (N : Int)) (by rfl) (by rfl) (by rfl) (by rfl) (by rfl) (gives_value _ fun _ => by rfl) ?_
  refine L_val_g (dj := 27) (.bool true) (by rfl) (by rfl) (by rfl) (by rfl) (by rfl) (gives_leq (k := .i64) ((N : Int)) (63) true (by rfl) (by rfl) (decide_eq_true (by omega))) ?_
  refine L_val (.bool true) (by rfl) (by rfl) (gives_value _ fun _ => by rfl) ?_
  refine L_end ?_
  intro w4 hw4
  refine wp_cond_true (fr_at _ _ (by rfl) _) ?_
  refine one_plain hw4 [0, 1, 2] (by rfl) ?_
  refine L_val (.int .i64 (N : Int)) (by rfl) (by rfl) (gives_value _ fun _ => by rfl) ?_
  refine L_val (.int .i64 (cn : Int)) (by rfl) (by rfl) (gives_and (k := .i64) ((N : Int)) 3 ((cn : Int)) (by rfl) (by rfl) ((and_3 _ (by omega) (by omega)).trans (by omega))) ?_
  refine L_val (.int .i64 (cn : Int)) (by rfl) (by rfl) (gives_value _ fun _ => by rfl) ?_
  refine L_end ?_
  intro w5 hw5
  change Code.wp _ _ _ _ _
  refine seq_plain hw5 [0, 1, 2, 3, 4, 5, 6, 7, 8, 9, 10] (by rfl) ?_
  refine L_val (.slice A0 n0 c0) (by rfl) (by rfl) (gives_value _ fun _ => by rfl) ?_
  refine L_freshP (vl := [.slice A0 n0 c0]) 5 .u8 n0 bs0 (by rfl) (by rfl) Want.none (by kernel_rfl) (by rfl) (fun w h => c_copy w _ _ _ bs0 ((hr0.below h.below).more h.below.size) (by omega)) ?_; intro g1 cap_1 cs_1 hn_1
  refine L_val (.slice A1 n1 c1) (by rfl) (by rfl) (gives_value _ fun _ => by rfl) ?_
  refine L_freshP (vl := [.slice A1 n1 c1]) 5 .u8 n1 bs1 (by rfl) (by rfl) Want.none (by kernel_rfl) (by rfl) (fun w h => c_copy w _ _ _ bs1 ((hr1.below h.below).more h.below.size) (by omega)) ?_; intro g2 cap_2 cs_2 hn_2
  refine L_val (.int .i64 (cn : Int)) (by rfl) (by rfl) (gives_value _ fun _ => by rfl) ?_
  refine L_freshE2 (vl := [.slice (some ⟨g1, 0, none⟩) n0 cap_1, .slice (some ⟨g2, 0, none⟩) n1 cap_2, .int .i64 (cn : Int)]) cn (numsL bs0 bs1 cn) (by rfl) (by rfl) Want.none (by kernel_rfl) (by rfl) (fun w h => x_numbers _ _ _ bs0 _ _ _ bs1 cn w (hn_1.reads (h.blk 1 (by rfl))) (hn_1.le) (hn_2.reads (h.blk 0 (by rfl))) (hn_2.le) (hgl.below h.below h2) (Nat.le_trans h2 h.below.size) (hG.keep h.below) (hH.keep h.below) (by omega) (by omega) (by omega)) ?_; intro g3 cap_3 cs_3 hn_3
  refine L_val (.tuple #[.slice (some ⟨g3, 0, none⟩) cn cap_3, .int .i64 0]) (by rfl) (by rfl) (gives_value _ fun _ => by rfl) ?_
  refine L_val (.slice (some ⟨g3, 0, none⟩) cn cap_3) (by rfl) (by rfl) (gives_value _ fun _ => by kernel_rfl) ?_
  refine L_val (.int .i64 0) (by rfl) (by rfl) (gives_value _ fun _ => by kernel_rfl) ?_
  refine L_val (.slice (some ⟨g3, 0, none⟩) cn cap_3) (by rfl) (by rfl) (gives_value _ fun _ => by rfl) ?_
  refine L_val (.int .i64 0) (by rfl) (by rfl) (gives_value _ fun _ => by rfl) ?_
  refine L_end ?_
  intro w6 hw6
  refine wp_seq ?_
  refine seq_plain hw6 [0, 1, 2, 3, 4, 5] (by rfl) ?_
  refine L_val (.int .i64 (cn : Int)) (by rfl) (by rfl) (gives_value _ fun _ => by rfl) ?_
  refine L_val (.bool false) (by rfl) (by rfl) (gives_lss (k := .i64) ((cn : Int)) (0) false (by rfl) (by rfl) (decide_eq_false (by omega))) ?_
  refine L_val (.bool false) (by rfl) (by rfl) (gives_value _ fun _ => by rfl) ?_
  refine L_val_g (dj := 44) (.int .i64 (cn : Int)) (by rfl) (by rfl) (by rfl) (by rfl) (by rfl) (gives_value _ fun _ => by rfl) ?_
  refine L_val_g (dj := 44) (.bool false) (by rfl) (by rfl) (by rfl) (by rfl) (by rfl) (gives_gtr (k := .i64) ((cn : Int)) (63) false (by rfl) (by rfl) (decide_eq_false (by omega))) ?_
  refine L_val (.bool false) (by rfl) (by rfl) (gives_value _ fun _ => by rfl) ?_
  refine L_end ?_
  intro w7 hw7
  refine wp_cond_false (fr_at _ _ (by rfl) _) ?_
  refine wp_skip ?_
  change Code.wp _ _ _ _ _
  refine seq_plain hw7 [0, 1, 2, 3, 4, 5, 6, 7, 8, 9] (by rfl) ?_
  refine L_val (.slice A0 n0 c0) (by rfl) (by rfl) (gives_value _ fun _ => by rfl) ?_
  refine L_val (.slice A1 n1 c1) (by rfl) (by rfl) (gives_value _ fun _ => by rfl) ?_
  refine L_val (.int .i64 (cn : Int)) (by rfl) (by rfl) (gives_value _ fun _ => by rfl) ?_
  refine L_val (.int .i64 ((128 * cn : Nat) : Int)) (by rfl) (by rfl) (gives_mul (k := .i64) (128) ((cn : Int)) (((128 * cn : Nat) : Int)) (by rfl) (by rfl) (by rw [IntWalk.i64_in _ (by omega)]; omega)) ?_
  refine L_freshT2 (vl := [.slice A0 n0 c0, .slice A1 n1 c1, .int .i64 ((128 * cn : Nat) : Int)]) (128 * cn) (expandL bs0 bs1 (128 * cn)) (by rfl) (by rfl) Want.none (by kernel_rfl) (by rfl) (fun w h => x_ref _ _ _ bs0 _ _ _ bs1 (128 * cn) w ((hr0.below h.below).more h.below.size) ((hr1.below h.below).more h.below.size) (hgl.below h.below h2) (Nat.le_trans h2 h.below.size) (by omega) (by omega) (by omega)) ?_; intro g4 cap_4 cs_4 hn_4
  refine L_val (.tuple #[.slice (some ⟨g4, 0, none⟩) (128 * cn) cap_4, .int .i64 0]) (by rfl) (by rfl) (gives_value _ fun _ => by rfl) ?_
  refine L_val (.slice (some ⟨g4, 0, none⟩) (128 * cn) cap_4) (by rfl) (by rfl) (gives_value _ fun _ => by kernel_rfl) ?_
  refine L_val (.int .i64 0) (by rfl) (by rfl) (gives_value _ fun _ => by kernel_rfl) ?_
  refine L_val (.slice (some ⟨g4, 0, none⟩) (128 * cn) cap_4) (by rfl) (by rfl) (gives_value _ fun _ => by rfl) ?_
  refine L_val (.int .i64 0) (by rfl) (by rfl) (gives_value _ fun _ => by rfl) ?_
  refine L_end ?_
  intro w8 hw8
  refine wp_seq ?_
  refine seq_plain hw8 [0, 1, 2, 3, 4, 5, 6, 7] (by rfl) ?_
  refine L_val (.int .i64 0) (by rfl) (by rfl) (gives_value _ fun _ => by rfl) ?_
  refine L_val (.bool false) (by rfl) (by rfl) (gives_ine (k := .i64) (0) (0) false (by rfl) (by rfl) (decide_eq_false (by omega))) ?_
  refine L_val (.bool false) (by rfl) (by rfl) (gives_value _ fun _ => by rfl) ?_
  refine L_val_g (dj := 65) (.slice (some ⟨g3, 0, none⟩) cn cap_3) (by rfl) (by rfl) (by rfl) (by rfl) (by rfl) (gives_value _ fun _ => by rfl) ?_
  refine L_val_g (dj := 65) (.int .i64 (cn : Int)) (by rfl) (by rfl) (by rfl) (by rfl) (by rfl) (gives_len _ cn cap_3 Tryd.underlying24 (by rfl)) ?_
  refine L_val_g (dj := 65) (.int .i64 (cn : Int)) (by rfl) (by rfl) (by rfl) (by rfl) (by rfl) (gives_value _ fun _ => by rfl) ?_
  refine L_val_g (dj := 65) (.bool false) (by rfl) (by rfl) (by rfl) (by rfl) (by rfl) (gives_ine (k := .i64) ((cn : Int)) ((cn : Int)) false (by rfl) (by rfl) (decide_eq_false (by omega))) ?_
  refine L_val (.bool false) (by rfl) (by rfl) (gives_value _ fun _ => by rfl) ?_
  refine L_end ?_
  intro w9 hw9
  refine wp_cond_false (fr_at _ _ (by rfl) _) ?_
  refine wp_skip ?_
  change Code.wp _ _ _ _ _
  refine wp_seq ?_
  refine seq_plain hw9 [0, 1, 2] (by rfl) ?_
  refine L_val (.slice (some ⟨g3, 0, none⟩) cn cap_3) (by rfl) (by rfl) (gives_value _ fun _ => by rfl) ?_
  refine L_val (.int .i64 (cn : Int)) (by rfl) (by rfl) (gives_len _ cn cap_3 Tryd.underlying24 (by rfl)) ?_
  refine L_val (.int .i64 0) (by rfl) (by rfl) (gives_value _ fun _ => by rfl) ?_
  refine L_end ?_
  intro w10 hw10
  refine wp_block ?_
  refine loop_down (fun (r_ : Nat) a w => ∃ (i : Nat) (l_1 : List (Nat × Value)), cn - i = r_ ∧ inFr 121 l_1 = true ∧ a = fr 121 ((7, .slice (some ⟨g3, 0, none⟩) cn cap_3) :: (9, .slice (some ⟨g4, 0, none⟩) (128 * cn) cap_4) :: (72, .int .i64 (cn : Int)) :: (73, .int .i64 (i : Int)) :: l_1) ∧ (i ≤ cn) ∧ Hbl v [(g4, 5, cs_4), (g3, 37, cs_3)] w) ?_ _ _ _ ⟨0, [(73, .int .i64 0), (72, .int .i64 (cn : Int)), (71, .slice (some ⟨g3, 0, none⟩) cn cap_3), (70, .bool false), (69, .bool false), (68, .int .i64 (cn : Int)), (67, .int .i64 (cn : Int)), (66, .slice (some ⟨g3, 0, none⟩) cn cap_3), (65, .bool false), (64, .bool false), (63, .int .i64 0), (10, .int .i64 0), (9, .slice (some ⟨g4, 0, none⟩) (128 * cn) cap_4), (62, .int .i64 0), (61, .slice (some ⟨g4, 0, none⟩) (128 * cn) cap_4), (55, .tuple #[.slice (some ⟨g4, 0, none⟩) (128 * cn) cap_4, .int .i64 0]), (60, .tuple #[.slice (some ⟨g4, 0, none⟩) (128 * cn) cap_4, .int .i64 0]), (59, .int .i64 ((128 * cn : Nat) : Int)), (58, .int .i64 (cn : Int)), (57, .slice A1 n1 c1), (56, .slice A0 n0 c0), (47, .bool false), (46, .bool false), (45, .int .i64 (cn : Int)), (44, .bool false), (43, .bool false), (42, .int .i64 (cn : Int)), (8, .int .i64 0), (7, .slice (some ⟨g3, 0, none⟩) cn cap_3), (41, .int .i64 0), (40, .slice (some ⟨g3, 0, none⟩) cn cap_3), (33, .tuple #[.slice (some ⟨g3, 0, none⟩) cn cap_3, .int .i64 0]), (39, .tuple #[.slice (some ⟨g3, 0, none⟩) cn cap_3, .int .i64 0]), (38, .int .i64 (cn : Int)), (37, .slice (some ⟨g2, 0, none⟩) n1 cap_2), (36, .slice A1 n1 c1), (35, .slice (some ⟨g1, 0, none⟩) n0 cap_1), (34, .slice A0 n0 c0), (2, .int .i64 (cn : Int)), (32, .int .i64 (cn : Int)), (31, .int .i64 (N : Int)), (30, .bool true), (29, .bool true), (28, .int .i64 (N : Int)), (27, .bool true), (26, .bool true), (25, .int .i64 (N : Int)), (24, .bool false), (23, .bool false), (22, .int .i64 (n1 : Int)), (21, .slice A1 n1 c1), (20, .bool false), (19, .bool false), (18, .int .i64 (n0 : Int)), (17, .slice A0 n0 c0), (16, .bool false), (15, .bool true), (6, .bool false), (2, .int .i64 (N : Int)), (1, .slice A1 n1 c1), (0, .slice A0 n0 c0)], rfl, (by rfl), (Eq.trans (Eq.trans (Eq.trans (fr_dup _ _ 73 _ (by rfl) (by rfl) (by rfl)).symm (fr_dup _ _ 72 _ (by rfl) (by rfl) (by rfl)).symm) (fr_dup _ _ 9 _ (by rfl) (by rfl) (by rfl)).symm) (fr_dup _ _ 7 _ (by rfl) (by rfl) (by rfl)).symm), Nat.zero_le _, (hw10.sub (List.Sublist.cons_cons _ (List.Sublist.cons_cons _ (List.Sublist.cons _ (List.Sublist.cons _ (List.Sublist.refl _))))))⟩
  rintro r_1 a0 w0_1 ⟨i, l_1, hr_1, hl_1, rfl, hi, hw0_1⟩
  by_cases hlt : i < cn
  ·
    have hle_ := hn_4.le
    refine seq_plain hw0_1 [0] (by rfl) ?_
    refine L_val (.bool true) (by rfl) (by exact hl_1) (gives_lss (k := .i64) ((i : Int)) ((cn : Int)) true (by rfl) (by rfl) (decide_eq_true (by omega))) ?_
    refine L_end ?_
    intro w11 hw11
    refine wp_seq ?_
    refine wp_cond_true (fr_at _ _ (by exact hl_1) _) ?_
    refine wp_skip ?_
    change Code.wp _ _ _ _ _
    refine wp_seq ?_
    refine wp_block ?_
    refine seq_plain hw11 [0, 1] (by rfl) ?_
    refine L_val (.int .i64 (i : Int)) (by rfl) (by exact hl_1) (gives_value _ fun _ => by rfl) ?_
    refine L_val (.int .i64 (i : Int)) (by rfl) (by exact hl_1) (gives_value _ fun _ => by rfl) ?_
    refine L_end ?_
    intro w12 hw12
    refine seq_plain hw12 [0, 1, 2, 3, 4, 5, 6, 7] (by rfl) ?_
    refine L_val (.slice (some ⟨g3, 0, none⟩) cn cap_3) (by rfl) (by exact hl_1) (gives_value _ fun _ => by rfl) ?_
    refine L_val (.int .i64 (i : Int)) (by rfl) (by exact hl_1) (gives_value _ fun _ => by rfl) ?_
    refine L_val (.pointer (some ⟨g3, i * 12, none⟩)) (by rfl) (by exact hl_1) (gives_index_E g3 cn cap_3 12 ((i : Int)) i (i * 12) (by rfl) (by rfl) Tryd.underlying24 (by kernel_rfl) rfl (by omega)) ?_
    refine L_val (.pointer (some ⟨g3, i * 12, none⟩)) (by rfl) (by exact hl_1) (gives_value _ fun _ => by kernel_rfl) ?_
    refine L_val (.agg (pc ((elN (expandL bs0 bs1 (128 * cn)) i).a))) (by rfl) (by exact hl_1) (gives_load g3 (i * 12) 37 cs_3 (pc ((elN (expandL bs0 bs1 (128 * cn)) i).a)) _ (by rfl) (fun _ h => h.blk 1 (by rfl)) (sl_2a (elN (expandL bs0 bs1 (128 * cn)) i) _ _ (hn_3.sl c2_size (nums_at _ _ _ (by omega)))) Tryd.underlying35 (by rfl) (hi_1 _)) ?_
    refine L_val (.agg (b48c (((elN (expandL bs0 bs1 (128 * cn)) i).a).val : Int))) (by rfl) (by exact hl_1) (gives_call (vl := [.agg (pc ((elN (expandL bs0 bs1 (128 * cn)) i).a))]) (by kernel_rfl) (by rfl) (fun w h => v_bytes _ w (hG.keep h.below))) ?_
    refine L_alloc _ (by rfl) (by exact hl_1) z_b48 (b48c (0 : Int)) rfl ?_; intro g5
    refine L_store (t := 31) 0 g5 (b48c (0 : Int)) (b48c (((elN (expandL bs0 bs1 (128 * cn)) i).a).val : Int)) (by rfl) (by exact hl_1) (by rfl) (by rfl) (by rfl) (hi_b48 _) ((b48c_size _).trans (b48c_size _).symm) (b48c_one _) ?_
    simp only [List.set_cons_zero, List.set_cons_succ]
    refine L_end ?_
    intro w13 hw13
    refine seq_plain hw13 [0, 1, 2, 3, 4, 5, 6, 7] (by rfl) ?_
    refine L_val (.slice (some ⟨g3, 0, none⟩) cn cap_3) (by rfl) (by exact hl_1) (gives_value _ fun _ => by rfl) ?_
    refine L_val (.int .i64 (i : Int)) (by rfl) (by exact hl_1) (gives_value _ fun _ => by rfl) ?_
    refine L_val (.pointer (some ⟨g3, i * 12, none⟩)) (by rfl) (by exact hl_1) (gives_index_E g3 cn cap_3 12 ((i : Int)) i (i * 12) (by rfl) (by rfl) Tryd.underlying24 (by kernel_rfl) rfl (by omega)) ?_
    refine L_val (.pointer (some ⟨g3, i * 12 + 6, none⟩)) (by rfl) (by exact hl_1) (gives_value _ fun _ => by kernel_rfl) ?_
    refine L_val (.agg (pc ((elN (expandL bs0 bs1 (128 * cn)) i).b))) (by rfl) (by exact hl_1) (gives_load g3 (i * 12 + 6) 37 cs_3 (pc ((elN (expandL bs0 bs1 (128 * cn)) i).b)) _ (by rfl) (fun _ h => h.blk 2 (by rfl)) (sl_2b (elN (expandL bs0 bs1 (128 * cn)) i) _ _ (i * 12 + 6) (hn_3.sl c2_size (nums_at _ _ _ (by omega))) rfl) Tryd.underlying35 (by rfl) (hi_1 _)) ?_
    refine L_val (.agg (b48c (((elN (expandL bs0 bs1 (128 * cn)) i).b).val : Int))) (by rfl) (by exact hl_1) (gives_call (vl := [.agg (pc ((elN (expandL bs0 bs1 (128 * cn)) i).b))]) (by kernel_rfl) (by rfl) (fun w h => v_bytes _ w (hG.keep h.below))) ?_
    refine L_alloc _ (by rfl) (by exact hl_1) z_b48 (b48c (0 : Int)) rfl ?_; intro g6
    refine L_store (t := 31) 0 g6 (b48c (0 : Int)) (b48c (((elN (expandL bs0 bs1 (128 * cn)) i).b).val : Int)) (by rfl) (by exact hl_1) (by rfl) (by rfl) (by rfl) (hi_b48 _) ((b48c_size _).trans (b48c_size _).symm) (b48c_one _) ?_
    simp only [List.set_cons_zero, List.set_cons_succ]
    refine L_end ?_
    intro w14 hw14
    refine seq_plain hw14 [0, 1] (by rfl) ?_
    refine L_freshW (vl := []) (24) (Mp) (by rfl) (by exact hl_1) (by kernel_rfl) (by rfl) (fun w h => m_04 w) ?_; intro g7 cap_5 cs_5 hwb_5
    refine L_val (.slice (some ⟨g7, 0, none⟩) (24) cap_5) (by rfl) (by exact hl_1) (gives_value _ fun _ => by rfl) ?_
    refine L_end ?_
    intro w15 hw15
    refine seq_flow (by kernel_rfl) hw15 [] [(g7, 100, cs_5), (g6, 31, (b48c (((elN (expandL bs0 bs1 (128 * cn)) i).b).val : Int))), (g5, 31, (b48c (((elN (expandL bs0 bs1 (128 * cn)) i).a).val : Int))), (g4, 5, cs_4), (g3, 37, cs_3)] 31 (by rfl) ?_
    refine flow_take (i := 0) (.slice (some ⟨g5, 0, none⟩) 48 48) (by rfl) (by kernel_rfl) (by kernel_rfl) (by kernel_rfl) (by exact hl_1) (by kernel_rfl) (List.Sublist.refl _) (gives_slice_arr g5 48 1 (by rfl) und_b48 u8_sz) ?_
    refine flow_take (i := 1) (.slice (some ⟨g4, 0, none⟩) (128 * cn) cap_4) (by rfl) (by kernel_rfl) (by kernel_rfl) (by kernel_rfl) (by exact hl_1) (by kernel_rfl) (List.Sublist.refl _) (gives_value _ fun _ => by rfl) ?_
    refine flow_take (i := 2) (.int .i64 (i : Int)) (by rfl) (by kernel_rfl) (by kernel_rfl) (by kernel_rfl) (by exact hl_1) (by kernel_rfl) (List.Sublist.refl _) (gives_value _ fun _ => by rfl) ?_
    refine flow_take (i := 3) (.int .i64 (128 * (i : Int))) (by rfl) (by kernel_rfl) (by kernel_rfl) (by kernel_rfl) (by exact hl_1) (by kernel_rfl) (List.Sublist.refl _) (gives_mul (k := .i64) (128) ((i : Int)) (128 * (i : Int)) (by rfl) (by rfl) (IntWalk.i64_in _ (by omega))) ?_
    refine flow_take (i := 4) (.int .i64 (i : Int)) (by rfl) (by kernel_rfl) (by kernel_rfl) (by kernel_rfl) (by exact hl_1) (by kernel_rfl) (List.Sublist.refl _) (gives_value _ fun _ => by rfl) ?_
    refine flow_take (i := 5) (.int .i64 (128 * (i : Int))) (by rfl) (by kernel_rfl) (by kernel_rfl) (by kernel_rfl) (by exact hl_1) (by kernel_rfl) (List.Sublist.refl _) (gives_mul (k := .i64) (128) ((i : Int)) (128 * (i : Int)) (by rfl) (by rfl) (IntWalk.i64_in _ (by omega))) ?_
    refine flow_take (i := 6) (.int .i64 ((128 * (i : Int)) + 64)) (by rfl) (by kernel_rfl) (by kernel_rfl) (by kernel_rfl) (by exact hl_1) (by kernel_rfl) (List.Sublist.refl _) (gives_add (k := .i64) (128 * (i : Int)) (64) ((128 * (i : Int)) + 64) (by rfl) (by rfl) (IntWalk.i64_in _ (by omega))) ?_
    refine flow_take (i := 7) (.slice (some ⟨g4, 128 * i, none⟩) 64 (cap_4 - (128 * i))) (by rfl) (by kernel_rfl) (by kernel_rfl) (by kernel_rfl) (by exact hl_1) (by kernel_rfl) (List.Sublist.refl _) (gives_slice_lh g4 0 (128 * cn) cap_4 (128 * i) (128 * i + 64) (128 * i) 64 (cap_4 - (128 * i)) (128 * (i : Int)) ((128 * (i : Int)) + 64) (by rfl) (by rfl) (by rfl) und_u8s u8_sz (by omega) (by omega) (by omega) (by omega) (by omega) (by omega) (by omega) (by omega)) ?_
    refine flow_take (i := 9) (.slice (some ⟨g7, 0, none⟩) (24) cap_5) (by rfl) (by kernel_rfl) (by kernel_rfl) (by kernel_rfl) (by exact hl_1) (by kernel_rfl) (List.Sublist.refl _) (gives_value _ fun _ => by rfl) ?_
    refine flow_one 8 (by kernel_rfl) ?_
    refine F_freshW (vl := [.slice (some ⟨g4, 128 * i, none⟩) 64 (cap_4 - (128 * i))]) ((64 + 1) / 2) (num (((expandL bs0 bs1 (128 * cn)).drop (128 * i)).take 64)) (by rfl) (by exact hl_1) Want.none (by kernel_rfl) (by rfl) (List.Sublist.refl _) (fun w h => n_number w _ _ _ (((expandL bs0 bs1 (128 * cn)).drop (128 * i)).take 64) (hn_4.part (h.blk 3 (by rfl)) (128 * i) 64 (by omega)) (oct_part (expandL_oct _ _ _) _ _) (by omega)) ?_; intro g8 cap_6 cs_6 hwb_6
    refine flow_one 10 (by kernel_rfl) ?_
    refine F_freshW (vl := [.slice (some ⟨g8, 0, none⟩) ((64 + 1) / 2) cap_6, .slice (some ⟨g7, 0, none⟩) (24) cap_5]) (24) ((num (((expandL bs0 bs1 (128 * cn)).drop (128 * i)).take 64)) % Mp) (by rfl) (by exact hl_1) Want.none (by kernel_rfl) (by rfl) (List.Sublist.cons _ (List.Sublist.refl _)) (fun w h => n_mod w _ _ _ _ _ _ _ _ (hwb_6.num (h.blk 0 (by rfl)) (num_rng (((expandL bs0 bs1 (128 * cn)).drop (128 * i)).take 64) _ (oct_part (expandL_oct _ _ _) _ _) (part_len _ _ (by rw [expandL_len]; omega))) (by omega)) (hwb_5.num (h.blk 1 (by rfl)) ⟨Int.le_of_lt Mp_pos, Mp_24⟩ (by omega)) Mp_pos) ?_; intro g9 cap_7 cs_7 hwb_7
    refine flow_one 11 (by kernel_rfl) ?_
    refine F_fresh (vl := [.slice (some ⟨g9, 0, none⟩) (24) cap_7, .int .i64 48]) 5 (ag8 (lo ((num (((expandL bs0 bs1 (128 * cn)).drop (128 * i)).take 64)) % Mp) 48)) (fun g => .slice (some ⟨g, 0, none⟩) 48 48) (by rfl) (by exact hl_1) Want.none (by kernel_rfl) (by rfl) (List.Sublist.cons _ (List.Sublist.cons _ (List.Sublist.refl _))) (fun w h => n_bytes w _ _ _ _ 48 (by omega) (hwb_7.num (h.blk 0 (by rfl)) (mod_rng _ _ _ Mp_pos Mp_24) (by omega))) ?_; intro g10
    refine flow_one 12 (by kernel_rfl) ?_
    refine F_val (vl := [.slice (some ⟨g5, 0, none⟩) 48 48, .slice (some ⟨g10, 0, none⟩) 48 48]) (.bool true) (by rfl) (by exact hl_1) Want.none (by kernel_rfl) (by rfl) (List.Sublist.cons _ (List.Sublist.cons _ (List.Sublist.cons _ (List.Sublist.refl _)))) (fun w h => n_same w _ _ _ _ _ _ (lo (((elN (expandL bs0 bs1 (128 * cn)) i).a).val : Int) 48) (lo ((num (((expandL bs0 bs1 (128 * cn)).drop (128 * i)).take 64)) % Mp) 48) (copy_reads (h.blk 5 (by rfl)) (lo_len _ _)) (copy_reads (h.blk 0 (by rfl)) (lo_len _ _)) (by omega) (by omega) (by exact congrArg (fun t => lo t 48) (Fp.n_val _))) ?_
    refine flow_take (i := 13) (.bool false) (by rfl) (by kernel_rfl) (by kernel_rfl) (by kernel_rfl) (by exact hl_1) (by kernel_rfl) (List.Sublist.cons _ (List.Sublist.cons _ (List.Sublist.cons _ (List.Sublist.refl _)))) (gives_value _ fun _ => by rfl) ?_
    refine flow_take (i := 14) (.bool false) (by rfl) (by kernel_rfl) (by kernel_rfl) (by kernel_rfl) (by exact hl_1) (by kernel_rfl) (List.Sublist.cons _ (List.Sublist.cons _ (List.Sublist.cons _ (List.Sublist.refl _)))) (gives_value _ fun _ => by rfl) ?_
    refine flow_take_g (i := 15) (dj := 103) (.slice (some ⟨g6, 0, none⟩) 48 48) (by rfl) (by kernel_rfl) (by kernel_rfl) (by kernel_rfl) (by exact hl_1) (by kernel_rfl) (List.Sublist.cons _ (List.Sublist.cons _ (List.Sublist.cons _ (List.Sublist.refl _)))) (by rfl) (by rfl) (by rfl) (gives_slice_arr g6 48 1 (by rfl) und_b48 u8_sz) ?_
    refine flow_take_g (i := 16) (dj := 103) (.slice (some ⟨g4, 0, none⟩) (128 * cn) cap_4) (by rfl) (by kernel_rfl) (by kernel_rfl) (by kernel_rfl) (by exact hl_1) (by kernel_rfl) (List.Sublist.cons _ (List.Sublist.cons _ (List.Sublist.cons _ (List.Sublist.refl _)))) (by rfl) (by rfl) (by rfl) (gives_value _ fun _ => by rfl) ?_
    refine flow_take_g (i := 17) (dj := 103) (.int .i64 (i : Int)) (by rfl) (by kernel_rfl) (by kernel_rfl) (by kernel_rfl) (by exact hl_1) (by kernel_rfl) (List.Sublist.cons _ (List.Sublist.cons _ (List.Sublist.cons _ (List.Sublist.refl _)))) (by rfl) (by rfl) (by rfl) (gives_value _ fun _ => by rfl) ?_
    refine flow_take_g (i := 18) (dj := 103) (.int .i64 (128 * (i : Int))) (by rfl) (by kernel_rfl) (by kernel_rfl) (by kernel_rfl) (by exact hl_1) (by kernel_rfl) (List.Sublist.cons _ (List.Sublist.cons _ (List.Sublist.cons _ (List.Sublist.refl _)))) (by rfl) (by rfl) (by rfl) (gives_mul (k := .i64) (128) ((i : Int)) (128 * (i : Int)) (by rfl) (by rfl) (IntWalk.i64_in _ (by omega))) ?_
    refine flow_take_g (i := 19) (dj := 103) (.int .i64 ((128 * (i : Int)) + 64)) (by rfl) (by kernel_rfl) (by kernel_rfl) (by kernel_rfl) (by exact hl_1) (by kernel_rfl) (List.Sublist.cons _ (List.Sublist.cons _ (List.Sublist.cons _ (List.Sublist.refl _)))) (by rfl) (by rfl) (by rfl) (gives_add (k := .i64) (128 * (i : Int)) (64) ((128 * (i : Int)) + 64) (by rfl) (by rfl) (IntWalk.i64_in _ (by omega))) ?_
    refine flow_take_g (i := 20) (dj := 103) (.int .i64 (i : Int)) (by rfl) (by kernel_rfl) (by kernel_rfl) (by kernel_rfl) (by exact hl_1) (by kernel_rfl) (List.Sublist.cons _ (List.Sublist.cons _ (List.Sublist.cons _ (List.Sublist.refl _)))) (by rfl) (by rfl) (by rfl) (gives_value _ fun _ => by rfl) ?_
    refine flow_take_g (i := 21) (dj := 103) (.int .i64 (128 * (i : Int))) (by rfl) (by kernel_rfl) (by kernel_rfl) (by kernel_rfl) (by exact hl_1) (by kernel_rfl) (List.Sublist.cons _ (List.Sublist.cons _ (List.Sublist.cons _ (List.Sublist.refl _)))) (by rfl) (by rfl) (by rfl) (gives_mul (k := .i64) (128) ((i : Int)) (128 * (i : Int)) (by rfl) (by rfl) (IntWalk.i64_in _ (by omega))) ?_
    refine flow_take_g (i := 22) (dj := 103) (.int .i64 ((128 * (i : Int)) + 128)) (by rfl) (by kernel_rfl) (by kernel_rfl) (by kernel_rfl) (by exact hl_1) (by kernel_rfl) (List.Sublist.cons _ (List.Sublist.cons _ (List.Sublist.cons _ (List.Sublist.refl _)))) (by rfl) (by rfl) (by rfl) (gives_add (k := .i64) (128 * (i : Int)) (128) ((128 * (i : Int)) + 128) (by rfl) (by rfl) (IntWalk.i64_in _ (by omega))) ?_
    refine flow_take_g (i := 23) (dj := 103) (.slice (some ⟨g4, 128 * i + 64, none⟩) 64 (cap_4 - (128 * i + 64))) (by rfl) (by kernel_rfl) (by kernel_rfl) (by kernel_rfl) (by exact hl_1) (by kernel_rfl) (List.Sublist.cons _ (List.Sublist.cons _ (List.Sublist.cons _ (List.Sublist.refl _)))) (by rfl) (by rfl) (by rfl) (gives_slice_lh g4 0 (128 * cn) cap_4 (128 * i + 64) (128 * i + 128) (128 * i + 64) 64 (cap_4 - (128 * i + 64)) ((128 * (i : Int)) + 64) ((128 * (i : Int)) + 128) (by rfl) (by rfl) (by rfl) und_u8s u8_sz (by omega) (by omega) (by omega) (by omega) (by omega) (by omega) (by omega) (by omega)) ?_
    refine flow_take_g (i := 25) (dj := 103) (.slice (some ⟨g7, 0, none⟩) (24) cap_5) (by rfl) (by kernel_rfl) (by kernel_rfl) (by kernel_rfl) (by exact hl_1) (by kernel_rfl) (List.Sublist.cons _ (List.Sublist.cons _ (List.Sublist.cons _ (List.Sublist.refl _)))) (by rfl) (by rfl) (by rfl) (gives_value _ fun _ => by rfl) ?_
    refine flow_one 24 (by kernel_rfl) ?_
    refine F_freshW (vl := [.slice (some ⟨g4, 128 * i + 64, none⟩) 64 (cap_4 - (128 * i + 64))]) ((64 + 1) / 2) (num (((expandL bs0 bs1 (128 * cn)).drop (128 * i + 64)).take 64)) (by rfl) (by exact hl_1) (Want.some (dj := 103) (by exact hl_1) (by rfl) (by rfl) (by rfl)) (by kernel_rfl) (by rfl) (List.Sublist.cons _ (List.Sublist.cons _ (List.Sublist.cons _ (List.Sublist.refl _)))) (fun w h => n_number w _ _ _ (((expandL bs0 bs1 (128 * cn)).drop (128 * i + 64)).take 64) (hn_4.part (h.blk 6 (by rfl)) (128 * i + 64) 64 (by omega)) (oct_part (expandL_oct _ _ _) _ _) (by omega)) ?_; intro g11 cap_8 cs_8 hwb_8
    refine flow_one 26 (by kernel_rfl) ?_
    refine F_freshW (vl := [.slice (some ⟨g11, 0, none⟩) ((64 + 1) / 2) cap_8, .slice (some ⟨g7, 0, none⟩) (24) cap_5]) (24) ((num (((expandL bs0 bs1 (128 * cn)).drop (128 * i + 64)).take 64)) % Mp) (by rfl) (by exact hl_1) (Want.some (dj := 103) (by exact hl_1) (by rfl) (by rfl) (by rfl)) (by kernel_rfl) (by rfl) (List.Sublist.cons _ (List.Sublist.cons _ (List.Sublist.cons _ (List.Sublist.cons _ (List.Sublist.refl _))))) (fun w h => n_mod w _ _ _ _ _ _ _ _ (hwb_8.num (h.blk 0 (by rfl)) (num_rng (((expandL bs0 bs1 (128 * cn)).drop (128 * i + 64)).take 64) _ (oct_part (expandL_oct _ _ _) _ _) (part_len _ _ (by rw [expandL_len]; omega))) (by omega)) (hwb_5.num (h.blk 4 (by rfl)) ⟨Int.le_of_lt Mp_pos, Mp_24⟩ (by omega)) Mp_pos) ?_; intro g12 cap_9 cs_9 hwb_9
    refine flow_one 27 (by kernel_rfl) ?_
    refine F_fresh (vl := [.slice (some ⟨g12, 0, none⟩) (24) cap_9, .int .i64 48]) 5 (ag8 (lo ((num (((expandL bs0 bs1 (128 * cn)).drop (128 * i + 64)).take 64)) % Mp) 48)) (fun g => .slice (some ⟨g, 0, none⟩) 48 48) (by rfl) (by exact hl_1) (Want.some (dj := 103) (by exact hl_1) (by rfl) (by rfl) (by rfl)) (by kernel_rfl) (by rfl) (List.Sublist.cons _ (List.Sublist.cons _ (List.Sublist.cons _ (List.Sublist.cons _ (List.Sublist.cons _ (List.Sublist.refl _)))))) (fun w h => n_bytes w _ _ _ _ 48 (by omega) (hwb_9.num (h.blk 0 (by rfl)) (mod_rng _ _ _ Mp_pos Mp_24) (by omega))) ?_; intro g13
    refine flow_one 28 (by kernel_rfl) ?_
    refine F_val (vl := [.slice (some ⟨g6, 0, none⟩) 48 48, .slice (some ⟨g13, 0, none⟩) 48 48]) (.bool true) (by rfl) (by exact hl_1) (Want.some (dj := 103) (by exact hl_1) (by rfl) (by rfl) (by rfl)) (by kernel_rfl) (by rfl) (List.Sublist.cons _ (List.Sublist.cons _ (List.Sublist.cons _ (List.Sublist.cons _ (List.Sublist.cons _ (List.Sublist.cons _ (List.Sublist.refl _))))))) (fun w h => n_same w _ _ _ _ _ _ (lo (((elN (expandL bs0 bs1 (128 * cn)) i).b).val : Int) 48) (lo ((num (((expandL bs0 bs1 (128 * cn)).drop (128 * i + 64)).take 64)) % Mp) 48) (copy_reads (h.blk 7 (by rfl)) (lo_len _ _)) (copy_reads (h.blk 0 (by rfl)) (lo_len _ _)) (by omega) (by omega) (by exact congrArg (fun t => lo t 48) (Fp.n_val _))) ?_
    refine flow_take_g (i := 29) (dj := 103) (.bool false) (by rfl) (by kernel_rfl) (by kernel_rfl) (by kernel_rfl) (by exact hl_1) (by kernel_rfl) (List.Sublist.cons _ (List.Sublist.cons _ (List.Sublist.cons _ (List.Sublist.cons _ (List.Sublist.cons _ (List.Sublist.cons _ (List.Sublist.refl _))))))) (by rfl) (by rfl) (by rfl) (gives_value _ fun _ => by rfl) ?_
    refine flow_take (i := 30) (.bool false) (by rfl) (by kernel_rfl) (by kernel_rfl) (by kernel_rfl) (by exact hl_1) (by kernel_rfl) (List.Sublist.cons _ (List.Sublist.cons _ (List.Sublist.cons _ (List.Sublist.cons _ (List.Sublist.cons _ (List.Sublist.cons _ (List.Sublist.refl _))))))) (gives_value _ fun _ => by rfl) ?_
    refine flow_done (by kernel_rfl) ?_
    intro w16 hw16
    refine wp_cond_false (fr_at _ _ (by exact hl_1) _) ?_
    refine wp_skip ?_
    change Code.wp _ _ _ _ _
    refine one_plain hw16 [0, 1] (by rfl) ?_
    refine L_val (.int .i64 ((i : Int) + 1)) (by rfl) (by exact hl_1) (gives_add (k := .i64) ((i : Int)) (1) ((i : Int) + 1) (by rfl) (by rfl) (IntWalk.i64_in _ (by omega))) ?_
    refine L_val (.int .i64 ((i : Int) + 1)) (by rfl) (by exact hl_1) (gives_value _ fun _ => by rfl) ?_
    refine L_end ?_
    intro w17 hw17
    change ∃ r' : Nat, r' < r_1 ∧ _
    refine ⟨_, ?_, i + 1, ((73, .int .i64 ((i : Int) + 1)) :: (120, .int .i64 ((i : Int) + 1)) :: (119, .bool false) :: (118, .bool false) :: (117, .bool true) :: (116, .slice (some ⟨g13, 0, none⟩) 48 48) :: (115, .slice (some ⟨g12, 0, none⟩) (24) cap_9) :: (113, .slice (some ⟨g11, 0, none⟩) ((64 + 1) / 2) cap_8) :: (114, .slice (some ⟨g7, 0, none⟩) (24) cap_5) :: (112, .slice (some ⟨g4, 128 * i + 64, none⟩) 64 (cap_4 - (128 * i + 64))) :: (111, .int .i64 ((128 * (i : Int)) + 128)) :: (110, .int .i64 (128 * (i : Int))) :: (109, .int .i64 (i : Int)) :: (108, .int .i64 ((128 * (i : Int)) + 64)) :: (107, .int .i64 (128 * (i : Int))) :: (106, .int .i64 (i : Int)) :: (105, .slice (some ⟨g4, 0, none⟩) (128 * cn) cap_4) :: (104, .slice (some ⟨g6, 0, none⟩) 48 48) :: (103, .bool false) :: (102, .bool false) :: (101, .bool true) :: (100, .slice (some ⟨g10, 0, none⟩) 48 48) :: (99, .slice (some ⟨g9, 0, none⟩) (24) cap_7) :: (97, .slice (some ⟨g8, 0, none⟩) ((64 + 1) / 2) cap_6) :: (98, .slice (some ⟨g7, 0, none⟩) (24) cap_5) :: (96, .slice (some ⟨g4, 128 * i, none⟩) 64 (cap_4 - (128 * i))) :: (95, .int .i64 ((128 * (i : Int)) + 64)) :: (94, .int .i64 (128 * (i : Int))) :: (93, .int .i64 (i : Int)) :: (92, .int .i64 (128 * (i : Int))) :: (91, .int .i64 (i : Int)) :: (90, .slice (some ⟨g4, 0, none⟩) (128 * cn) cap_4) :: (89, .slice (some ⟨g5, 0, none⟩) 48 48) :: (14, .slice (some ⟨g7, 0, none⟩) (24) cap_5) :: (88, .slice (some ⟨g7, 0, none⟩) (24) cap_5) :: (13, .pointer (some ⟨g6, 0, none⟩)) :: (87, .agg (b48c (((elN (expandL bs0 bs1 (128 * cn)) i).b).val : Int))) :: (86, .agg (pc ((elN (expandL bs0 bs1 (128 * cn)) i).b))) :: (85, .pointer (some ⟨g3, i * 12 + 6, none⟩)) :: (84, .pointer (some ⟨g3, i * 12, none⟩)) :: (83, .int .i64 (i : Int)) :: (82, .slice (some ⟨g3, 0, none⟩) cn cap_3) :: (12, .pointer (some ⟨g5, 0, none⟩)) :: (81, .agg (b48c (((elN (expandL bs0 bs1 (128 * cn)) i).a).val : Int))) :: (80, .agg (pc ((elN (expandL bs0 bs1 (128 * cn)) i).a))) :: (79, .pointer (some ⟨g3, i * 12, none⟩)) :: (78, .pointer (some ⟨g3, i * 12, none⟩)) :: (77, .int .i64 (i : Int)) :: (76, .slice (some ⟨g3, 0, none⟩) cn cap_3) :: (11, .int .i64 (i : Int)) :: (75, .int .i64 (i : Int)) :: (74, .bool true) :: (7, .slice (some ⟨g3, 0, none⟩) cn cap_3) :: (9, .slice (some ⟨g4, 0, none⟩) (128 * cn) cap_4) :: (72, .int .i64 (cn : Int)) :: (73, .int .i64 (i : Int)) :: l_1), rfl, (by exact hl_1), (Eq.trans (Eq.trans (Eq.trans (fr_dup _ _ 73 _ (by exact hl_1) (by rfl) (by rfl)).symm (fr_dup _ _ 72 _ (by exact hl_1) (by rfl) (by rfl)).symm) (fr_dup _ _ 9 _ (by exact hl_1) (by rfl) (by rfl)).symm) (fr_dup _ _ 7 _ (by exact hl_1) (by rfl) (by rfl)).symm), by omega, (hw17.sub (List.Sublist.cons _ (List.Sublist.cons _ (List.Sublist.cons _ (List.Sublist.cons _ (List.Sublist.cons _ (List.Sublist.cons _ (List.Sublist.cons _ (List.Sublist.cons _ (List.Sublist.cons _ (List.Sublist.cons_cons _ (List.Sublist.cons_cons _ (List.Sublist.refl _)))))))))))))⟩
    omega
  ·
    refine seq_plain hw0_1 [0] (by rfl) ?_
    refine L_val (.bool false) (by rfl) (by exact hl_1) (gives_lss (k := .i64) ((i : Int)) ((cn : Int)) false (by rfl) (by rfl) (decide_eq_false (by omega))) ?_
    refine L_end ?_
    intro w18 hw18
    refine wp_seq ?_
    refine wp_cond_false (fr_at _ _ (by exact hl_1) _) ?_
    refine wp_exit ?_
    change Code.wp _ _ _ _ _
    change Code.wp _ _ _ _ _
    refine seq_plain hw18 [0] (by rfl) ?_
    refine L_val (.bool true) (by rfl) (by exact hl_1) (gives_value _ fun _ => by rfl) ?_
    refine L_end ?_
    intro w19 hw19
    refine wp_ret ?_
    change bodyPost _ _ _ Exit.ret _ _
    refine (ret_tmp (by rfl) (by exact hl_1) (by rfl) ⟨rfl, hw19.below⟩)
theorem numbers_any (A0 : Option Addr) (n0 c0 : Nat) (bs0 : List Int) (A1 : Option Addr) (n1 c1 : Nat) (bs1 : List Int) (a2 : Int) (v : World) (hr0 : Reads v v.heap.size A0 n0 (bs0.map (Value.int .u8))) (hr1 : Reads v v.heap.size A1 n1 (bs1.map (Value.int .u8))) (hgl : Glob v) (h2 : 3 ≤ v.heap.size) (hG : Glo0 v) (hH : GShp v) (hc0 : n0 ≤ 140737488351232) (hc1 : n1 ≤ 140737488351232) : Rets 3 #[.slice A0 n0 c0, .slice A1 n1 c1, .int .i64 a2] v (.bool true) := by
  by_cases h0 : 4096 < n0
  · exact numbers_long0 A0 n0 c0 bs0 A1 n1 c1 bs1 a2 v hr0 hr1 hgl h2 hG hH h0
  by_cases h1 : 4096 < n1
  · exact numbers_long1 A0 n0 c0 bs0 A1 n1 c1 bs1 a2 v hr0 hr1 hgl h2 hG hH ⟨by omega, h1⟩
  by_cases hn : a2 < 0
  · exact numbers_neg A0 n0 c0 bs0 A1 n1 c1 bs1 a2 v hr0 hr1 hgl h2 hG hH ⟨by omega, by omega⟩ hn
  by_cases hb : 63 < a2
  · exact numbers_big A0 n0 c0 bs0 A1 n1 c1 bs1 a2 v hr0 hr1 hgl h2 hG hH ⟨by omega, by omega⟩ hb
  obtain ⟨N, rfl⟩ : ∃ N : Nat, a2 = (N : Int) := ⟨a2.toNat, by omega⟩
  by_cases hw : 4 < N
  · exact numbers_wrap A0 n0 c0 bs0 A1 n1 c1 bs1 N (N % 4) v hr0 hr1 hgl h2 hG hH ⟨by omega, by omega⟩ ⟨hw, by omega⟩ rfl
  · exact numbers_in A0 n0 c0 bs0 A1 n1 c1 bs1 N v hr0 hr1 hgl h2 hG hH ⟨by omega, by omega⟩ (by omega)
end Go.Proofs.YtialfoccalobpaaDoor
