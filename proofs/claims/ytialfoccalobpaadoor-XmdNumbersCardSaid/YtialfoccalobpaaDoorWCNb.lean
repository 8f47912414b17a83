/-
  What the walk of numbers made of a text wants: parts of slices, the least of two, an iterator over parts of a slice.
-/
import Derived.Test.YtialfoccalobpaaDoorWCYl
import Derived.Test.YtialfoccalobpaaDoorWCApp
import Derived.Test.YtialfoccalobpaaDoorWCXmR
namespace Go.Proofs.YtialfoccalobpaaDoor
set_option linter.unusedSimpArgs false
set_option linter.unusedVariables false
open Go.RowKit
section
variable {P : Program} {S : World → Prop} {l : List (Nat × Value)} {dst : Option Nat} {x y y2 y3 : Operand} {t ty : TypeId} {pos : String} {after : Array Edge} {gd : Option (Nat × Bool)}
theorem gives_slice_lo {e : TypeId} {k : IntKind} (g o m c j o' n' c' : Nat) (i : Int) (hx : rho l x = .slice (some ⟨g, o, none⟩) m c) (hy : rho l y = .int k i) (ht : P.underlying t = some (.slice e)) (hs : (P.info? e).map (·.size) = some 1) (h0 : i = (j : Int)) (h1 : j ≤ m) (h2 : m ≤ c) (h3 : j < c) (h5 : o + j = o') (h6 : m - j = n') (h7 : c - j = c') :
    Gives P S (.slice (some ⟨g, o', none⟩) n' c') (execOp (rho l) ⟨dst, .slice t x (some y) none none, ty, pos, after, gd⟩) := gives_value _ fun w => by
  subst h0 h5 h6 h7
  obtain ⟨ie, he, hz⟩ := Option.map_eq_some_iff.1 hs
  have e1 : ¬ c = j := by omega
  simp [execOp, hx, hy, Instr.sliceAt, Instr.slice, Instr.sliceBounds, Instr.sliceBound, run_underlying ht, asIntOf, sizeOf, typeInfo, he, hz, h1, h2, add_plain, slicedAt, e1]
theorem gives_slice_lh {e : TypeId} {k k2 : IntKind} (g o m c j q o' n' c' : Nat) (i i2 : Int) (hx : rho l x = .slice (some ⟨g, o, none⟩) m c) (hy : rho l y = .int k i) (hy2 : rho l y2 = .int k2 i2) (ht : P.underlying t = some (.slice e)) (hs : (P.info? e).map (·.size) = some 1) (h0 : i = (j : Int)) (h0' : i2 = (q : Int)) (h1 : j ≤ q) (h2 : q ≤ c) (h3 : j < c) (h5 : o + j = o') (h6 : q - j = n') (h7 : c - j = c') :
    Gives P S (.slice (some ⟨g, o', none⟩) n' c') (execOp (rho l) ⟨dst, .slice t x (some y) (some y2) none, ty, pos, after, gd⟩) := gives_value _ fun w => by
  subst h0 h0' h5 h6 h7
  obtain ⟨ie, he, hz⟩ := Option.map_eq_some_iff.1 hs
  have e1 : ¬ c = j := by omega
  simp [execOp, hx, hy, hy2, Instr.sliceAt, Instr.slice, Instr.sliceBounds, Instr.sliceBound, run_underlying ht, asIntOf, sizeOf, typeInfo, he, hz, h1, h2, add_plain, slicedAt, e1]
theorem gives_slice_lhm {e : TypeId} {k k2 k3 : IntKind} (g o m c j q r o' n' c' : Nat) (i i2 i3 : Int) (hx : rho l x = .slice (some ⟨g, o, none⟩) m c) (hy : rho l y = .int k i) (hy2 : rho l y2 = .int k2 i2) (hy3 : rho l y3 = .int k3 i3) (ht : P.underlying t = some (.slice e)) (hs : (P.info? e).map (·.size) = some 1)
    (h0 : i = (j : Int)) (h0' : i2 = (q : Int)) (h0'' : i3 = (r : Int)) (h1 : j ≤ q) (h2 : q ≤ r) (h3 : r ≤ c) (h4 : j < r) (h5 : o + j = o') (h6 : q - j = n') (h7 : r - j = c') :
    Gives P S (.slice (some ⟨g, o', none⟩) n' c') (execOp (rho l) ⟨dst, .slice t x (some y) (some y2) (some y3), ty, pos, after, gd⟩) := gives_value _ fun w => by
  subst h0 h0' h0'' h5 h6 h7
  obtain ⟨ie, he, hz⟩ := Option.map_eq_some_iff.1 hs
  have e1 : ¬ r = j := by omega
  simp [execOp, hx, hy, hy2, hy3, Instr.sliceAt, Instr.slice, Instr.sliceBounds, Instr.sliceBound, run_underlying ht, asIntOf, sizeOf, typeInfo, he, hz, h1, h2, h3, add_plain, slicedAt, e1]
theorem gives_min {k : IntKind} {t2 : TypeId} (a b : Int) (h : a ≤ b) (hx : rho l x = .int k a) (hy : rho l y = .int k b) :
    Gives P S (.int k a) (execOp (rho l) ⟨dst, .call { callee := .builtin .min, args := #[x, y], argTypes := #[t, t2] }, ty, pos, after, gd⟩) := gives_value _ fun w => by
  have e : ¬ b < a := by omega
  simp [execOp, resolve, invoke, builtin, hx, hy, Builtin.min_, Builtin.min2, e]
end
theorem gives_load_oldSn {P : Program} {S : World → Prop} {l : List (Nat × Value)} {dst : Option Nat} {x : Operand} {t ty et : TypeId} {pos : String} {after : Array Edge} {gd : Option (Nat × Bool)} (p : Addr) (u : Value) (hx : rho l x = .pointer (some p)) (hB : ∀ w, S w → w.cell? p = some u) (ht : P.underlying t = some (.slice et)) :
    Gives P S u (execOp (rho l) ⟨dst, .load t x, ty, pos, after, gd⟩) := fun w hS => by
  refine .inl ⟨w, ?_, Below.refl _ _⟩
  have hb := hB w hS
  simp [execOp, hx, Instr.loadAt, Instr.sureAddr, loadVar, isAgg, run_underlying ht, hb]
/-- What a round keeps of the two boxes of the iterator. -/
def KpB (gS gN : Nat) (A B : World) : Prop := A.heap.size ≤ B.heap.size ∧ B.cell? ⟨gS, 0, none⟩ = A.cell? ⟨gS, 0, none⟩ ∧ B.cell? ⟨gN, 0, none⟩ = A.cell? ⟨gN, 0, none⟩
theorem KpB.trans {gS gN : Nat} {A B C : World} (h : KpB gS gN A B) (k : KpB gS gN B C) : KpB gS gN A C := ⟨Nat.le_trans h.1 k.1, k.2.1.trans h.2.1, k.2.2.trans h.2.2⟩
/-- Two blocks more. -/
theorem Hbl.joins {v w w' : World} {L M : List (Nat × TypeId × Array Value)} (h : Hbl v L w) (h2 : Hbl w M w') : Hbl v (M ++ L) w' := by
  refine ⟨h.1.trans (h2.1.mono h.1.size), fun q hq => ?_, ?_⟩
  · rcases List.mem_append.1 hq with hq | hq
    · exact ⟨(h2.2.1 q hq).1, by have := (h2.2.1 q hq).2; have := h.1.size; omega⟩
    · exact ⟨(h.2.1 q hq).1.keep h2.1, (h.2.1 q hq).2⟩
  · rw [List.map_append, List.nodup_append]
    refine ⟨h2.2.2, h.2.2, fun a ha b hb e => ?_⟩
    obtain ⟨q, hq, rfl⟩ := List.mem_map.1 ha
    obtain ⟨r, hr, rfl⟩ := List.mem_map.1 hb
    have h3 := (h2.2.1 q hq).2
    have h4 := (h.2.1 r hr).1.lt
    omega
def RetsYs (T T2 : TypeId) (u : Nat → Nat → Value) (cs cs2 : Array Value) (f : FuncId) (args : Array Value) (w : World) : Prop :=
  Calls Tryd.prog f args w fun e w' => ∃ g g2, e = .returned (u g g2) ∧ Hbl w [(g, T, cs), (g2, T2, cs2)] w'
theorem L_freshYs {ops : Array Oper} {R : Act → World → Prop} {v : World} {L : List (Nat × TypeId × Array Value)} {n : Nat} {sl : List (Nat × Value)} {i d : Nat} {l : List Nat} {f : FuncId} {args : Array Operand} {ats : Array TypeId} {ty : TypeId} {pos : String} {after : Array Edge} {gd : Option (Nat × Bool)} {vl : List Value} (T T2 : TypeId) (u : Nat → Nat → Value) (cs cs2 : Array Value)
    (hi : ops[i]? = some ⟨some d, .call { callee := .value (.func f), args := args, argTypes := ats }, ty, pos, after, gd⟩) (hl : inFr n sl = true) (hw : Want ops n sl gd) (hf : (Tryd.prog.funcs[f]?).map (fun fn => (fn.name == "runtime.NumGoroutine", fn.body.isNone)) = some (false, false))
    (ha : args.toList.map (rho sl) = vl) (hc : ∀ w, Hbl v L w → RetsYs T T2 u cs cs2 f vl.toArray w)
    (h : ∀ g g2, wpL Tryd.prog ops R l (fr n ((d, u g g2) :: sl)) (Hbl v ((g, T, cs) :: (g2, T2, cs2) :: L))) : wpL Tryd.prog ops R (i :: l) (fr n sl) (Hbl v L) := fun w hS =>
  wpOp_call hi hl (hw ..) hf ha (hc w hS) fun e w' ⟨g, g2, he, hb⟩ => ⟨_, he, Hbl v ((g, T, cs) :: (g2, T2, cs2) :: L), Hbl.stays v _, hS.joins hb, h g g2⟩
attribute [local irreducible] wpL wpF fr Code.wp bodyPost
set_option maxRecDepth 100000 in
set_option maxHeartbeats 4000000 in
theorem n_chunk (A0 : Option Addr) (n0 c0 : Nat) (v : World) : RetsYs 3 22 (fun g g2 => .func (.func 110) #[] #[.pointer (some ⟨g2, 0, none⟩), .pointer (some ⟨g, 0, none⟩)]) #[.int .i64 128] #[.slice A0 n0 c0] 53 #[.slice A0 n0 c0, .int .i64 128] v := by
  refine calls_fr2 Tryd.func53 rfl (by rfl : _ = 9) (by rfl) ?_
  have hw := Hbl.nil v
  refine seq_plain hw [0, 1, 2] (by rfl) ?_
  refine L_box (.slice A0 n0 c0) (by rfl) (by rfl) (by rfl) #[.slice A0 n0 c0] (by rfl) ?_; intro g1
  refine L_box (.int .i64 128) (by rfl) (by rfl) (by rfl) #[.int .i64 128] (by rfl) ?_; intro g2
  refine L_val (.nilFunc) (by rfl) (by rfl) (gives_value _ fun _ => by rfl) ?_
  refine L_end ?_
  intro w1 hw1
  refine wp_seq ?_
  refine seq_plain hw1 [0, 1] (by rfl) ?_
  refine L_val (.int .i64 128) (by rfl) (by rfl) (gives_load1 g2 0 _ #[.int .i64 128] (.int .i64 128) (by rfl) (fun _ h => h.blk 0 (by rfl)) (by rfl) und_int) ?_
  refine L_val (.bool false) (by rfl) (by rfl) (gives_lss (k := .i64) 128 1 false (by rfl) (by rfl) (by rfl)) ?_
  refine L_end ?_
  intro w2 hw2
  refine wp_cond_false (fr_at _ _ (by rfl) _) ?_
  refine wp_skip ?_
  change Code.wp _ _ _ _ _
  refine seq_plain hw2 [0, 1] (by rfl) ?_
  refine L_val (.func (.func 110) #[] #[.pointer (some ⟨g1, 0, none⟩), .pointer (some ⟨g2, 0, none⟩)]) (by rfl) (by rfl) (gives_value _ fun _ => by kernel_rfl) ?_
  refine L_val (.func (.func 110) #[] #[.pointer (some ⟨g1, 0, none⟩), .pointer (some ⟨g2, 0, none⟩)]) (by rfl) (by rfl) (gives_value _ fun _ => by rfl) ?_
  refine L_end ?_
  intro w3 hw3
  refine wp_ret ?_
  change bodyPost _ _ _ Exit.ret _ _
  refine (ret_tmp (by rfl) (by rfl) (by rfl) ⟨_, _, rfl, hw3⟩)
set_option maxRecDepth 100000 in
set_option maxHeartbeats 4000000 in
theorem chunk_walk (m l0 N gS gN gA cap B : Nat) (J Jx : List Nat → World → Prop) (hJ : AbidesFrom B J) (hJa : AbidesFrom B Jx) (hcap : 128 * N ≤ cap) (hN : N ≤ 1000)
    (hY : ∀ pre x W1, J pre W1 → pre.length < N → x = pre.length → YieldAt (wideAt none) m Tryd.prog l0 #[.slice (some ⟨gA, 128 * x, none⟩) 128 128] W1 fun e W' => (e = .returned (.bool true) ∧ J (pre ++ [x]) W' ∧ KpB gS gN W1 W') ∨ (e = .returned (.bool false) ∧ Jx (pre ++ [x]) W'))
    (v : World) (hgS : gS < v.heap.size) (hgN : gN < v.heap.size) (hcS : v.cell? ⟨gS, 0, none⟩ = some (.slice (some ⟨gA, 0, none⟩) (128 * N) cap)) (hcN : v.cell? ⟨gN, 0, none⟩ = some (.int .i64 128)) (h0 : J [] v) :
    Calls Tryd.prog 110 #[.func (.yield l0) #[] #[], .pointer (some ⟨gS, 0, none⟩), .pointer (some ⟨gN, 0, none⟩)] v fun e W' => (∃ u, e = .returned u) ∧ ((∃ xs, xs = List.range N ∧ J xs W') ∨ (∃ pre, True ∧ Jx pre W')) := by
  refine calls_fr3 Tryd.func110 rfl (by rfl : _ = 31) (by rfl) ?_
  have hw := Hbl.nil v
  refine seq_plain hw [0] (by rfl) ?_
  refine L_val (.int .i64 0) (by rfl) (by rfl) (gives_value _ fun _ => by rfl) ?_
  refine L_end ?_
  intro w1 hw1
  refine wp_block ?_
  refine loop_down (fun (r_ : Nat) a w => ∃ (k : Nat) (v : World) (l_1 : List (Nat × Value)), N - k = r_ ∧ inFr 31 l_1 = true ∧ a = fr 31 ((0, .func (.yield l0) #[] #[]) :: (1, .pointer (some ⟨gS, 0, none⟩)) :: (2, .pointer (some ⟨gN, 0, none⟩)) :: (4, .int .i64 ((128 * k : Nat) : Int)) :: l_1) ∧ (k ≤ N) ∧ (gS < v.heap.size) ∧ (gN < v.heap.size) ∧ (v.cell? ⟨gS, 0, none⟩ = some (.slice (some ⟨gA, 0, none⟩) (128 * N) cap)) ∧ (v.cell? ⟨gN, 0, none⟩ = some (.int .i64 128)) ∧ (J (List.range k) v) ∧ Hbl v [] w) ?_ _ _ _ ⟨0, v, [(4, .int .i64 0), (2, .pointer (some ⟨gN, 0, none⟩)), (1, .pointer (some ⟨gS, 0, none⟩)), (0, .func (.yield l0) #[] #[])], rfl, (by rfl), (Eq.trans (Eq.trans (Eq.trans (fr_dup _ _ 4 _ (by rfl) (by rfl) (by rfl)).symm (fr_dup _ _ 2 _ (by rfl) (by rfl) (by rfl)).symm) (fr_dup _ _ 1 _ (by rfl) (by rfl) (by rfl)).symm) (fr_dup _ _ 0 _ (by rfl) (by rfl) (by rfl)).symm), Nat.zero_le _, hgS, hgN, hcS, hcN, h0, hw1⟩
  rintro r_1 a0 w0_1 ⟨k, v, l_1, hr_1, hl_1, rfl, hk, hgS, hgN, hcS, hcN, hJv, hw0_1⟩
  by_cases hlt : k < N
  ·
    refine wp_seq ?_
    refine seq_plain hw0_1 [0, 1, 2, 3] (by rfl) ?_
    refine L_val (.int .i64 ((128 * k : Nat) : Int)) (by rfl) (by exact hl_1) (gives_value _ fun _ => by rfl) ?_
    refine L_val (.slice (some ⟨gA, 0, none⟩) (128 * N) cap) (by rfl) (by exact hl_1) (gives_load_oldSn _ (.slice (some ⟨gA, 0, none⟩) (128 * N) cap) (by rfl) (fun _ h => (h.below.cell (p := ⟨gS, 0, none⟩) hgS).trans hcS) und_u8s) ?_
    refine L_val (.int .i64 (((128 * N) : Nat) : Int)) (by rfl) (by exact hl_1) (gives_len _ (128 * N) cap und_u8s (by rfl)) ?_
    refine L_val (.bool true) (by rfl) (by exact hl_1) (gives_lss (k := .i64) (((128 * k : Nat) : Int)) ((((128 * N) : Nat) : Int)) true (by rfl) (by rfl) (decide_eq_true (by omega))) ?_
    refine L_end ?_
    intro w2 hw2
    refine wp_cond_true (fr_at _ _ (by exact hl_1) _) ?_
    refine wp_skip ?_
    change Code.wp _ _ _ _ _
    refine wp_seq ?_
    refine wp_block ?_
    refine seq_flow (by kernel_rfl) hw2 [] [] 7 (by rfl) ?_
    refine flow_take (i := 0) (.int .i64 128) (by rfl) (by kernel_rfl) (by kernel_rfl) (by kernel_rfl) (by exact hl_1) (by kernel_rfl) (List.Sublist.refl _) (gives_load_old _ (.int .i64 128) (by rfl) (fun _ h => (h.below.cell (p := ⟨gN, 0, none⟩) hgN).trans hcN) und_int) ?_
    refine flow_take (i := 1) (.slice (some ⟨gA, 0, none⟩) (128 * N) cap) (by rfl) (by kernel_rfl) (by kernel_rfl) (by kernel_rfl) (by exact hl_1) (by kernel_rfl) (List.Sublist.refl _) (gives_load_oldSn _ (.slice (some ⟨gA, 0, none⟩) (128 * N) cap) (by rfl) (fun _ h => (h.below.cell (p := ⟨gS, 0, none⟩) hgS).trans hcS) und_u8s) ?_
    refine flow_take (i := 2) (.int .i64 ((128 * k : Nat) : Int)) (by rfl) (by kernel_rfl) (by kernel_rfl) (by kernel_rfl) (by exact hl_1) (by kernel_rfl) (List.Sublist.refl _) (gives_value _ fun _ => by rfl) ?_
    refine flow_take (i := 3) (.slice (some ⟨gA, 128 * k, none⟩) (128 * (N - k)) (cap - 128 * k)) (by rfl) (by kernel_rfl) (by kernel_rfl) (by kernel_rfl) (by exact hl_1) (by kernel_rfl) (List.Sublist.refl _) (gives_slice_lo gA 0 (128 * N) cap (128 * k) (128 * k) (128 * (N - k)) (cap - 128 * k) (((128 * k : Nat) : Int)) (by rfl) (by rfl) und_u8s u8_sz (by omega) (by omega) (by omega) (by omega) (by omega) (by omega) (by omega)) ?_
    refine flow_take (i := 4) (.int .i64 ((128 * (N - k) : Nat) : Int)) (by rfl) (by kernel_rfl) (by kernel_rfl) (by kernel_rfl) (by exact hl_1) (by kernel_rfl) (List.Sublist.refl _) (gives_len _ (128 * (N - k)) (cap - 128 * k) und_u8s (by rfl)) ?_
    refine flow_take (i := 5) (.int .i64 128) (by rfl) (by kernel_rfl) (by kernel_rfl) (by kernel_rfl) (by exact hl_1) (by kernel_rfl) (List.Sublist.refl _) (gives_min (128) (((128 * (N - k) : Nat) : Int)) (by omega) (by rfl) (by rfl)) ?_
    refine flow_take (i := 6) (.int .i64 128) (by rfl) (by kernel_rfl) (by kernel_rfl) (by kernel_rfl) (by exact hl_1) (by kernel_rfl) (List.Sublist.refl _) (gives_value _ fun _ => by rfl) ?_
    refine flow_done (by kernel_rfl) ?_
    intro w3 hw3
    refine seq_yield (m := m + 1) (by kernel_rfl) [0, 1, 2, 3, 4, 5, 6, 7, 8, 9] 10 [11] (by rfl) (Hbl v []) hw3 ?_
    refine L_val (.func (.yield l0) #[] #[]) (by rfl) (by exact hl_1) (gives_value _ fun _ => by rfl) ?_
    refine L_val (.slice (some ⟨gA, 0, none⟩) (128 * N) cap) (by rfl) (by exact hl_1) (gives_load_oldSn _ (.slice (some ⟨gA, 0, none⟩) (128 * N) cap) (by rfl) (fun _ h => (h.below.cell (p := ⟨gS, 0, none⟩) hgS).trans hcS) und_u8s) ?_
    refine L_val (.int .i64 ((128 * k : Nat) : Int)) (by rfl) (by exact hl_1) (gives_value _ fun _ => by rfl) ?_
    refine L_val (.int .i64 ((128 * k : Nat) : Int)) (by rfl) (by exact hl_1) (gives_value _ fun _ => by rfl) ?_
    refine L_val (.int .i64 128) (by rfl) (by exact hl_1) (gives_value _ fun _ => by rfl) ?_
    refine L_val (.int .i64 (((128 * k : Nat) : Int) + 128)) (by rfl) (by exact hl_1) (gives_add (k := .i64) (((128 * k : Nat) : Int)) (128) (((128 * k : Nat) : Int) + 128) (by rfl) (by rfl) (IntWalk.i64_in _ (by omega))) ?_
    refine L_val (.int .i64 ((128 * k : Nat) : Int)) (by rfl) (by exact hl_1) (gives_value _ fun _ => by rfl) ?_
    refine L_val (.int .i64 128) (by rfl) (by exact hl_1) (gives_value _ fun _ => by rfl) ?_
    refine L_val (.int .i64 (((128 * k : Nat) : Int) + 128)) (by rfl) (by exact hl_1) (gives_add (k := .i64) (((128 * k : Nat) : Int)) (128) (((128 * k : Nat) : Int) + 128) (by rfl) (by rfl) (IntWalk.i64_in _ (by omega))) ?_
    refine L_val (.slice (some ⟨gA, 128 * k, none⟩) 128 128) (by rfl) (by exact hl_1) (gives_slice_lhm gA 0 (128 * N) cap (128 * k) (128 * k + 128) (128 * k + 128) (128 * k) 128 128 (((128 * k : Nat) : Int)) (((128 * k : Nat) : Int) + 128) (((128 * k : Nat) : Int) + 128) (by rfl) (by rfl) (by rfl) (by rfl) und_u8s u8_sz (by omega) (by omega) (by omega) (by omega) (by omega) (by omega) (by omega) (by omega) (by omega) (by omega)) ?_
    refine L_end ?_
    intro w4 hw4
    refine op_yield (by rfl) (by exact hl_1) (by rfl) (by rfl) (hY (List.range k) k _ (hJ _ _ _ _ hJv (below_grown hw4.below none) (fun r e => by cases e)) (by simp; omega) (by simp)) ?_ ?_
    ·
      rintro v hJx
      refine wpOps_of_flow _ _ (Hbl v []) _ (Hbl.nil v) ?_
      refine L_val (.bool true) (by rfl) (by exact hl_1) (gives_value _ fun _ => by rfl) ?_
      refine L_end ?_
      intro w5 hw5
      change Code.wp _ _ _ _ _
      refine wp_cond_true (fr_at _ _ (by exact hl_1) _) ?_
      refine wp_ret ?_
      change bodyPost _ _ _ Exit.ret _ _
      exact bodyPost_ret (results_none rfl _ _ _) (fr_defers _ _) ⟨⟨_, rfl⟩, .inr ⟨_, trivial, hJa _ _ _ _ hJx (below_grown hw5.below none) (fun r e => by cases e)⟩⟩
    rintro v3 ⟨hJ3, hK3⟩
    have hK3 := (show KpB gS gN v v3 from ⟨Nat.le_trans hw4.below.size hK3.1, hK3.2.1.trans (hw4.below.cell (p := ⟨gS, 0, none⟩) hgS), hK3.2.2.trans (hw4.below.cell (p := ⟨gN, 0, none⟩) hgN)⟩)
    have hgS := Nat.lt_of_lt_of_le hgS hK3.1
    have hgN := Nat.lt_of_lt_of_le hgN hK3.1
    have hcS := hK3.2.1.trans hcS
    have hcN := hK3.2.2.trans hcN
    clear hJv hK3
    obtain ⟨v, rfl⟩ : ∃ u, u = v3 := ⟨_, rfl⟩
    refine wpOps_of_flow _ _ (Hbl v []) _ (Hbl.nil v) ?_
    refine L_val (.bool false) (by rfl) (by exact hl_1) (gives_value _ fun _ => by rfl) ?_
    refine L_end ?_
    intro w6 hw6
    change Code.wp _ _ _ _ _
    refine wp_cond_false (fr_at _ _ (by exact hl_1) _) ?_
    refine wp_skip ?_
    change Code.wp _ _ _ _ _
    refine one_plain hw6 [0, 1, 2, 3] (by rfl) ?_
    refine L_val (.int .i64 ((128 * k : Nat) : Int)) (by rfl) (by exact hl_1) (gives_value _ fun _ => by rfl) ?_
    refine L_val (.int .i64 128) (by rfl) (by exact hl_1) (gives_load_old _ (.int .i64 128) (by rfl) (fun _ h => (h.below.cell (p := ⟨gN, 0, none⟩) hgN).trans hcN) und_int) ?_
    refine L_val (.int .i64 (((128 * k : Nat) : Int) + 128)) (by rfl) (by exact hl_1) (gives_add (k := .i64) (((128 * k : Nat) : Int)) (128) (((128 * k : Nat) : Int) + 128) (by rfl) (by rfl) (IntWalk.i64_in _ (by omega))) ?_
    refine L_val (.int .i64 (((128 * k : Nat) : Int) + 128)) (by rfl) (by exact hl_1) (gives_value _ fun _ => by rfl) ?_
    refine L_end ?_
    intro w7 hw7
    change ∃ r' : Nat, r' < r_1 ∧ _
    refine ⟨_, ?_, k + 1, v, ((4, .int .i64 (((128 * k : Nat) : Int) + 128)) :: (12, .int .i64 (((128 * k : Nat) : Int) + 128)) :: (11, .int .i64 128) :: (10, .int .i64 ((128 * k : Nat) : Int)) :: (30, .bool false) :: (29, .bool true) :: (28, .slice (some ⟨gA, 128 * k, none⟩) 128 128) :: (27, .int .i64 (((128 * k : Nat) : Int) + 128)) :: (26, .int .i64 128) :: (25, .int .i64 ((128 * k : Nat) : Int)) :: (24, .int .i64 (((128 * k : Nat) : Int) + 128)) :: (23, .int .i64 128) :: (22, .int .i64 ((128 * k : Nat) : Int)) :: (21, .int .i64 ((128 * k : Nat) : Int)) :: (20, .slice (some ⟨gA, 0, none⟩) (128 * N) cap) :: (19, .func (.yield l0) #[] #[]) :: (5, .int .i64 128) :: (18, .int .i64 128) :: (17, .int .i64 ((128 * (N - k) : Nat) : Int)) :: (16, .slice (some ⟨gA, 128 * k, none⟩) (128 * (N - k)) (cap - 128 * k)) :: (15, .int .i64 ((128 * k : Nat) : Int)) :: (14, .slice (some ⟨gA, 0, none⟩) (128 * N) cap) :: (13, .int .i64 128) :: (9, .bool true) :: (8, .int .i64 (((128 * N) : Nat) : Int)) :: (7, .slice (some ⟨gA, 0, none⟩) (128 * N) cap) :: (6, .int .i64 ((128 * k : Nat) : Int)) :: (0, .func (.yield l0) #[] #[]) :: (1, .pointer (some ⟨gS, 0, none⟩)) :: (2, .pointer (some ⟨gN, 0, none⟩)) :: (4, .int .i64 ((128 * k : Nat) : Int)) :: l_1), rfl, (by exact hl_1), (Eq.trans (Eq.trans (Eq.trans (fr_dup _ _ 4 _ (by exact hl_1) (by rfl) (by exact (congrArg (Value.int .i64) (by omega)))).symm (fr_dup _ _ 2 _ (by exact hl_1) (by rfl) (by rfl)).symm) (fr_dup _ _ 1 _ (by exact hl_1) (by rfl) (by rfl)).symm) (fr_dup _ _ 0 _ (by exact hl_1) (by rfl) (by rfl)).symm), by omega, hgS, hgN, hcS, hcN, (by rw [List.range_succ]; exact hJ3), hw7⟩
    omega
  ·
    refine wp_seq ?_
    refine seq_plain hw0_1 [0, 1, 2, 3] (by rfl) ?_
    refine L_val (.int .i64 ((128 * k : Nat) : Int)) (by rfl) (by exact hl_1) (gives_value _ fun _ => by rfl) ?_
    refine L_val (.slice (some ⟨gA, 0, none⟩) (128 * N) cap) (by rfl) (by exact hl_1) (gives_load_oldSn _ (.slice (some ⟨gA, 0, none⟩) (128 * N) cap) (by rfl) (fun _ h => (h.below.cell (p := ⟨gS, 0, none⟩) hgS).trans hcS) und_u8s) ?_
    refine L_val (.int .i64 (((128 * N) : Nat) : Int)) (by rfl) (by exact hl_1) (gives_len _ (128 * N) cap und_u8s (by rfl)) ?_
    refine L_val (.bool false) (by rfl) (by exact hl_1) (gives_lss (k := .i64) (((128 * k : Nat) : Int)) ((((128 * N) : Nat) : Int)) false (by rfl) (by rfl) (decide_eq_false (by omega))) ?_
    refine L_end ?_
    intro w8 hw8
    refine wp_cond_false (fr_at _ _ (by exact hl_1) _) ?_
    refine wp_exit ?_
    have hkN : k = N := by omega
    subst hkN
    change bodyPost _ _ _ Exit.normal _ _
    exact bodyPost_end (results_none rfl _ _ _) (fr_defers _ _) ⟨⟨_, rfl⟩, .inl ⟨_, rfl, hJ _ _ _ _ hJv (below_grown hw8.below none) (fun r e => by cases e)⟩⟩
end Go.Proofs.YtialfoccalobpaaDoor
