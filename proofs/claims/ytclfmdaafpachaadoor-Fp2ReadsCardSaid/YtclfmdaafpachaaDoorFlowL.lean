/-
  Flow, on: integers, slices of one-cell elements, loops.
-/
import Derived.Test.YtclfmdaafpachaaDoorFlowD
import Derived.Great.BuildSlice
namespace Go.Proofs.YtclfmdaafpachaaDoor
set_option linter.unusedSimpArgs false
set_option linter.unusedVariables false
open Go.RowKit
/-! ### Loops -/
theorem loop_down {P : Program} {Q : Exit → Act → World → Prop} {c : Code} (I : Nat → Act → World → Prop)
    (round : ∀ r a w, I r a w → c.wp P (Exit.then (fun a' w' => ∃ r', r' < r ∧ I r' a' w') Q) a w) : ∀ r a w, I r a w → (Code.loop c).wp P Q a w := by
  intro r a w hI b k cs
  have key : ∀ r a w, I r a w → ∃ e a' w', Q e a' w' ∧ Arrives P (lone (b.at a (.code c :: .inLoop c :: k)) cs w) b k cs e a' w' := by
    intro n
    induction n using Nat.strongRecOn with
    | _ n ih =>
      intro a w hI
      obtain ⟨e, a₁, w₁, hq, harr⟩ := round n a w hI b (.inLoop c :: k) cs
      cases e with
      | normal =>
        obtain ⟨r', hlt, hI₁⟩ := hq
        obtain ⟨e₂, a₂, w₂, hq₂, harr₂⟩ := ih r' hlt a₁ w₁ hI₁
        exact ⟨e₂, a₂, w₂, hq₂, .of_steps (Steps.trans harr (.one step_inLoop)) harr₂⟩
      | exit id => exact ⟨_, a₁, w₁, hq, .pass (x := .inLoop c) rfl (fun _ _ => .inl (by simp)) harr⟩
      | goto l => exact ⟨_, a₁, w₁, hq, .pass (x := .inLoop c) rfl (fun _ _ => .inl (by simp)) harr⟩
      | ret => exact ⟨_, a₁, w₁, hq, .pass (x := .inLoop c) rfl (fun _ _ => .inl (by simp)) harr⟩
      | panic ch => exact ⟨_, a₁, w₁, hq, .pass (x := .inLoop c) rfl (fun _ _ => .inl (by simp)) harr⟩
      | outgrown => exact ⟨_, a₁, w₁, hq, .pass (x := .inLoop c) rfl (fun _ _ => .inl (by simp)) harr⟩
  obtain ⟨e, a', w', hq, harr⟩ := key r a w hI
  exact ⟨e, a', w', hq, .of_steps (.one step_loop) harr⟩
theorem fr_dup (n : Nat) (l : List (Nat × Value)) (d : Nat) (v : Value) (hl : inFr n l = true) (hd : Nat.blt d n = true) (h : look l d = v) : fr n ((d, v) :: l) = fr n l := by
  show (fr n l).put (some d) v = fr n l
  have h1 := fr_at n l hl d
  have hlt : d < (fr n l).tmps.size := by rw [fr_size]; exact blt_iff.1 hd
  rw [h] at h1
  generalize fr n l = a at h1 hlt
  obtain ⟨tm, df⟩ := a
  simp only at h1 hlt
  simp only [Array.getD, hlt, dif_pos] at h1
  simp only [Act.put]
  congr 1
  apply Array.ext_getElem?
  intro i
  rw [Array.getElem?_setIfInBounds]
  split
  · rename_i e
    subst e
    rw [← h1, Array.getElem?_eq_getElem hlt]
    rfl
  · rfl
section
variable {P : Program} {ops : Array Oper} {late : List Nat} {R : Act → World → Prop} {v : World} {L L0 : List (Nat × TypeId × Array Value)} {n : Nat} {sl : List (Nat × Value)} {S : World → Prop}
variable {l : List (Nat × Value)} {dst : Option Tmp} {t ct ty : TypeId} {x y : Operand} {pos : String} {after : Array Edge} {gd : Option (Nat × Bool)}
/-! ### Integers -/
theorem gives_add {k : IntKind} (a b c : Int) (hx : rho l x = .int k a) (hy : rho l y = .int k b) (h : k.wrap (a + b) = c) : Gives P S (.int k c) (execOp (rho l) ⟨dst, .binOp .add t x y ct, ty, pos, after, gd⟩) := gives_value _ fun w => by
  simp [execOp, hx, hy, eqGuard, binOp, Op.intArith, h]
theorem gives_sub {k : IntKind} (a b c : Int) (hx : rho l x = .int k a) (hy : rho l y = .int k b) (h : k.wrap (a - b) = c) : Gives P S (.int k c) (execOp (rho l) ⟨dst, .binOp .sub t x y ct, ty, pos, after, gd⟩) := gives_value _ fun w => by
  simp [execOp, hx, hy, eqGuard, binOp, Op.intArith, h]
theorem gives_mul {k : IntKind} (a b c : Int) (hx : rho l x = .int k a) (hy : rho l y = .int k b) (h : k.wrap (a * b) = c) : Gives P S (.int k c) (execOp (rho l) ⟨dst, .binOp .mul t x y ct, ty, pos, after, gd⟩) := gives_value _ fun w => by
  simp [execOp, hx, hy, eqGuard, binOp, Op.intArith, h]
theorem gives_quo {k : IntKind} (a b c : Int) (hx : rho l x = .int k a) (hy : rho l y = .int k b) (hb : b ≠ 0) (h : k.wrap (a.tdiv b) = c) : Gives P S (.int k c) (execOp (rho l) ⟨dst, .binOp .quo t x y ct, ty, pos, after, gd⟩) := gives_value _ fun w => by
  simp [execOp, hx, hy, eqGuard, binOp, Op.intDiv, hb, h]
theorem gives_rem {k : IntKind} (a b c : Int) (hx : rho l x = .int k a) (hy : rho l y = .int k b) (hb : b ≠ 0) (h : a.tmod b = c) : Gives P S (.int k c) (execOp (rho l) ⟨dst, .binOp .rem t x y ct, ty, pos, after, gd⟩) := gives_value _ fun w => by
  simp [execOp, hx, hy, eqGuard, binOp, Op.intDiv, hb, h]
theorem gives_lss {k : IntKind} (a b : Int) (r : Bool) (hx : rho l x = .int k a) (hy : rho l y = .int k b) (h : decide (a < b) = r) : Gives P S (.bool r) (execOp (rho l) ⟨dst, .binOp .lss t x y ct, ty, pos, after, gd⟩) := gives_value _ fun w => by
  subst h; simp [execOp, hx, hy, eqGuard, binOp, Op.intCmp]
theorem gives_leq {k : IntKind} (a b : Int) (r : Bool) (hx : rho l x = .int k a) (hy : rho l y = .int k b) (h : decide (a ≤ b) = r) : Gives P S (.bool r) (execOp (rho l) ⟨dst, .binOp .leq t x y ct, ty, pos, after, gd⟩) := gives_value _ fun w => by
  subst h; simp [execOp, hx, hy, eqGuard, binOp, Op.intCmp]
theorem gives_gtr {k : IntKind} (a b : Int) (r : Bool) (hx : rho l x = .int k a) (hy : rho l y = .int k b) (h : decide (b < a) = r) : Gives P S (.bool r) (execOp (rho l) ⟨dst, .binOp .gtr t x y ct, ty, pos, after, gd⟩) := gives_value _ fun w => by
  subst h; simp [execOp, hx, hy, eqGuard, binOp, Op.intCmp]
theorem gives_geq {k : IntKind} (a b : Int) (r : Bool) (hx : rho l x = .int k a) (hy : rho l y = .int k b) (h : decide (b ≤ a) = r) : Gives P S (.bool r) (execOp (rho l) ⟨dst, .binOp .geq t x y ct, ty, pos, after, gd⟩) := gives_value _ fun w => by
  subst h; simp [execOp, hx, hy, eqGuard, binOp, Op.intCmp]
theorem gives_ieq {k : IntKind} (a b : Int) (r : Bool) (hx : rho l x = .int k a) (hy : rho l y = .int k b) (h : decide (a = b) = r) : Gives P S (.bool r) (execOp (rho l) ⟨dst, .binOp .eql t x y ct, ty, pos, after, gd⟩) := gives_value _ fun w => by
  subst h
  have e : (a == b) = decide (a = b) := by by_cases h : a = b <;> simp [h]
  simp [execOp, hx, hy, eqGuard, binOp, Op.intCmp, e]
theorem gives_ine {k : IntKind} (a b : Int) (r : Bool) (hx : rho l x = .int k a) (hy : rho l y = .int k b) (h : decide (a ≠ b) = r) : Gives P S (.bool r) (execOp (rho l) ⟨dst, .binOp .neq t x y ct, ty, pos, after, gd⟩) := gives_value _ fun w => by
  subst h
  have e : (a != b) = decide (a ≠ b) := by by_cases h : a = b <;> simp [h]
  simp [execOp, hx, hy, eqGuard, binOp, Op.intCmp, e]
theorem gives_shl {k k2 : IntKind} (a b c : Int) (hx : rho l x = .int k a) (hy : rho l y = .int k2 b) (hb : 0 ≤ b) (h : k.wrap (a * 2 ^ (min b.toNat k.bits)) = c) : Gives P S (.int k c) (execOp (rho l) ⟨dst, .binOp .shl t x y ct, ty, pos, after, gd⟩) := gives_value _ fun w => by
  have hb' : ¬ b < 0 := by omega
  simp [execOp, hx, hy, eqGuard, binOp, Op.shift, hb', h]
theorem gives_shr {k k2 : IntKind} (a b c : Int) (hx : rho l x = .int k a) (hy : rho l y = .int k2 b) (hb : 0 ≤ b) (h : a.fdiv (2 ^ (min b.toNat k.bits)) = c) : Gives P S (.int k c) (execOp (rho l) ⟨dst, .binOp .shr t x y ct, ty, pos, after, gd⟩) := gives_value _ fun w => by
  have hb' : ¬ b < 0 := by omega
  simp [execOp, hx, hy, eqGuard, binOp, Op.shift, hb', h]
theorem gives_and {k : IntKind} (a b c : Int) (hx : rho l x = .int k a) (hy : rho l y = .int k b) (h : k.wrap (((a % 2 ^ k.bits).toNat &&& (b % 2 ^ k.bits).toNat : Nat) : Int) = c) : Gives P S (.int k c) (execOp (rho l) ⟨dst, .binOp .and t x y ct, ty, pos, after, gd⟩) := gives_value _ fun w => by
  simp only [execOp, hx, hy, eqGuard, binOp, Op.intBits]
  simp [h]
theorem gives_or {k : IntKind} (a b c : Int) (hx : rho l x = .int k a) (hy : rho l y = .int k b) (h : k.wrap (((a % 2 ^ k.bits).toNat ||| (b % 2 ^ k.bits).toNat : Nat) : Int) = c) : Gives P S (.int k c) (execOp (rho l) ⟨dst, .binOp .or t x y ct, ty, pos, after, gd⟩) := gives_value _ fun w => by
  simp only [execOp, hx, hy, eqGuard, binOp, Op.intBits]
  simp [h]
theorem gives_conv {k k2 : IntKind} {src dt : TypeId} {d1 : TypeDesc} (a c : Int) (hx : rho l x = .int k a) (hs : P.underlying src = some d1) (hd : P.underlying dt = some (.int k2)) (h : k2.wrap a = c) : Gives P S (.int k2 c) (execOp (rho l) ⟨dst, .convert src dt x, ty, pos, after, gd⟩) := gives_value _ fun w => by
  subst h
  cases d1 <;> simp [execOp, hx, convert, run_underlying hs, run_underlying hd, Conv.intToInt]
theorem gives_len {e : TypeId} (A : Option Addr) (m c : Nat) (ht : P.underlying t = some (.slice e)) (hx : rho l x = .slice A m c) : Gives P S (.int .i64 m) (execOp (rho l) ⟨dst, .call { callee := .builtin .len, args := #[x], argTypes := #[t] }, ty, pos, after, gd⟩) := gives_value _ fun w => by
  simp [execOp, resolve, invoke, builtin, hx, Builtin.len_, Builtin.lenOf, run_underlying ht, goInt]
/-! ### Elements of one cell -/
theorem gives_index {e : TypeId} {k : IntKind} (g o m c : Nat) (i : Int) (j : Nat) (hx : rho l x = .slice (some ⟨g, o, none⟩) m c) (hy : rho l y = .int k i) (ht : P.underlying t = some (.slice e)) (hs : (P.info? e).map (·.size) = some 1) (h0 : i = (j : Int)) (h1 : j < m) :
    Gives P S (.pointer (some ⟨g, o + j, none⟩)) (execOp (rho l) ⟨dst, .indexAddr t x y, ty, pos, after, gd⟩) := gives_value _ fun w => by
  subst h0
  obtain ⟨ie, he, hz⟩ := Option.map_eq_some_iff.1 hs
  simp [execOp, hx, hy, Instr.indexAt, run_underlying ht, asIntOf, sizeOf, typeInfo, he, hz, h1, add_plain]
theorem gives_load1 {k : IntKind} (g o : Nat) (e : TypeId) (cs : Array Value) (u : Value) (hx : rho l x = .pointer (some ⟨g, o, none⟩)) (hB : ∀ w, S w → Blk w g e cs) (hu : cs[o]? = some u) (ht : P.underlying t = some (.int k)) :
    Gives P S u (execOp (rho l) ⟨dst, .load t x, ty, pos, after, gd⟩) := fun w hS => by
  refine .inl ⟨w, ?_, Below.refl _ _⟩
  have hb := (hB w hS).cell o
  rw [hu] at hb
  simp [execOp, hx, Instr.loadAt, Instr.sureAddr, loadVar, isAgg, run_underlying ht, hb]
/-- A load of a cell that is as it was when the function was called. -/
theorem gives_load_old {k : IntKind} (p : Addr) (u : Value) (hx : rho l x = .pointer (some p)) (hB : ∀ w, S w → w.cell? p = some u) (ht : P.underlying t = some (.int k)) :
    Gives P S u (execOp (rho l) ⟨dst, .load t x, ty, pos, after, gd⟩) := fun w hS => by
  refine .inl ⟨w, ?_, Below.refl _ _⟩
  simp [execOp, hx, Instr.loadAt, Instr.sureAddr, loadVar, isAgg, run_underlying ht, hB w hS]
theorem gives_index_old {e : TypeId} {k : IntKind} (A : Option Addr) (m c : Nat) (i : Int) (j b o : Nat) (hA : A = some ⟨b, o, none⟩) (hx : rho l x = .slice A m c) (hy : rho l y = .int k i) (ht : P.underlying t = some (.slice e)) (hs : (P.info? e).map (·.size) = some 1) (h0 : i = (j : Int)) (h1 : j < m) :
    Gives P S (.pointer (some ⟨b, o + j, none⟩)) (execOp (rho l) ⟨dst, .indexAddr t x y, ty, pos, after, gd⟩) := by
  subst hA
  exact gives_index b o m c i j hx hy ht hs h0 h1
theorem run_store1_exec {w : World} (g o : Nat) (e : TypeId) (old : Array Value) (u : Value) (hx : rho l x = .pointer (some ⟨g, o, none⟩)) (hy : rho l y = u) (h1 : u.oneCell' = true) (hb : Blk w g e old) (hi : (P.info? t).map (·.size) = some 1) (ho : o < old.size) :
    ∃ w', (execOp (rho l) ⟨dst, .store t x y, ty, pos, after, gd⟩).run P w = .ok .skip w' ∧ Blk w' g e (old.setIfInBounds o u) ∧ w.grownBy w' (some g) := by
  have hc : u.cells = #[u] := by cases u <;> first | rfl | cases h1
  have h := run_storeCells_at (P := P) g o e [u] 0 old w hb (by simp; omega) (fun v hv => by simp at hv; subst hv; exact h1)
  obtain ⟨ie, he, hz⟩ := Option.map_eq_some_iff.1 hi
  have hcs : (old.toList.take (o + 0) ++ [u] ++ old.toList.drop (o + 0 + [u].length)).toArray = old.setIfInBounds o u := by
    apply Array.ext_getElem?
    intro j
    rw [Array.getElem?_setIfInBounds]
    simp only [Nat.add_zero, List.length_singleton, List.getElem?_toArray, List.append_assoc, List.singleton_append]
    rw [List.getElem?_append]
    simp only [List.length_take, Array.length_toList]
    rcases Nat.lt_trichotomy j o with h2 | h2 | h2
    · rw [if_pos (by omega), if_neg (by omega), List.getElem?_take, if_pos h2]; simp
    · subst h2
      rw [if_neg (by omega), if_pos rfl, if_pos ho, Nat.min_eq_left (by omega), Nat.sub_self]; rfl
    · rw [if_neg (by omega), if_neg (by omega), Nat.min_eq_left (by omega)]
      obtain ⟨q, rfl⟩ : ∃ q, j = o + 1 + q := ⟨j - o - 1, by omega⟩
      rw [show o + 1 + q - o = q + 1 by omega, List.getElem?_cons_succ, List.getElem?_drop]
      simp
  rw [hcs] at h
  refine ⟨w.setRow g (old.setIfInBounds o u), by simp [execOp, hx, hy, Instr.storeAt, Instr.sureAddr, storeVar, hc, sizeOf, typeInfo, he, hz, h], setRow_heap w g _ _ e _ hb, setRow_only _⟩
theorem L_store1 {i : Nat} {il : List Nat} (k g o : Nat) (e : TypeId) (old : Array Value) (u : Value) (hi : ops[i]? = some ⟨none, .store t x y, ty, pos, after, none⟩) (hl : inFr n sl = true)
    (hx : rho sl x = .pointer (some ⟨g, o, none⟩)) (hy : rho sl y = u) (h1 : u.oneCell' = true) (hk : L[k]? = some (g, e, old)) (hsz : (P.info? t).map (·.size) = some 1) (ho : o < old.size)
    (h : wpL P ops R il (fr n sl) (Hbl v (L.set k (g, e, old.setIfInBounds o u)))) : wpL P ops R (i :: il) (fr n sl) (Hbl v L) := fun w hS => by
  obtain ⟨w', hr, hb, hg⟩ := run_store1_exec (P := P) (dst := none) (ty := ty) (pos := pos) (after := after) (gd := none) g o e old u hx hy h1 (hS.blk k hk) hsz ho
  exact wpOp_run hi rfl (.inr ⟨rfl, by rw [fr_eval n sl hl]; exact hr⟩) ⟨_, Hbl.stays v _, hS.store k hk _ hb hg, h⟩
theorem F_store1 {i fuel : Nat} {listed : Array Bool} (k g o : Nat) (e : TypeId) (old : Array Value) (u : Value) (hi : ops[i]? = some ⟨none, .store t x y, ty, pos, after, none⟩) (hl : inFr n sl = true)
    (hx : rho sl x = .pointer (some ⟨g, o, none⟩)) (hy : rho sl y = u) (h1 : u.oneCell' = true) (hk : L[k]? = some (g, e, old)) (hsz : (P.info? t).map (·.size) = some 1) (ho : o < old.size)
    (hs : i ∈ late ∨ L0.Sublist (L.set k (g, e, old.setIfInBounds o u))) (h : wpF P .any ops late R (Hbl v L0) fuel (listed.setIfInBounds i true) (fr n sl) (Hbl v (L.set k (g, e, old.setIfInBounds o u)))) :
    ∀ w, Hbl v L w → wpOp P ops (Nrm R) i (fun a' w' => ∃ S', (i ∈ late ∨ Ext (Hbl v L0) S') ∧ S' w' ∧ wpF P .any ops late R (Hbl v L0) fuel (listed.setIfInBounds i true) a' S') (fr n sl) w := fun w hS => by
  obtain ⟨w', hr, hb, hg⟩ := run_store1_exec (P := P) (dst := none) (ty := ty) (pos := pos) (after := after) (gd := none) g o e old u hx hy h1 (hS.blk k hk) hsz ho
  exact wpOp_run hi rfl (.inr ⟨rfl, by rw [fr_eval n sl hl]; exact hr⟩) ⟨_, hs.imp id Ext.of_sub, hS.store k hk _ hb hg, h⟩
theorem L_make {i d : Nat} {il : List Nat} {e : TypeId} {y : Operand} (m : Nat) (z : Value) (bytes : Nat) {k k2 : IntKind} (hi : ops[i]? = some ⟨some d, .makeSlice t x y, ty, pos, after, none⟩) (hl : inFr n sl = true) (ht : P.underlying t = some (.slice e))
    (hinfo : (P.info? e).map (fun i => (i.zero, i.size, i.bytes)) = some (some z, 1, bytes)) (hz1 : z.cells = #[z]) (hx : rho sl x = .int k (m : Int)) (hy : rho sl y = .int k2 (m : Int)) (hbytes : bytes * m ≤ 281474976710656) (h63 : m ≤ 9223372036854775807)
    (h : ∀ g, wpL P ops R il (fr n ((d, .slice (some ⟨g, 0, none⟩) m m) :: sl)) (Hbl v ((g, e, Array.replicate m z) :: L))) : wpL P ops R (i :: il) (fr n sl) (Hbl v L) := fun w hS => by
  have hrun := run_make_row' (P := P) t e z bytes ht hinfo hz1 k k2 m hbytes h63 w
  rw [madeCells_one] at hrun
  refine wpOp_run (w' := w.alloc (.cells (Array.replicate m z) e)) hi rfl (.inl (by rw [fr_eval n sl hl]; simp only [execOp, hx, hy, Sem.run_bind, hrun, Result.andThen_ok, Sem.run_pure])) ⟨_, Hbl.stays v _, hS.alloc e (Array.replicate m z), h _⟩
/-- '[]T{u}' and '[]T{}'. -/
theorem L_build1 {i d : Nat} {il : List Nat} {e : TypeId} {p : Operand} (u z : Value) (hi : ops[i]? = some ⟨some d, .buildSlice t 1 #[(0, p)], ty, pos, after, none⟩) (hl : inFr n sl = true) (ht : P.underlying t = some (.slice e))
    (hinfo : (P.info? e).map (fun i => (i.zero, i.size)) = some (some z, 1)) (hz1 : z.cells = #[z]) (hx : rho sl p = u) (h1 : u.oneCell' = true)
    (h : ∀ g, wpL P ops R il (fr n ((d, .slice (some ⟨g, 0, none⟩) 1 1) :: sl)) (Hbl v ((g, e, #[u]) :: L))) : wpL P ops R (i :: il) (fr n sl) (Hbl v L) := fun w hS => by
  obtain ⟨ie, he, hz⟩ := Option.map_eq_some_iff.1 hinfo
  simp only [Prod.mk.injEq] at hz
  have hc : u.cells = #[u] := by cases u <;> first | rfl | cases h1
  have hrun : (Instr.buildSlice t 1 (#[(0, p)].map fun x => (x.1, rho sl x.2))).run P w = .ok (.slice (some ⟨w.heap.size, 0, none⟩) 1 1) (w.alloc (.cells #[u] e)) := by
    refine run_buildSlice w t e 1 _ #[u] ie z ht he hz.1 (by rw [hz.2]; decide) (by rw [hz.2]; decide) ?_
    rw [hz.2, hz1]
    simp only [Instr.fill, List.map_toArray, List.map_cons, List.map_nil, hx, hc]
    have e1 : (Array.range (1 * 1)).map (fun x => (#[z] : Array Value)[x % (#[z] : Array Value).size]!) = #[z] := by
      apply Array.ext
      · simp
      · intro i h1 h2
        obtain rfl : i = 0 := by simp at h2; omega
        simp
    rw [e1]
    simp
  refine wpOp_run (w' := w.alloc (.cells #[u] e)) hi rfl (.inl (by rw [fr_eval n sl hl]; simp only [execOp, Sem.run_bind]; rw [hrun]; rfl)) ⟨_, Hbl.stays v _, hS.alloc e #[u], h _⟩
theorem L_build0 {i d : Nat} {il : List Nat} {e : TypeId} (sz : Nat) (hi : ops[i]? = some ⟨some d, .buildSlice t 0 #[], ty, pos, after, none⟩) (hl : inFr n sl = true) (ht : P.underlying t = some (.slice e)) (hinfo : (P.info? e).map (·.size) = some sz)
    (h : ∀ g, wpL P ops R il (fr n ((d, .slice (some ⟨g, 0, none⟩) 0 0) :: sl)) (Hbl v ((g, e, #[]) :: L))) : wpL P ops R (i :: il) (fr n sl) (Hbl v L) := fun w hS => by
  obtain ⟨ie, he, hz⟩ := Option.map_eq_some_iff.1 hinfo
  have hrun : (Instr.buildSlice t 0 ((#[] : Array (Nat × Operand)).map fun x => (x.1, rho sl x.2))).run P w = .ok (.slice (some ⟨w.heap.size, 0, none⟩) 0 0) (w.alloc (.cells #[] e)) := by
    have e0 : ∀ f : Nat → Value, (Array.range 0).map f = #[] := fun f => Array.eq_empty_of_size_eq_zero (by simp)
    simp [Instr.buildSlice, run_underlying ht, sizeOf, typeInfo, zeroValue, he, Instr.fill, newRow, newObj]
    rw [e0]
    rfl
  refine wpOp_run (w' := w.alloc (.cells #[] e)) hi rfl (.inl (by rw [fr_eval n sl hl]; simp only [execOp, Sem.run_bind]; rw [hrun]; rfl)) ⟨_, Hbl.stays v _, hS.alloc e #[], h _⟩
/-- append of a slice of one's own, of one-cell elements, to another; the block of the longer one may be another. -/
theorem L_append {i d : Nat} {il : List Nat} {e : TypeId} (k k2 g g2 m cap c2 bytes : Nat) (z u : Value) (cs : Array Value) (hi : ops[i]? = some ⟨some d, .call { callee := .builtin .append, args := #[x, y], argTypes := #[t, t] }, ty, pos, after, none⟩) (hl : inFr n sl = true)
    (ht : P.underlying t = some (.slice e)) (hinfo : (P.info? e).map (fun i => (i.zero, i.size, i.bytes)) = some (some z, 1, bytes)) (hzs : z.cells.size = 1) (hx : rho sl x = .slice (some ⟨g, 0, none⟩) m cap) (hy : rho sl y = .slice (some ⟨g2, 0, none⟩) 1 c2)
    (hk : L[k]? = some (g, e, cs)) (hk2 : L[k2]? = some (g2, e, #[u])) (h1 : u.oneCell' = true) (hm : m ≤ cap) (hcs : cs.size = cap) (hcap : cap ≤ 9223372036854775807) (h63 : m + 1 ≤ 9223372036854775807) (hbytes : (m + 1) * bytes ≤ 140737488355328) (L' : List (Nat × TypeId × Array Value)) (hL : L.eraseIdx k = L')
    (h : ∀ g' cap' cs', m + 1 ≤ cap' → cs'.size = cap' → cap' ≤ 9223372036854775807 → cs'.toList.take (m + 1) = cs.toList.take m ++ [u] → wpL P ops R il (fr n ((d, .slice (some ⟨g', 0, none⟩) (m + 1) cap') :: sl)) (Hbl v ((g', e, cs') :: L'))) :
    wpL P ops R (i :: il) (fr n sl) (Hbl v L) := fun w hS => by
  subst hL
  have hB := hS.blk k hk
  have hB2 := hS.blk k2 hk2
  have hown : w.ownsRow v.heap.size e 1 (.slice (some ⟨g, 0, none⟩) m cap) m (cs.toList.take m) := hB.owns ((hS.2.1 _ (List.mem_of_getElem? hk)).2) hm hcs hcap
  have hr : Reads w w.heap.size (some ⟨g2, 0, none⟩) 1 [u] := by
    have := hB2.reads hB2.lt 0 1 (by simp)
    simpa using this
  obtain ⟨v', w', hrun, h2, h3, h4⟩ := run_append_reads (P := P) w v.heap.size t ty e z bytes ht hinfo hzs _ m _ hown w.heap.size (some ⟨g2, 0, none⟩) 1 c2 [u] hr (by simpa using h1) h63 hbytes hS.1.size
  obtain ⟨g', cap', cs', rfl, hg', hb', hc1, hc2, hc3, hc4⟩ := owns_blk h2 (by omega)
  have hkl : k < L.length := (List.getElem?_eq_some_iff.1 hk).1
  have hnd := hS.2.2
  have hmem : ∀ q ∈ L.eraseIdx k, q ∈ L ∧ q.1 ≠ g := fun q hq => by
    obtain ⟨j, hj, hjk, hjq⟩ := List.mem_eraseIdx_iff_getElem.1 hq
    refine ⟨hjq ▸ List.getElem_mem hj, fun e => hjk ?_⟩
    have e1 : (L.map (·.1))[j]? = (L.map (·.1))[k]? := by
      rw [List.getElem?_map, List.getElem?_map, hk, List.getElem?_eq_getElem hj, hjq]; simp [e]
    exact (List.getElem?_inj (by simpa using hj) hnd).1 e1
  have hnew : g' = g ∨ g' = w.heap.size := by
    rcases h4 with e | e
    · left; simpa [Value.ownBlock] using e
    · right; simpa [Value.ownBlock] using e
  refine wpOp_run (w' := w') hi rfl (.inl (by rw [fr_eval n sl hl]; simp [execOp, resolve, invoke, builtin, hx, hy, hrun])) ⟨_, Hbl.stays v _, ?_, h g' cap' cs' hc1 hc2 hc4 hc3⟩
  refine ⟨hS.1.grown h3 hS.1.size (fun i hi => by cases hi; exact (hS.2.1 _ (List.mem_of_getElem? hk)).2), fun q hq => ?_, ?_⟩
  · rcases List.mem_cons.1 hq with rfl | hq
    · exact ⟨hb', hg'⟩
    · obtain ⟨h5, h6⟩ := hmem q hq
      exact ⟨(hS.2.1 q h5).1.grown h3 (by simp [Value.ownBlock]; exact h6), (hS.2.1 q h5).2⟩
  · simp only [List.map_cons, List.nodup_cons]
    refine ⟨fun hm => ?_, ((List.eraseIdx_sublist L k).map _).nodup hnd⟩
    obtain ⟨q, hq, he⟩ := List.mem_map.1 hm
    obtain ⟨h5, h6⟩ := hmem q hq
    rcases hnew with e | e
    · exact h6 (he.trans e)
    · have := (hS.2.1 q h5).1.lt
      omega
end
end Go.Proofs.YtclfmdaafpachaaDoor
