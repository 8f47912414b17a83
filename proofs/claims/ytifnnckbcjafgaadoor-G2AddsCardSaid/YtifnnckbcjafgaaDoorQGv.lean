/-
  Small numbers of times.
-/
import Derived.Test.YtifnnckbcjafgaaDoorQGw
namespace Go.Proofs.YtifnnckbcjafgaaDoor
set_option linter.unusedSimpArgs false
set_option linter.unusedVariables false
set_option linter.unusedSectionVars false
open Go.RowKit
section
variable {P : Program} {ops : Array Oper} {R : Act → World → Prop} {v : World} {L : List (Nat × TypeId × Array Value)} {n : Nat} {sl : List (Nat × Value)}
/-- A call whose value is one of two things' making. -/
theorem L_callE {A B : Type} {i d : Nat} {l : List Nat} {f : FuncId} {args : Array Operand} {ats : Array TypeId} {ty : TypeId} {pos : String} {after : Array Edge} {gd : Option (Nat × Bool)} {vl : List Value} (val : A → B → Value) (Q : A → B → Prop)
    (hi : ops[i]? = some ⟨some d, .call { callee := .value (.func f), args := args, argTypes := ats }, ty, pos, after, gd⟩) (hl : inFr n sl = true) (hw : Want ops n sl gd) (hf : (Tryd.prog.funcs[f]?).map (fun fn => (fn.name == "runtime.NumGoroutine", fn.body.isNone)) = some (false, false))
    (ha : args.toList.map (rho sl) = vl) (hc : ∀ w, Hbl v L w → Calls Tryd.prog f vl.toArray w fun e w' => ∃ a b, e = .returned (val a b) ∧ Q a b ∧ Below w.heap.size w w')
    (h : ∀ a b, Q a b → wpL Tryd.prog ops R l (fr n ((d, val a b) :: sl)) (Hbl v L)) : wpL Tryd.prog ops R (i :: l) (fr n sl) (Hbl v L) := fun w hS =>
  wpOp_call hi hl (hw ..) hf ha (hc w hS) fun e w' ⟨a, b, he, hq, hb⟩ => ⟨_, he, Hbl v L, Hbl.stays v _, Hbl.stays v L w w' hS hb, h a b hq⟩
end
theorem bfill3 (b0 b1 b2 : Int) : Instr.fill (fun i => some (i * 1, 1)) (Array.map (fun x => (Value.int IntKind.u8 0).cells[x % (Value.int IntKind.u8 0).cells.size]!) (Array.range (3 * 1)))
    [(0, Value.int IntKind.u8 b0), (1, Value.int IntKind.u8 b1), (2, Value.int IntKind.u8 b2)] = some (ag8 [b0, b1, b2]) := by
  have e : Array.map (fun x => (Value.int IntKind.u8 0).cells[x % (Value.int IntKind.u8 0).cells.size]!) (Array.range (3 * 1)) = Array.replicate 3 (.int .u8 0) := by kernel_rfl
  rw [e]
  simp [Instr.fill, ag8, Value.cells, Array.replicate]
section
variable {ops : Array Oper} {late : List Nat} {R : Act → World → Prop} {v : World} {L L0 : List (Nat × TypeId × Array Value)} {n : Nat} {sl : List (Nat × Value)}
theorem L_build3 {i d : Nat} {il : List Nat} {ty : TypeId} {pos : String} {after : Array Edge} {gd : Option (Nat × Bool)} {p0 p1 p2 : Operand} (b0 b1 b2 : Int)
    (hi : ops[i]? = some ⟨some d, .buildSlice 22 3 #[(0, p0), (1, p1), (2, p2)], ty, pos, after, gd⟩) (hl : inFr n sl = true) (hw : Want ops n sl gd) (h0 : rho sl p0 = .int .u8 b0) (h1 : rho sl p1 = .int .u8 b1) (h2 : rho sl p2 = .int .u8 b2)
    (h : ∀ g, wpL Tryd.prog ops R il (fr n ((d, .slice (some ⟨g, 0, none⟩) 3 3) :: sl)) (Hbl v ((g, 5, ag8 [b0, b1, b2]) :: L))) : wpL Tryd.prog ops R (i :: il) (fr n sl) (Hbl v L) := fun w hS => by
  obtain ⟨ie, he, hz⟩ := Option.map_eq_some_iff.1 u8_zs
  simp only [Prod.mk.injEq] at hz
  have hrun : (Instr.buildSlice 22 3 (#[(0, p0), (1, p1), (2, p2)].map fun x => (x.1, rho sl x.2))).run Tryd.prog w = .ok (.slice (some ⟨w.heap.size, 0, none⟩) 3 3) (w.alloc (.cells (ag8 [b0, b1, b2]) 5)) := by
    refine run_buildSlice w _ _ 3 _ _ ie (.int .u8 0) und_u8s he hz.1 (by rw [hz.2]; decide) (by rw [hz.2]; decide) ?_
    rw [hz.2]
    simp only [List.map_toArray, List.map_cons, List.map_nil, h0, h1, h2]
    exact bfill3 ..
  exact wpOp_runG (w' := w.alloc (.cells (ag8 [b0, b1, b2]) 5)) hi (hw ..) (by rw [fr_eval n sl hl]; simp only [execOp, Sem.run_bind]; rw [hrun]; rfl) ⟨_, Hbl.stays v _, hS.alloc 5 (ag8 [b0, b1, b2]), h _⟩
end
theorem Oct.nil : Oct [] := fun b hb => (List.not_mem_nil hb).elim
theorem and_31 (n : Int) (h0 : 0 ≤ n) (h : n < 256) : IntKind.u8.wrap (((n % 2 ^ IntKind.u8.bits).toNat &&& ((31 : Int) % 2 ^ IntKind.u8.bits).toNat : Nat) : Int) = n % 32 := by
  obtain ⟨u, rfl⟩ := Int.eq_ofNat_of_zero_le h0
  have e : ((u : Int) % 2 ^ IntKind.u8.bits).toNat = u := by
    have : (2 : Int) ^ IntKind.u8.bits = 256 := by decide
    rw [this]; omega
  have e2 : ((31 : Int) % 2 ^ IntKind.u8.bits).toNat = 2 ^ 5 - 1 := by decide
  rw [e, e2, Nat.and_two_pow_sub_one_eq_mod]
  simp [IntKind.wrap, IntKind.bits, IntKind.signed]
  omega
section
variable {K : Type} [Add K] [Sub K] [Neg K] [Mul K] [Zero K] [One K] [DecidableEq K] {inv : K → K} {b : K}
def gN (inv : K → K) : Nat → Pt K → Pt K
  | 0, _ => 0
  | n + 1, P => gAdd inv (gN inv n P) P
theorem gN_ec (E : EC inv b) (h0 : inv 0 = 0) {p : Pt K} (hp : OnC b p) : ∀ n, gN inv n p = ecN inv n p
  | 0 => rfl
  | n + 1 => by
    show gAdd inv (gN inv n p) p = ecAdd inv (ecN inv n p) p
    rw [gN_ec E h0 hp n, g_add E h0 (E.on_n hp n) hp]
theorem c_times (E : EC inv b) (h0 : inv 0 = 0) {p : Pt K} (hp : OnC b p) (x : Int) (k : Nat) (hx : 0 ≤ x ∧ x < 256) (hk : k = x.toNat) : gTimes inv p [x] = gN inv k p := by
  rw [g_times E h0 hp [x] (by intro c hc; simp at hc; omega), gN_ec E h0 hp, hk, show num [x] = x by simp [num]]
theorem c_times3 (E : EC inv b) (h0 : inv 0 = 0) {p : Pt K} (hp : OnC b p) (x : Int) (k : Nat) (hx : 0 ≤ x ∧ x < 256) (hk : k = x.toNat) : gTimes inv p [0, 0, x] = gN inv k p := by
  rw [g_times E h0 hp [0, 0, x] (by intro c hc; simp at hc; omega), gN_ec E h0 hp, hk, show num [0, 0, x] = x by simp [num]]
theorem c_times0 (E : EC inv b) (h0 : inv 0 = 0) {p : Pt K} (hp : OnC b p) : gTimes inv p [] = 0 := by
  rw [g_times E h0 hp [] (by intro c hc; simp at hc)]
  rfl
theorem c_mul (E : EC inv b) (h0 : inv 0 = 0) {p : Pt K} (hp : OnC b p) (x : Int) (k : Nat) (hx : 0 ≤ x ∧ x < 256) (hk : k = x.toNat) : gMul inv p x = gN inv k p := by
  rw [g_mul E h0 hp, gN_ec E h0 hp, hk, Int.emod_eq_of_lt hx.1 (Int.lt_trans hx.2 (by unfold Mr; decide))]
end
end Go.Proofs.YtifnnckbcjafgaaDoor
