/-
  What reading points out of bytes wants of single operations: bits of bytes, slices from a place on, functions as values, a struct of a number, a function and an element.
-/
import Derived.Test.YtifnnckbcjafgabGreatDoorUA3
namespace Go.Proofs.YtifnnckbcjafgabGreatDoor
set_option linter.unusedSimpArgs false
set_option linter.unusedVariables false
open Go.RowKit
section
variable {P : Program} {S : World → Prop} {l : List (Nat × Value)} {dst : Option Nat} {x y : Operand} {t ty ct : TypeId} {pos : String} {after : Array Edge} {gd : Option (Nat × Bool)}
theorem gives_andNot {k : IntKind} (a b c : Int) (hx : rho l x = .int k a) (hy : rho l y = .int k b) (h : k.wrap (((BitVec.ofInt k.bits a &&& ~~~BitVec.ofInt k.bits b).toNat : Nat) : Int) = c) : Gives P S (.int k c) (execOp (rho l) ⟨dst, .binOp .andNot t x y ct, ty, pos, after, gd⟩) := gives_value _ fun w => by
  simp only [execOp, hx, hy, eqGuard, binOp, Op.intBits]
  simp only [h]
  simp
/-- Bytes and their bits: all 256 of them are gone through. -/
theorem byte_all (p : Nat → Bool) (h : ((List.range 256).all p) = true) (u : Int) (h0 : 0 ≤ u) (h1 : u < 256) : p u.toNat = true := by
  have := List.all_eq_true.1 h u.toNat (List.mem_range.2 (by omega))
  exact this
def bitsB (m : Nat) (f : Nat → Nat) : Bool := (List.range 256).all fun n => n &&& m == f n
theorem and_byte (m : Nat) (hm : m < 256) (f : Nat → Nat) (h : bitsB m f = true) (u : Int) (h0 : 0 ≤ u) (h1 : u < 256) (hf : f u.toNat < 256) :
    IntKind.u8.wrap (((u % 2 ^ IntKind.u8.bits).toNat &&& ((m : Int) % 2 ^ IntKind.u8.bits).toNat : Nat) : Int) = (f u.toNat : Int) := by
  have e : (2 : Int) ^ IntKind.u8.bits = 256 := by decide
  have e1 : (u % 2 ^ IntKind.u8.bits).toNat = u.toNat := by rw [e]; omega
  have e2 : ((m : Int) % 2 ^ IntKind.u8.bits).toNat = m := by rw [e]; omega
  rw [e1, e2]
  have := byte_all _ h u h0 h1
  simp only [beq_iff_eq] at this
  rw [this]
  simp [IntKind.wrap, IntKind.bits, IntKind.signed]
  omega
theorem and_224 (u : Int) (h0 : 0 ≤ u) (h1 : u < 256) : IntKind.u8.wrap (((u % 2 ^ IntKind.u8.bits).toNat &&& ((224 : Int) % 2 ^ IntKind.u8.bits).toNat : Nat) : Int) = 32 * (u / 32) := by
  have := and_byte 224 (by omega) (fun n => 32 * (n / 32)) (by decide +kernel) u h0 h1 (by omega)
  rw [show ((224 : Int)) = ((224 : Nat) : Int) from rfl, this]
  omega
theorem and_64 (u : Int) (h0 : 0 ≤ u) (h1 : u < 256) : IntKind.u8.wrap (((u % 2 ^ IntKind.u8.bits).toNat &&& ((64 : Int) % 2 ^ IntKind.u8.bits).toNat : Nat) : Int) = 64 * (u / 64 % 2) := by
  have := and_byte 64 (by omega) (fun n => 64 * (n / 64 % 2)) (by decide +kernel) u h0 h1 (by omega)
  rw [show ((64 : Int)) = ((64 : Nat) : Int) from rfl, this]
  omega
theorem and_32 (u : Int) (h0 : 0 ≤ u) (h1 : u < 256) : IntKind.u8.wrap (((u % 2 ^ IntKind.u8.bits).toNat &&& ((32 : Int) % 2 ^ IntKind.u8.bits).toNat : Nat) : Int) = 32 * (u / 32 % 2) := by
  have := and_byte 32 (by omega) (fun n => 32 * (n / 32 % 2)) (by decide +kernel) u h0 h1 (by omega)
  rw [show ((32 : Int)) = ((32 : Nat) : Int) from rfl, this]
  omega
theorem and_31b (u : Int) (h0 : 0 ≤ u) (h1 : u < 256) : IntKind.u8.wrap (((u % 2 ^ IntKind.u8.bits).toNat &&& ((31 : Int) % 2 ^ IntKind.u8.bits).toNat : Nat) : Int) = u % 32 := by
  have := and_byte 31 (by omega) (fun n => n % 32) (by decide +kernel) u h0 h1 (by omega)
  rw [show ((31 : Int)) = ((31 : Nat) : Int) from rfl, this]
  omega
theorem clear_224 (u : Int) (h0 : 0 ≤ u) (h1 : u < 256) : IntKind.u8.wrap (((BitVec.ofInt IntKind.u8.bits u &&& ~~~BitVec.ofInt IntKind.u8.bits 224).toNat : Nat) : Int) = u % 32 := by
  have h : ((List.range 256).all fun n => (BitVec.ofInt IntKind.u8.bits (n : Int) &&& ~~~BitVec.ofInt IntKind.u8.bits 224).toNat == n % 32) = true := by decide +kernel
  have := byte_all _ h u h0 h1
  simp only [beq_iff_eq] at this
  have e : ((u.toNat : Nat) : Int) = u := by omega
  rw [e] at this
  rw [this]
  simp [IntKind.wrap, IntKind.bits, IntKind.signed]
  omega
/-- or of two bytes: a byte, and nought just if both are. -/
theorem cb_or (u w : Int) (h0 : 0 ≤ u) (h1 : u < 256) (k0 : 0 ≤ w) (k1 : w < 256) : ∃ c, IntKind.u8.wrap (((u % 2 ^ IntKind.u8.bits).toNat ||| (w % 2 ^ IntKind.u8.bits).toNat : Nat) : Int) = c ∧ 0 ≤ c ∧ c < 256 ∧ (c = 0 ↔ u = 0 ∧ w = 0) := by
  have e : (2 : Int) ^ IntKind.u8.bits = 256 := by decide
  have e1 : (u % 2 ^ IntKind.u8.bits).toNat = u.toNat := by rw [e]; omega
  have e2 : (w % 2 ^ IntKind.u8.bits).toNat = w.toNat := by rw [e]; omega
  have hl : u.toNat ||| w.toNat < 2 ^ 8 := Nat.or_lt_two_pow (by omega) (by omega)
  have h2 : 2 ^ 8 = 256 := rfl
  refine ⟨((u.toNat ||| w.toNat : Nat) : Int), ?_, by omega, by omega, ?_⟩
  · rw [e1, e2]
    simp [IntKind.wrap, IntKind.bits, IntKind.signed]
    omega
  · rw [show (((u.toNat ||| w.toNat : Nat) : Int) = 0) ↔ (u.toNat ||| w.toNat) = 0 by omega, Nat.or_eq_zero_iff]
    omega
/-- A slice from a place on, that is not its end. -/
theorem gives_slice_from {e : TypeId} {k : IntKind} (A : Option Addr) (m c j : Nat) (i : Int) (hx : rho l x = .slice A m c) (hy : rho l y = .int k i) (ht : P.underlying t = some (.slice e)) (hs : (P.info? e).map (·.size) = some 1) (h0 : i = (j : Int)) (h1 : j ≤ m) (h2 : j < c) :
    Gives P S (.slice (A.map (·.add j)) (m - j) (c - j)) (execOp (rho l) ⟨dst, .slice t x (some y) none none, ty, pos, after, gd⟩) := gives_value _ fun w => by
  subst h0
  obtain ⟨ie, he, hz⟩ := Option.map_eq_some_iff.1 hs
  have hne : ¬ c = j := by omega
  simp [execOp, hx, hy, Instr.sliceAt, Instr.slice, Instr.sliceBounds, Instr.sliceBound, run_underlying ht, asIntOf, sizeOf, typeInfo, he, hz, h1, hne]
/-- A field that is no struct and no array. -/
theorem gives_loadV {d : TypeDesc} {e : TypeId} (g o : Nat) (cs : Array Value) (u : Value) (hx : rho l x = .pointer (some ⟨g, o, none⟩)) (hB : ∀ w, S w → Blk w g e cs) (hu : cs[o]? = some u) (ht : P.underlying t = some d) (hd : (match d with | .struct _ | .array _ _ => false | _ => true) = true) :
    Gives P S u (execOp (rho l) ⟨dst, .load t x, ty, pos, after, gd⟩) := fun w hS => by
  refine .inl ⟨w, ?_, Below.refl _ _⟩
  have hb := (hB w hS).cell o
  rw [hu] at hb
  cases d <;> simp_all [execOp, Instr.loadAt, Instr.sureAddr, loadVar, isAgg, run_underlying ht]
/-- A call of a function that is a value. -/
theorem gives_callT {f : FuncId} {q : Nat} {args : Array Operand} {ats : Array TypeId} {g : Option (Nat × Bool)} {vl : List Value} {u : Value} (hq : look l q = .func (.func f) #[] #[])
    (hf : (P.funcs[f]?).map (fun fn => (fn.name == "runtime.NumGoroutine", fn.body.isNone)) = some (false, false)) (ha : args.toList.map (rho l) = vl) (h : ∀ w, S w → Calls P f vl.toArray w fun e w' => e = .returned u ∧ Below w.heap.size w w') :
    Gives P S u (execOp (rho l) ⟨dst, .call { callee := .value (.tmp q), args := args, argTypes := ats }, ty, pos, after, g⟩) := fun w hS =>
  .inr ⟨f, vl.toArray, by
    have ha : args.map (rho l) = vl.toArray := by rw [← ha, ← Array.toList_map, Array.toArray_toList]
    obtain ⟨fn, h1, h2⟩ := Option.map_eq_some_iff.1 hf
    simp only [Prod.mk.injEq, beq_eq_false_iff_ne, ne_eq, Option.isNone_eq_false_iff] at h2
    have h3 : fn.body ≠ none := by intro e; simp [e] at h2
    simp [execOp, resolve, rho, hq, Deferred.ofValue, invoke, ha, callFunc, h1, h2.1, h3], h w hS⟩
end
end Go.Proofs.YtifnnckbcjafgabGreatDoor
