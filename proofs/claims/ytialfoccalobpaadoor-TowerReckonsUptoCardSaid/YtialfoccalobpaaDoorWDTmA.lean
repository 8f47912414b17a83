/-
  Six numbers, power by power: the reference's product is the tower's.
-/
import Derived.Test.YtialfoccalobpaaDoorWDTw
namespace Go.Proofs.YtialfoccalobpaaDoor
set_option linter.unusedSimpArgs false
set_option linter.unusedVariables false
open Go.RowKit
/-- The six parts of a number of the twelfth degree. -/
def comp (x : T12) : Nat → F2
  | 0 => x.a.a
  | 1 => x.b.a
  | 2 => x.a.b
  | 3 => x.b.b
  | 4 => x.a.c
  | _ => x.b.c
def xi2 : F2 := F2.mk 1 1
/-- One product's worth: what place k holds behind it. -/
def mstep (f g : Nat → F2) (i j : Nat) (acc : Nat → F2) : Nat → F2 := fun k => if k = (i + j) % 6 then acc k + (if 6 ≤ i + j then f i * g j * xi2 else f i * g j) else acc k
def mrow (f g : Nat → F2) (i : Nat) (acc : Nat → F2) : Nat → Nat → F2
  | 0 => acc
  | j + 1 => mstep f g i j (mrow f g i acc j)
def mall (f g : Nat → F2) : Nat → Nat → F2
  | 0 => fun _ => 0
  | i + 1 => mrow f g i (mall f g i) 6
theorem up_xi (x : F2) : x * xi2 = x.up := by
  apply F2.same <;> simp only [F2.mul_a, F2.mul_b, F2.up_a, F2.up_b, xi2] <;> grind
theorem ad2 (a b : F2) : a + b = b + a := F2.rg.ac a b
/- THE SUM -/
section
variable {K : Type} [Add K] [Mul K] [Sub K] [Neg K] [Zero K] [One K]
theorem tm_k0 (h : RG K) (t0 t1 t2 t3 t4 t5 s : K) : (((((t0 + (t1 * s)) + (t2 * s)) + (t3 * s)) + (t4 * s)) + (t5 * s)) = ((t0 + ((t2 + t4) * s)) + (((t1 + t3) + t5) * s)) := by
  have e := rg_eq h (rgl [t0, t1, t2, t3, t4, t5, s]) [] (.add (.add (.add (.add (.add (.v 0) (.mul (.v 1) (.v 6))) (.mul (.v 2) (.v 6))) (.mul (.v 3) (.v 6))) (.mul (.v 4) (.v 6))) (.mul (.v 5) (.v 6))) (.add (.add (.v 0) (.mul (.add (.v 2) (.v 4)) (.v 6))) (.mul (.add (.add (.v 1) (.v 3)) (.v 5)) (.v 6))) (by decide +kernel) (by
    intro x hx
    cases hx)
  simp only [RE.ev] at e
  exact e
theorem tm_k1 (h : RG K) (t0 t1 t2 t3 t4 t5 s : K) : (((((t0 + t1) + (t2 * s)) + (t3 * s)) + (t4 * s)) + (t5 * s)) = ((t0 + ((t2 + t4) * s)) + (t1 + ((t3 + t5) * s))) := by
  have e := rg_eq h (rgl [t0, t1, t2, t3, t4, t5, s]) [] (.add (.add (.add (.add (.add (.v 0) (.v 1)) (.mul (.v 2) (.v 6))) (.mul (.v 3) (.v 6))) (.mul (.v 4) (.v 6))) (.mul (.v 5) (.v 6))) (.add (.add (.v 0) (.mul (.add (.v 2) (.v 4)) (.v 6))) (.add (.v 1) (.mul (.add (.v 3) (.v 5)) (.v 6)))) (by decide +kernel) (by
    intro x hx
    cases hx)
  simp only [RE.ev] at e
  exact e
theorem tm_k2 (h : RG K) (t0 t1 t2 t3 t4 t5 s : K) : (((((t0 + t1) + t2) + (t3 * s)) + (t4 * s)) + (t5 * s)) = (((t0 + t2) + (t4 * s)) + (t1 + ((t3 + t5) * s))) := by
  have e := rg_eq h (rgl [t0, t1, t2, t3, t4, t5, s]) [] (.add (.add (.add (.add (.add (.v 0) (.v 1)) (.v 2)) (.mul (.v 3) (.v 6))) (.mul (.v 4) (.v 6))) (.mul (.v 5) (.v 6))) (.add (.add (.add (.v 0) (.v 2)) (.mul (.v 4) (.v 6))) (.add (.v 1) (.mul (.add (.v 3) (.v 5)) (.v 6)))) (by decide +kernel) (by
    intro x hx
    cases hx)
  simp only [RE.ev] at e
  exact e
theorem tm_k3 (h : RG K) (t0 t1 t2 t3 t4 t5 s : K) : (((((t0 + t1) + t2) + t3) + (t4 * s)) + (t5 * s)) = (((t0 + t2) + (t4 * s)) + ((t1 + t3) + (t5 * s))) := by
  have e := rg_eq h (rgl [t0, t1, t2, t3, t4, t5, s]) [] (.add (.add (.add (.add (.add (.v 0) (.v 1)) (.v 2)) (.v 3)) (.mul (.v 4) (.v 6))) (.mul (.v 5) (.v 6))) (.add (.add (.add (.v 0) (.v 2)) (.mul (.v 4) (.v 6))) (.add (.add (.v 1) (.v 3)) (.mul (.v 5) (.v 6)))) (by decide +kernel) (by
    intro x hx
    cases hx)
  simp only [RE.ev] at e
  exact e
theorem tm_k4 (h : RG K) (t0 t1 t2 t3 t4 t5 s : K) : (((((t0 + t1) + t2) + t3) + t4) + (t5 * s)) = (((t0 + t2) + t4) + ((t1 + t3) + (t5 * s))) := by
  have e := rg_eq h (rgl [t0, t1, t2, t3, t4, t5, s]) [] (.add (.add (.add (.add (.add (.v 0) (.v 1)) (.v 2)) (.v 3)) (.v 4)) (.mul (.v 5) (.v 6))) (.add (.add (.add (.v 0) (.v 2)) (.v 4)) (.add (.add (.v 1) (.v 3)) (.mul (.v 5) (.v 6)))) (by decide +kernel) (by
    intro x hx
    cases hx)
  simp only [RE.ev] at e
  exact e
theorem tm_k5 (h : RG K) (t0 t1 t2 t3 t4 t5 s : K) : (((((t0 + t1) + t2) + t3) + t4) + t5) = (((t0 + t2) + t4) + ((t1 + t3) + t5)) := by
  have e := rg_eq h (rgl [t0, t1, t2, t3, t4, t5, s]) [] (.add (.add (.add (.add (.add (.v 0) (.v 1)) (.v 2)) (.v 3)) (.v 4)) (.v 5)) (.add (.add (.add (.v 0) (.v 2)) (.v 4)) (.add (.add (.v 1) (.v 3)) (.v 5))) (by decide +kernel) (by
    intro x hx
    cases hx)
  simp only [RE.ev] at e
  exact e
end
theorem za2 (x : F2) : 0 + x = x := by rw [ad2, F2.rg.az]
/-- The reference's sums, place by place, are the product's parts. -/
theorem mall_comp (x y : T12) : ∀ k, k < 6 → mall (comp x) (comp y) 6 k = comp (x * y) k := by
  intro k hk
  rcases k with _ | _ | _ | _ | _ | _ | k
  · refine Eq.trans ?_ (tm_k0 F2.rg (comp x 0 * comp y 0) (comp x 1 * comp y 5) (comp x 2 * comp y 4) (comp x 3 * comp y 3) (comp x 4 * comp y 2) (comp x 5 * comp y 1) xi2 |>.trans ?_)
    · simp only [mall, mrow, mstep, Nat.reduceAdd, Nat.reduceMod, Nat.reduceLeDiff, Nat.reduceEqDiff, Nat.zero_add, if_true, if_false, reduceIte, Nat.zero_ne_one, Nat.one_ne_zero, za2]
    · simp only [comp, T12.mul_a, T12.mul_b, C3.mul_a, C3.mul_b, C3.mul_c, C3.add_a, C3.add_b, C3.add_c, C3.shift_a, C3.shift_b, C3.shift_c, ← up_xi]
  · refine Eq.trans ?_ (tm_k1 F2.rg (comp x 0 * comp y 1) (comp x 1 * comp y 0) (comp x 2 * comp y 5) (comp x 3 * comp y 4) (comp x 4 * comp y 3) (comp x 5 * comp y 2) xi2 |>.trans ?_)
    · simp only [mall, mrow, mstep, Nat.reduceAdd, Nat.reduceMod, Nat.reduceLeDiff, Nat.reduceEqDiff, Nat.zero_add, if_true, if_false, reduceIte, Nat.zero_ne_one, Nat.one_ne_zero, za2]
    · simp only [comp, T12.mul_a, T12.mul_b, C3.mul_a, C3.mul_b, C3.mul_c, C3.add_a, C3.add_b, C3.add_c, C3.shift_a, C3.shift_b, C3.shift_c, ← up_xi]
  · refine Eq.trans ?_ (tm_k2 F2.rg (comp x 0 * comp y 2) (comp x 1 * comp y 1) (comp x 2 * comp y 0) (comp x 3 * comp y 5) (comp x 4 * comp y 4) (comp x 5 * comp y 3) xi2 |>.trans ?_)
    · simp only [mall, mrow, mstep, Nat.reduceAdd, Nat.reduceMod, Nat.reduceLeDiff, Nat.reduceEqDiff, Nat.zero_add, if_true, if_false, reduceIte, Nat.zero_ne_one, Nat.one_ne_zero, za2]
    · simp only [comp, T12.mul_a, T12.mul_b, C3.mul_a, C3.mul_b, C3.mul_c, C3.add_a, C3.add_b, C3.add_c, C3.shift_a, C3.shift_b, C3.shift_c, ← up_xi]
  · refine Eq.trans ?_ (tm_k3 F2.rg (comp x 0 * comp y 3) (comp x 1 * comp y 2) (comp x 2 * comp y 1) (comp x 3 * comp y 0) (comp x 4 * comp y 5) (comp x 5 * comp y 4) xi2 |>.trans ?_)
    · simp only [mall, mrow, mstep, Nat.reduceAdd, Nat.reduceMod, Nat.reduceLeDiff, Nat.reduceEqDiff, Nat.zero_add, if_true, if_false, reduceIte, Nat.zero_ne_one, Nat.one_ne_zero, za2]
    · simp only [comp, T12.mul_a, T12.mul_b, C3.mul_a, C3.mul_b, C3.mul_c, C3.add_a, C3.add_b, C3.add_c, C3.shift_a, C3.shift_b, C3.shift_c, ← up_xi]
  · refine Eq.trans ?_ (tm_k4 F2.rg (comp x 0 * comp y 4) (comp x 1 * comp y 3) (comp x 2 * comp y 2) (comp x 3 * comp y 1) (comp x 4 * comp y 0) (comp x 5 * comp y 5) xi2 |>.trans ?_)
    · simp only [mall, mrow, mstep, Nat.reduceAdd, Nat.reduceMod, Nat.reduceLeDiff, Nat.reduceEqDiff, Nat.zero_add, if_true, if_false, reduceIte, Nat.zero_ne_one, Nat.one_ne_zero, za2]
    · simp only [comp, T12.mul_a, T12.mul_b, C3.mul_a, C3.mul_b, C3.mul_c, C3.add_a, C3.add_b, C3.add_c, C3.shift_a, C3.shift_b, C3.shift_c, ← up_xi]
  · refine Eq.trans ?_ (tm_k5 F2.rg (comp x 0 * comp y 5) (comp x 1 * comp y 4) (comp x 2 * comp y 3) (comp x 3 * comp y 2) (comp x 4 * comp y 1) (comp x 5 * comp y 0) xi2 |>.trans ?_)
    · simp only [mall, mrow, mstep, Nat.reduceAdd, Nat.reduceMod, Nat.reduceLeDiff, Nat.reduceEqDiff, Nat.zero_add, if_true, if_false, reduceIte, Nat.zero_ne_one, Nat.one_ne_zero, za2]
    · simp only [comp, T12.mul_a, T12.mul_b, C3.mul_a, C3.mul_b, C3.mul_c, C3.add_a, C3.add_b, C3.add_c, C3.shift_a, C3.shift_b, C3.shift_c, ← up_xi]
  · omega
end Go.Proofs.YtialfoccalobpaaDoor
