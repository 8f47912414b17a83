/-
  == of two array values of numbers.
-/
import Derived.Test.YtclfmdaafpachaaDoorWord
namespace Go.Proofs.YtclfmdaafpachaaDoor
open Go.RowKit
section
variable {P : Program}
theorem run_part_int (w : World) (e : TypeId) (k : IntKind) (he : P.underlying e = some (.int k)) (cs : Array Value) (i : Nat) (v : Value) (hv : cs[i]? = some v) : (part e cs i).run P w = .ok v w := by
  have ha : (isAgg e).run P w = .ok false w := by
    unfold isAgg
    rw [Sem.run_bind, run_underlying he w]
    simp
  simp only [part, Sem.run_bind, ha, Result.andThen_ok, Bool.false_eq_true, if_false, hv, Sem.run_pure]
theorem run_equalIn_arr (d : Nat) (w : World) (t e : TypeId) (n : Nat) (k : IntKind) (xs ys : Array Value) (ht : P.underlying t = some (.array n e)) (he : P.underlying e = some (.int k))
    (hs : ∀ w, (sizeOf e).run P w = .ok 1 w) (hx : ∀ i, i < n → ∃ a b, xs[i]? = some (Value.int k a) ∧ ys[i]? = some (Value.int k b)) (r : Bool)
    (hr : r = true ↔ ∀ i, i < n → xs[i]? = ys[i]?) : (Op.equalIn (d + 1 + 1) t (.agg xs) (.agg ys)).run P w = .ok r w := by
  unfold Op.equalIn
  simp only [Sem.run_bind, run_underlying ht, Result.andThen_ok, hs]
  rw [Std.Legacy.Range.forIn_eq_forIn_range']
  have hm : ∀ i ∈ List.range' 0 n 1, i < n := by intro i hi; simp [List.mem_range'] at hi; omega
  have hr' : r = true ↔ ∀ i ∈ List.range' 0 n 1, xs[i]? = ys[i]? := by
    rw [hr]
    constructor
    · intro h i hi; exact h i (hm i hi)
    · intro h i hi; exact h i (by simp [List.mem_range']; omega)
  clear hr
  show (((forIn (List.range' 0 ((n - 0 + 1 - 1) / 1) 1) _ _ : Sem _).run P w).andThen _) = _
  rw [show (n - 0 + 1 - 1) / 1 = n by simp]
  simp only [Nat.mul_one]
  generalize List.range' 0 n 1 = l at hm hr' ⊢
  induction l generalizing r with
  | nil => simp at hr'; subst hr'; simp
  | cons i l ih =>
    obtain ⟨a, b, ha, hb⟩ := hx i (hm i (by simp))
    have hp := run_part_int (P := P) w e k he xs i _ ha
    have hp2 := run_part_int (P := P) w e k he ys i _ hb
    have hq := run_equalIn_int (P := P) w d e k k a b he
    by_cases hab : a = b
    · subst hab
      simp only [List.forIn_cons, Sem.run_bind, hp, hp2, hq, Result.andThen_ok, BEq.rfl, Bool.not_true, Bool.false_eq_true, if_false, Sem.run_pure]
      exact ih r (fun j hj => hm j (by simp [hj])) (by rw [hr']; simp [ha, hb])
    · have hr0 : r = false := by
        cases r with
        | false => rfl
        | true =>
          have := hr'.1 rfl i (by simp)
          rw [ha, hb] at this
          simp at this
          exact absurd this hab
      subst hr0
      have hbe : (a == b) = false := by simpa using hab
      simp [List.forIn_cons, Sem.run_bind, hp, hp2, hq, hbe]
end
end Go.Proofs.YtclfmdaafpachaaDoor
