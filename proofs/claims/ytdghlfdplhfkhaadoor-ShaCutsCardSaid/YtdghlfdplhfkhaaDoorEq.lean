/-
  Two array values of numbers that are the same are equal.
-/
import Derived.Test.YtdghlfdplhfkhaaDoorMem
namespace Go.Proofs.YtdghlfdplhfkhaaDoor
open Go.RowKit
theorem run_part_int {P : Program} (w : World) (e : TypeId) (k : IntKind) (he : P.underlying e = some (.int k)) (cs : Array Value) (i : Nat) (v : Value) (hv : cs[i]? = some v) : (part e cs i).run P w = .ok v w := by
  have ha : (isAgg e).run P w = .ok false w := by
    unfold isAgg
    rw [Sem.run_bind, run_underlying he w]
    simp
  simp only [part, Sem.run_bind, ha, Result.andThen_ok, Bool.false_eq_true, if_false, hv, Sem.run_pure]
theorem run_equalIn_arr {P : Program} (d : Nat) (w : World) (t e : TypeId) (n : Nat) (k : IntKind) (xs : Array Value) (ht : P.underlying t = some (.array n e)) (he : P.underlying e = some (.int k))
    (hs : ∀ w, (sizeOf e).run P w = .ok 1 w) (hx : ∀ i, i < n → ∃ a, xs[i]? = some (Value.int k a)) : (Op.equalIn (d + 1 + 1) t (.agg xs) (.agg xs)).run P w = .ok true w := by
  unfold Op.equalIn
  simp only [Sem.run_bind, run_underlying ht, Result.andThen_ok, hs]
  rw [Std.Legacy.Range.forIn_eq_forIn_range']
  have hm : ∀ i ∈ List.range' 0 n 1, i < n := by intro i hi; simp [List.mem_range'] at hi; omega
  show (((forIn (List.range' 0 ((n - 0 + 1 - 1) / 1) 1) _ _ : Sem _).run P w).andThen _) = _
  rw [show (n - 0 + 1 - 1) / 1 = n by simp]
  simp only [Nat.mul_one]
  generalize List.range' 0 n 1 = l at hm ⊢
  induction l with
  | nil => simp
  | cons i l ih =>
    obtain ⟨a, ha⟩ := hx i (hm i (by simp))
    have hp := run_part_int (P := P) w e k he xs i _ ha
    have hq := run_equalIn_int (P := P) w d e k k a a he
    simp only [List.forIn_cons, Sem.run_bind, hp, hq, Result.andThen_ok, BEq.rfl, Bool.not_true, Bool.false_eq_true, if_false, Sem.run_pure]
    exact ih fun j hj => hm j (by simp [hj])
theorem run_eql_arr_self {P : Program} (w : World) (t e : TypeId) (n : Nat) (k : IntKind) (xs : Array Value) (ht : P.underlying t = some (.array n e)) (he : P.underlying e = some (.int k))
    (hs : ∀ w, (sizeOf e).run P w = .ok 1 w) (hx : ∀ i, i < n → ∃ a, xs[i]? = some (Value.int k a)) :
    (binOp .eql t (.agg xs) (.agg xs)).run P w = .ok (.bool true) w := by
  rw [run_eql_struct]
  have h : (Op.equalIn (9999 + 1) t (.agg xs) (.agg xs)).run P w = .ok true w := by
    exact run_equalIn_arr 9998 w t e n k xs ht he hs hx
  rw [h]
  rfl
end Go.Proofs.YtdghlfdplhfkhaaDoor
