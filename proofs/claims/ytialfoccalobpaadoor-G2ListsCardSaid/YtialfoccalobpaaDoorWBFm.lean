/-
  The fields: inverses, squares and roots, norms.
-/
import Derived.Test.YtialfoccalobpaaDoorWBFa
namespace Go.Proofs.YtialfoccalobpaaDoor
set_option linter.unusedSimpArgs false
set_option linter.unusedVariables false
open Go.RowKit
theorem ep_pn : Pn = Ep + 2 := by decide +kernel
theorem Fp.mul_cancel {x y z : Fp} (hx : x ≠ 0) (h : x * y = x * z) : y = z := by
  have h1 : x * (y - z) = 0 := by grind
  rcases Fp.prime h1 with h2 | h2
  · exact absurd h2 hx
  · grind
theorem pw_two_more (x : Fp) (n m : Nat) (h : m = n + 2) : pw x m = pw x n * x * x := by subst h; rfl
theorem Fp.inv_mul {x : Fp} (hx : x ≠ 0) : x * x.inv = 1 := by
  have h := (Fp.fermat x).symm.trans (pw_two_more x Ep Pn ep_pn)
  refine Fp.mul_cancel hx ?_
  show x * (x * pw x Ep) = x * 1
  generalize pw x Ep = y at h
  rw [Fp.cr.mul_one]
  refine Eq.trans ?_ h.symm
  grind
theorem Fp.inv_zero : (0 : Fp).inv = 0 := by
  unfold Fp.inv
  exact zero_pw Fp.cr Ep (by unfold Ep; omega)
/-- Is a square. -/
def Fp.sq (x : Fp) : Prop := x.rt * x.rt = x
theorem Fp.rt_n (k : Int) : (Fp.n k).sq ↔ k ^ Qp * k ^ Qp % Mp = k % Mp := by
  rw [← Fp.n_inj, Fp.n_mul, Fp.n_pow]
  rfl
theorem Fp.n_eq_zero {k : Int} : Fp.n k = 0 ↔ k % Mp = 0 := by
  rw [← Fp.n_zero, Fp.n_inj]
  simp
theorem Fp.exists_n (x : Fp) : ∃ k : Int, x = Fp.n k := ⟨x.val, (Fp.n_of x).symm⟩
theorem Fp.sq_sq (x : Fp) : (x * x).sq := by
  obtain ⟨k, rfl⟩ := Fp.exists_n x
  rw [← Fp.n_mul, Fp.rt_n]
  exact square_sq k
theorem Fp.sq_zero : (0 : Fp).sq := by
  have := Fp.sq_sq 0
  rwa [Fp.mz] at this
theorem Fp.sq_neg {x : Fp} (hx : x ≠ 0) : (-x).sq ↔ ¬ x.sq := by
  obtain ⟨k, rfl⟩ := Fp.exists_n x
  rw [← Fp.n_neg, Fp.rt_n, Fp.rt_n]
  exact neg_sq k (fun h => hx (Fp.n_eq_zero.2 h))
theorem Fp.sq_mul {x y : Fp} (hx : x ≠ 0) (hy : y ≠ 0) : (x * y).sq ↔ (x.sq ↔ y.sq) := by
  obtain ⟨k, rfl⟩ := Fp.exists_n x
  obtain ⟨m, rfl⟩ := Fp.exists_n y
  rw [← Fp.n_mul, Fp.rt_n, Fp.rt_n, Fp.rt_n]
  exact mul_sq k m (fun h => hx (Fp.n_eq_zero.2 h)) (fun h => hy (Fp.n_eq_zero.2 h))
theorem F2.norm_zero (x : F2) : x.norm = 0 ↔ x = 0 := by
  constructor
  · intro h
    have hb : x.b = 0 := by
      refine Classical.byContradiction fun hb => ?_
      have h1 : x.b * x.b ≠ 0 := fun e => by rcases Fp.prime e with e | e <;> exact hb e
      have h2 : x.a * x.a = -(x.b * x.b) := by unfold F2.norm at h; grind
      have h3 := Fp.sq_sq x.a
      rw [h2] at h3
      exact (Fp.sq_neg h1).1 h3 (Fp.sq_sq _)
    have ha : x.a = 0 := by
      have h1 : x.a * x.a = 0 := by
        unfold F2.norm at h
        rw [hb, Fp.mz, Fp.cr.add_zero] at h
        exact h
      rcases Fp.prime h1 with e | e <;> exact e
    exact F2.same ha hb
  · rintro rfl
    show (0 : Fp) * 0 + 0 * 0 = 0
    rw [Fp.mz, Fp.za]
theorem F2.mul_inv {x : F2} (hx : x ≠ 0) : x * x.inv = 1 := by
  have hn : x.norm ≠ 0 := fun h => hx ((F2.norm_zero x).1 h)
  have h := Fp.inv_mul hn
  obtain ⟨k, hk⟩ : ∃ k, k = x.norm.inv := ⟨_, rfl⟩
  unfold F2.inv
  rw [← hk] at h ⊢
  unfold F2.norm at h
  apply F2.same <;> simp only [F2.mul_a, F2.mul_b, F2.scale, F2.conj_a, F2.conj_b, F2.one_a, F2.one_b] <;> grind
theorem F2.inv_zero : (0 : F2).inv = 0 := by
  have h : (0 : F2).norm = 0 := (F2.norm_zero 0).2 rfl
  unfold F2.inv
  rw [h, Fp.inv_zero]
  apply F2.same <;> simp only [F2.scale, F2.conj_a, F2.conj_b, F2.zero_a, F2.zero_b, Fp.mz]
theorem F2.mul_zero_iff {x y : F2} : x * y = 0 ↔ x = 0 ∨ y = 0 := by
  constructor
  · intro h
    refine Classical.byContradiction fun hh => ?_
    have hx : x ≠ 0 := fun e => hh (.inl e)
    have hy : y ≠ 0 := fun e => hh (.inr e)
    have h1 := F2.mul_inv hx
    have h2 : y = 0 := by
      rw [← F2.cr.mul_one y, ← h1, F2.cr.mul_lc, ← F2.cr.mul_assoc, h, F2.cr.zero_mul]
    exact hy h2
  · rintro (rfl | rfl)
    · exact F2.cr.zero_mul _
    · exact F2.cr.mul_zero _
end Go.Proofs.YtialfoccalobpaaDoor
