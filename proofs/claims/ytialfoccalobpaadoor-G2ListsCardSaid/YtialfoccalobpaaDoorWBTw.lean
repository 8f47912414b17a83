/-
  The fields above: inverses of the third and of the twelfth degree; 2 is no cube and no square. Plain mathematics.
-/
import Derived.Test.YtialfoccalobpaaDoorWBRg
import Derived.Test.YtialfoccalobpaaDoorWBFm
namespace Go.Proofs.YtialfoccalobpaaDoor
set_option linter.unusedSimpArgs false
set_option linter.unusedVariables false
set_option linter.unusedSectionVars false
section
variable {K : Type} [Add K] [Sub K] [Neg K] [Mul K] [Zero K] [One K]
theorem tw_b (h : RG K) (a b c u : K) : (((a * ((u * (c * c)) - (a * b))) + (b * ((a * a) - (u * (b * c))))) + (u * (c * ((b * b) - (a * c))))) = 0 := by
  have e := rg_eq0 h (rgl [a, b, c, u]) (.add (.add (.mul (.v 0) (.sub (.mul (.v 3) (.mul (.v 2) (.v 2))) (.mul (.v 0) (.v 1)))) (.mul (.v 1) (.sub (.mul (.v 0) (.v 0)) (.mul (.v 3) (.mul (.v 1) (.v 2)))))) (.mul (.v 3) (.mul (.v 2) (.sub (.mul (.v 1) (.v 1)) (.mul (.v 0) (.v 2)))))) .z (by decide +kernel)
  simp only [RE.ev] at e
  exact e
theorem tw_c (h : RG K) (a b c u : K) : (((a * ((b * b) - (a * c))) + (b * ((u * (c * c)) - (a * b)))) + (c * ((a * a) - (u * (b * c))))) = 0 := by
  have e := rg_eq0 h (rgl [a, b, c, u]) (.add (.add (.mul (.v 0) (.sub (.mul (.v 1) (.v 1)) (.mul (.v 0) (.v 2)))) (.mul (.v 1) (.sub (.mul (.v 3) (.mul (.v 2) (.v 2))) (.mul (.v 0) (.v 1))))) (.mul (.v 2) (.sub (.mul (.v 0) (.v 0)) (.mul (.v 3) (.mul (.v 1) (.v 2)))))) .z (by decide +kernel)
  simp only [RE.ev] at e
  exact e
theorem tw_aa (h : RG K) (a b c u : K) : ((((a * a) - (u * (b * c))) * ((a * a) - (u * (b * c)))) - (u * (((u * (c * c)) - (a * b)) * ((b * b) - (a * c))))) = (a * ((a * ((a * a) - (u * (b * c)))) + (u * ((b * ((b * b) - (a * c))) + (c * ((u * (c * c)) - (a * b))))))) := by
  have e := rg_eq0 h (rgl [a, b, c, u]) (.sub (.mul (.sub (.mul (.v 0) (.v 0)) (.mul (.v 3) (.mul (.v 1) (.v 2)))) (.sub (.mul (.v 0) (.v 0)) (.mul (.v 3) (.mul (.v 1) (.v 2))))) (.mul (.v 3) (.mul (.sub (.mul (.v 3) (.mul (.v 2) (.v 2))) (.mul (.v 0) (.v 1))) (.sub (.mul (.v 1) (.v 1)) (.mul (.v 0) (.v 2)))))) (.mul (.v 0) (.add (.mul (.v 0) (.sub (.mul (.v 0) (.v 0)) (.mul (.v 3) (.mul (.v 1) (.v 2))))) (.mul (.v 3) (.add (.mul (.v 1) (.sub (.mul (.v 1) (.v 1)) (.mul (.v 0) (.v 2)))) (.mul (.v 2) (.sub (.mul (.v 3) (.mul (.v 2) (.v 2))) (.mul (.v 0) (.v 1)))))))) (by decide +kernel)
  simp only [RE.ev] at e
  exact e
theorem tw_ab (h : RG K) (a b c u : K) : ((u * (((b * b) - (a * c)) * ((b * b) - (a * c)))) - (((a * a) - (u * (b * c))) * ((u * (c * c)) - (a * b)))) = (b * ((a * ((a * a) - (u * (b * c)))) + (u * ((b * ((b * b) - (a * c))) + (c * ((u * (c * c)) - (a * b))))))) := by
  have e := rg_eq0 h (rgl [a, b, c, u]) (.sub (.mul (.v 3) (.mul (.sub (.mul (.v 1) (.v 1)) (.mul (.v 0) (.v 2))) (.sub (.mul (.v 1) (.v 1)) (.mul (.v 0) (.v 2))))) (.mul (.sub (.mul (.v 0) (.v 0)) (.mul (.v 3) (.mul (.v 1) (.v 2)))) (.sub (.mul (.v 3) (.mul (.v 2) (.v 2))) (.mul (.v 0) (.v 1))))) (.mul (.v 1) (.add (.mul (.v 0) (.sub (.mul (.v 0) (.v 0)) (.mul (.v 3) (.mul (.v 1) (.v 2))))) (.mul (.v 3) (.add (.mul (.v 1) (.sub (.mul (.v 1) (.v 1)) (.mul (.v 0) (.v 2)))) (.mul (.v 2) (.sub (.mul (.v 3) (.mul (.v 2) (.v 2))) (.mul (.v 0) (.v 1)))))))) (by decide +kernel)
  simp only [RE.ev] at e
  exact e
theorem tw_ac (h : RG K) (a b c u : K) : ((((u * (c * c)) - (a * b)) * ((u * (c * c)) - (a * b))) - (((a * a) - (u * (b * c))) * ((b * b) - (a * c)))) = (c * ((a * ((a * a) - (u * (b * c)))) + (u * ((b * ((b * b) - (a * c))) + (c * ((u * (c * c)) - (a * b))))))) := by
  have e := rg_eq0 h (rgl [a, b, c, u]) (.sub (.mul (.sub (.mul (.v 3) (.mul (.v 2) (.v 2))) (.mul (.v 0) (.v 1))) (.sub (.mul (.v 3) (.mul (.v 2) (.v 2))) (.mul (.v 0) (.v 1)))) (.mul (.sub (.mul (.v 0) (.v 0)) (.mul (.v 3) (.mul (.v 1) (.v 2)))) (.sub (.mul (.v 1) (.v 1)) (.mul (.v 0) (.v 2))))) (.mul (.v 2) (.add (.mul (.v 0) (.sub (.mul (.v 0) (.v 0)) (.mul (.v 3) (.mul (.v 1) (.v 2))))) (.mul (.v 3) (.add (.mul (.v 1) (.sub (.mul (.v 1) (.v 1)) (.mul (.v 0) (.v 2)))) (.mul (.v 2) (.sub (.mul (.v 3) (.mul (.v 2) (.v 2))) (.mul (.v 0) (.v 1)))))))) (by decide +kernel)
  simp only [RE.ev] at e
  exact e
theorem tw_nm (h : RG K) (a b c d e f u : K) : ((((a * d) + (u * ((b * f) + (c * e)))) * ((((a * d) + (u * ((b * f) + (c * e)))) * ((a * d) + (u * ((b * f) + (c * e))))) - (u * ((((a * e) + (b * d)) + (u * (c * f))) * (((a * f) + (b * e)) + (c * d)))))) + (u * (((((a * e) + (b * d)) + (u * (c * f))) * (((((a * e) + (b * d)) + (u * (c * f))) * (((a * e) + (b * d)) + (u * (c * f)))) - (((a * d) + (u * ((b * f) + (c * e)))) * (((a * f) + (b * e)) + (c * d))))) + ((((a * f) + (b * e)) + (c * d)) * ((u * ((((a * f) + (b * e)) + (c * d)) * (((a * f) + (b * e)) + (c * d)))) - (((a * d) + (u * ((b * f) + (c * e)))) * (((a * e) + (b * d)) + (u * (c * f))))))))) = (((a * ((a * a) - (u * (b * c)))) + (u * ((b * ((b * b) - (a * c))) + (c * ((u * (c * c)) - (a * b)))))) * ((d * ((d * d) - (u * (e * f)))) + (u * ((e * ((e * e) - (d * f))) + (f * ((u * (f * f)) - (d * e))))))) := by
  have e := rg_eq0 h (rgl [a, b, c, d, e, f, u]) (.add (.mul (.add (.mul (.v 0) (.v 3)) (.mul (.v 6) (.add (.mul (.v 1) (.v 5)) (.mul (.v 2) (.v 4))))) (.sub (.mul (.add (.mul (.v 0) (.v 3)) (.mul (.v 6) (.add (.mul (.v 1) (.v 5)) (.mul (.v 2) (.v 4))))) (.add (.mul (.v 0) (.v 3)) (.mul (.v 6) (.add (.mul (.v 1) (.v 5)) (.mul (.v 2) (.v 4)))))) (.mul (.v 6) (.mul (.add (.add (.mul (.v 0) (.v 4)) (.mul (.v 1) (.v 3))) (.mul (.v 6) (.mul (.v 2) (.v 5)))) (.add (.add (.mul (.v 0) (.v 5)) (.mul (.v 1) (.v 4))) (.mul (.v 2) (.v 3))))))) (.mul (.v 6) (.add (.mul (.add (.add (.mul (.v 0) (.v 4)) (.mul (.v 1) (.v 3))) (.mul (.v 6) (.mul (.v 2) (.v 5)))) (.sub (.mul (.add (.add (.mul (.v 0) (.v 4)) (.mul (.v 1) (.v 3))) (.mul (.v 6) (.mul (.v 2) (.v 5)))) (.add (.add (.mul (.v 0) (.v 4)) (.mul (.v 1) (.v 3))) (.mul (.v 6) (.mul (.v 2) (.v 5))))) (.mul (.add (.mul (.v 0) (.v 3)) (.mul (.v 6) (.add (.mul (.v 1) (.v 5)) (.mul (.v 2) (.v 4))))) (.add (.add (.mul (.v 0) (.v 5)) (.mul (.v 1) (.v 4))) (.mul (.v 2) (.v 3)))))) (.mul (.add (.add (.mul (.v 0) (.v 5)) (.mul (.v 1) (.v 4))) (.mul (.v 2) (.v 3))) (.sub (.mul (.v 6) (.mul (.add (.add (.mul (.v 0) (.v 5)) (.mul (.v 1) (.v 4))) (.mul (.v 2) (.v 3))) (.add (.add (.mul (.v 0) (.v 5)) (.mul (.v 1) (.v 4))) (.mul (.v 2) (.v 3))))) (.mul (.add (.mul (.v 0) (.v 3)) (.mul (.v 6) (.add (.mul (.v 1) (.v 5)) (.mul (.v 2) (.v 4))))) (.add (.add (.mul (.v 0) (.v 4)) (.mul (.v 1) (.v 3))) (.mul (.v 6) (.mul (.v 2) (.v 5)))))))))) (.mul (.add (.mul (.v 0) (.sub (.mul (.v 0) (.v 0)) (.mul (.v 6) (.mul (.v 1) (.v 2))))) (.mul (.v 6) (.add (.mul (.v 1) (.sub (.mul (.v 1) (.v 1)) (.mul (.v 0) (.v 2)))) (.mul (.v 2) (.sub (.mul (.v 6) (.mul (.v 2) (.v 2))) (.mul (.v 0) (.v 1))))))) (.add (.mul (.v 3) (.sub (.mul (.v 3) (.v 3)) (.mul (.v 6) (.mul (.v 4) (.v 5))))) (.mul (.v 6) (.add (.mul (.v 4) (.sub (.mul (.v 4) (.v 4)) (.mul (.v 3) (.v 5)))) (.mul (.v 5) (.sub (.mul (.v 6) (.mul (.v 5) (.v 5))) (.mul (.v 3) (.v 4)))))))) (by decide +kernel)
  simp only [RE.ev] at e
  exact e
theorem tw_cube (h : RG K) (a b c : K) : (((b * c) * (b * c)) * (b * c)) = (((b * b) * b) * ((c * c) * c)) := by
  have e := rg_eq0 h (rgl [a, b, c]) (.mul (.mul (.mul (.v 1) (.v 2)) (.mul (.v 1) (.v 2))) (.mul (.v 1) (.v 2))) (.mul (.mul (.mul (.v 1) (.v 1)) (.v 1)) (.mul (.mul (.v 2) (.v 2)) (.v 2))) (by decide +kernel)
  simp only [RE.ev] at e
  exact e
theorem tw_sqc (h : RG K) (b c : K) : ((b * c) * (b * c)) = ((b * b) * (c * c)) := by
  have e := rg_eq0 h (rgl [b, c]) (.mul (.mul (.v 0) (.v 1)) (.mul (.v 0) (.v 1))) (.mul (.mul (.v 0) (.v 0)) (.mul (.v 1) (.v 1))) (by decide +kernel)
  simp only [RE.ev] at e
  exact e
end
theorem Fp.rg : RG Fp where
  aa x y z := by grind
  ac x y := by grind
  az x := by grind
  ma x y z := by grind
  mc x y := by grind
  mo x := by grind
  md x y z := by grind
  an x := by grind
  sn x y := by grind
theorem F2.rg : RG F2 where
  aa := F2.cr.add_assoc
  ac := F2.cr.add_comm
  az := F2.cr.add_zero
  ma := F2.cr.mul_assoc
  mc := F2.cr.mul_comm
  mo := F2.cr.mul_one
  md := F2.cr.mul_add
  an x := by apply F2.same <;> simp only [F2.add_a, F2.add_b, F2.neg_a, F2.neg_b, F2.zero_a, F2.zero_b] <;> grind
  sn x y := by apply F2.same <;> simp only [F2.add_a, F2.add_b, F2.sub_a, F2.sub_b, F2.neg_a, F2.neg_b] <;> grind
theorem C3.rg : RG C3 where
  aa := C3.cr.add_assoc
  ac := C3.cr.add_comm
  az := C3.cr.add_zero
  ma := C3.cr.mul_assoc
  mc := C3.cr.mul_comm
  mo := C3.cr.mul_one
  md := C3.cr.mul_add
  an x := by apply C3.same <;> simp only [C3.add_a, C3.add_b, C3.add_c, C3.neg_a, C3.neg_b, C3.neg_c, C3.zero_a, C3.zero_b, C3.zero_c] <;> exact F2.rg.an _
  sn x y := by apply C3.same <;> simp only [C3.add_a, C3.add_b, C3.add_c, C3.sub_a, C3.sub_b, C3.sub_c, C3.neg_a, C3.neg_b, C3.neg_c] <;> exact F2.rg.sn _ _
theorem Fp.pw_pred {x : Fp} (hx : x ≠ 0) : pw x (6 * Pm) = 1 := by
  have h0 : pw x Pn = pw x (6 * Pm + 1) := congrArg (fun n => pw x n) pm_six
  have h := h0.symm.trans (Fp.fermat x)
  rw [pw_succ] at h
  have h2 : x * pw x (6 * Pm) = x * 1 := by rw [Fp.cr.mul_comm, h, Fp.cr.mul_one]
  exact Fp.mul_cancel hx h2
theorem pw_three {R : Type} [Add R] [Mul R] [Zero R] [One R] (h : CR R) (x : R) : pw x 3 = x * x * x := by
  rw [pw_succ, pw_two h]
theorem Fp.cube {x c : Fp} (h : x * x * x = c) (hc : c ≠ 0) : pw c (2 * Pm) = 1 := by
  have hx : x ≠ 0 := fun e => hc (by rw [← h, e]; exact Fp.mz _)
  rw [← h, ← pw_three Fp.cr, ← pw_mul Fp.cr, show 3 * (2 * Pm) = 6 * Pm by omega, Fp.pw_pred hx]
theorem Fp.square {x c : Fp} (h : x * x = c) (hc : c ≠ 0) : pw c (3 * Pm) = 1 := by
  have hx : x ≠ 0 := fun e => hc (by rw [← h, e]; exact Fp.mz _)
  rw [← h, ← pw_two Fp.cr, ← pw_mul Fp.cr, show 2 * (3 * Pm) = 6 * Pm by omega, Fp.pw_pred hx]
theorem Fp.pw_ne (c : Fp) (n e : Nat) (hn : c.val = n) (he : e < 2 ^ 381) (h : pm n Pn 381 e ≠ 1) : pw c e ≠ 1 := fun h1 => h (by
  have h2 := Fp.pw_val c e
  rw [h1, hn, ← pm_eq n Pn 381 e he] at h2
  exact h2.symm)
theorem two_nocube (x : Fp) : x * x * x ≠ 1 + 1 := fun h =>
  Fp.pw_ne (1 + 1) 2 (2 * Pm) (by decide +kernel) (by decide +kernel) (by decide +kernel) (Fp.cube h (by decide +kernel))
theorem two_nosquare (x : Fp) : x * x ≠ 1 + 1 := fun h =>
  Fp.pw_ne (1 + 1) 2 (3 * Pm) (by decide +kernel) (by decide +kernel) (by decide +kernel) (Fp.square h (by decide +kernel))
theorem F2.nmul (x y : F2) : (x * y).norm = x.norm * y.norm := by
  simp only [F2.norm, F2.mul_a, F2.mul_b]
  grind
theorem F2.xi_norm : F2.xi.norm = 1 + 1 := by
  simp only [F2.norm, F2.xi, Fp.cr.mul_one]
theorem xi_nocube (x : F2) : x * x * x ≠ F2.xi := fun h => two_nocube x.norm (by rw [← F2.nmul, ← F2.nmul, h, F2.xi_norm])
theorem xi_nosquare (x : F2) : x * x ≠ F2.xi := fun h => two_nosquare x.norm (by rw [← F2.nmul, h, F2.xi_norm])
/-- The number that makes x one of the field beneath, and that number. -/
def C3.adj (x : C3) : C3 := ⟨x.a * x.a - (x.b * x.c).up, (x.c * x.c).up - x.a * x.b, x.b * x.b - x.a * x.c⟩
def C3.nm (x : C3) : F2 := x.a * x.adj.a + (x.b * x.adj.c + x.c * x.adj.b).up
def C3.scale (x : C3) (k : F2) : C3 := ⟨x.a * k, x.b * k, x.c * k⟩
def C3.inv (x : C3) : C3 := x.adj.scale x.nm.inv
theorem C3.mul_adj (x : C3) : x * x.adj = C3.of x.nm := by
  apply C3.same
  · rfl
  · show x.a * ((x.c * x.c).up - x.a * x.b) + x.b * (x.a * x.a - (x.b * x.c).up) + (x.c * (x.b * x.b - x.a * x.c)).up = 0
    simp only [← F2.mul_xi]
    exact tw_b F2.rg _ _ _ _
  · exact (by
      show x.a * (x.b * x.b - x.a * x.c) + x.b * ((x.c * x.c).up - x.a * x.b) + x.c * (x.a * x.a - (x.b * x.c).up) = 0
      simp only [← F2.mul_xi]
      exact tw_c F2.rg _ _ _ _)
theorem C3.adj_adj (x : C3) : x.adj.adj = x.scale x.nm := by
  have e : x.nm = x.a * (x.a * x.a - F2.xi * (x.b * x.c)) + F2.xi * (x.b * (x.b * x.b - x.a * x.c) + x.c * (F2.xi * (x.c * x.c) - x.a * x.b)) := by
    simp only [C3.nm, C3.adj, ← F2.mul_xi]
  apply C3.same
  · show x.adj.a * x.adj.a - (x.adj.b * x.adj.c).up = x.a * x.nm
    rw [e]
    simp only [C3.adj, ← F2.mul_xi]
    exact tw_aa F2.rg _ _ _ _
  · show (x.adj.c * x.adj.c).up - x.adj.a * x.adj.b = x.b * x.nm
    rw [e]
    simp only [C3.adj, ← F2.mul_xi]
    exact tw_ab F2.rg _ _ _ _
  · show x.adj.b * x.adj.b - x.adj.a * x.adj.c = x.c * x.nm
    rw [e]
    simp only [C3.adj, ← F2.mul_xi]
    exact tw_ac F2.rg _ _ _ _
theorem F2.mul_ne {x y : F2} (hx : x ≠ 0) (hy : y ≠ 0) : x * y ≠ 0 := fun e => by
  rcases F2.mul_zero_iff.1 e with h | h
  · exact hx h
  · exact hy h
theorem F2.sub_eq {x y : F2} (h : x - y = 0) : x = y := F2.rg.eq_of_sub h
theorem C3.adj_zero {x : C3} (h : x.adj = 0) : x = 0 := by
  have ha : x.a * x.a = (x.b * x.c).up := F2.sub_eq (congrArg C3.a h)
  have hb : (x.c * x.c).up = x.a * x.b := F2.sub_eq (congrArg C3.b h)
  have hc : x.b * x.b = x.a * x.c := F2.sub_eq (congrArg C3.c h)
  rcases Classical.em (x.c = 0) with c0 | c0
  · have b0 : x.b = 0 := by
      rw [c0, F2.rg.mz] at hc
      rcases F2.mul_zero_iff.1 hc with h | h <;> exact h
    have a0 : x.a = 0 := by
      rw [c0, b0, F2.rg.mz, F2.up_zero] at ha
      rcases F2.mul_zero_iff.1 ha with h | h <;> exact h
    exact C3.same a0 b0 c0
  · exfalso
    refine xi_nocube (x.b * x.c.inv) ?_
    have hi := F2.mul_inv c0
    have h3 : x.b * x.b * x.b = F2.xi * (x.c * x.c * x.c) := by
      rw [hc, F2.rg.ma, F2.rg.mc x.c x.b, ← F2.rg.ma, ← hb, ← F2.mul_xi, F2.rg.ma]
    rw [tw_cube F2.rg x.a, h3, F2.rg.ma, ← tw_cube F2.rg x.a, hi, F2.rg.mo, F2.rg.mo, F2.rg.mo]
theorem C3.nm_ne {x : C3} (hx : x ≠ 0) : x.nm ≠ 0 := fun e => hx (C3.adj_zero (C3.adj_zero (by
  rw [C3.adj_adj, e]
  apply C3.same <;> exact F2.rg.mz _)))
theorem C3.mul_scale (x y : C3) (k : F2) : x * y.scale k = (x * y).scale k := by
  have e : ∀ z : C3, z.scale k = z * C3.of k := fun z => by
    apply C3.same <;> simp only [C3.scale, C3.mul_a, C3.mul_b, C3.mul_c, C3.of_a, C3.of_b, C3.of_c, F2.rg.mz, F2.rg.zm, F2.rg.az, F2.rg.za, F2.up_zero]
  rw [e, e, C3.rg.ma]
theorem C3.mul_inv {x : C3} (hx : x ≠ 0) : x * x.inv = 1 := by
  rw [C3.inv, C3.mul_scale, C3.mul_adj]
  apply C3.same
  · exact F2.mul_inv (C3.nm_ne hx)
  · exact F2.rg.zm _
  · exact F2.rg.zm _
theorem C3.inv_zero : (0 : C3).inv = 0 := by
  have e : (0 : C3).adj = 0 := by
    apply C3.same <;> simp only [C3.adj, C3.zero_a, C3.zero_b, C3.zero_c, F2.rg.mz, F2.up_zero, F2.rg.sub_self]
  rw [C3.inv, e]
  apply C3.same <;> exact F2.rg.zm _
theorem C3.mul_ne {x y : C3} (hx : x ≠ 0) (hy : y ≠ 0) : x * y ≠ 0 := fun e => hy (by
  have h : x.inv * (x * y) = 0 := by rw [e, C3.rg.mz]
  rwa [← C3.rg.ma, C3.rg.mc x.inv, C3.mul_inv hx, C3.rg.om] at h)
theorem C3.nm_mul (x y : C3) : (x * y).nm = x.nm * y.nm := by
  have e : ∀ x : C3, x.nm = x.a * (x.a * x.a - F2.xi * (x.b * x.c)) + F2.xi * (x.b * (x.b * x.b - x.a * x.c) + x.c * (F2.xi * (x.c * x.c) - x.a * x.b)) := fun x => by
    simp only [C3.nm, C3.adj, ← F2.mul_xi]
  rw [e, e, e]
  simp only [C3.mul_a, C3.mul_b, C3.mul_c, ← F2.mul_xi]
  exact tw_nm F2.rg _ _ _ _ _ _ _
theorem C3.nm_V : C3.V.nm = F2.xi := by
  simp only [C3.nm, C3.adj, C3.V, F2.rg.mz, F2.rg.zm, F2.rg.mo, F2.up_zero, F2.rg.sub_self, F2.rg.az, F2.rg.za]
  apply F2.same <;> simp only [F2.up_a, F2.up_b, F2.sub_a, F2.sub_b, F2.xi, F2.one_a, F2.one_b, F2.zero_a, F2.zero_b] <;> decide +kernel
/-- v is no square. -/
theorem V_nosquare (x : C3) : x * x ≠ C3.V := fun h => xi_nosquare x.nm (by rw [← C3.nm_mul, h, C3.nm_V])
def T12.inv (x : T12) : T12 := ⟨x.a * (x.a * x.a - (x.b * x.b).shift).inv, ((0 : C3) - x.b) * (x.a * x.a - (x.b * x.b).shift).inv⟩
theorem T12.nm_ne {x : T12} (hx : x ≠ 0) : x.a * x.a - (x.b * x.b).shift ≠ 0 := fun e => by
  have h : x.a * x.a = (x.b * x.b).shift := C3.rg.eq_of_sub e
  rcases Classical.em (x.b = 0) with b0 | b0
  · apply hx
    rw [b0, C3.rg.mz, C3.shift_zero] at h
    rcases Classical.em (x.a = 0) with a0 | a0
    · exact T12.same a0 b0
    · exact absurd h (C3.mul_ne a0 a0)
  · refine V_nosquare (x.a * x.b.inv) ?_
    rw [tw_sqc C3.rg, h, ← C3.mul_V, C3.rg.ma, ← tw_sqc C3.rg, C3.mul_inv b0, C3.rg.mo, C3.rg.mo]
theorem C3.zero_sub (x : C3) : (0 : C3) - x = -x := by rw [C3.rg.sn, C3.rg.za]
theorem C3.neg_shift (x : C3) : (-x).shift = -x.shift := by
  apply C3.same <;> apply F2.same <;> simp only [C3.shift_a, C3.shift_b, C3.shift_c, C3.neg_a, C3.neg_b, C3.neg_c, F2.up_a, F2.up_b, F2.neg_a, F2.neg_b] <;> grind
theorem T12.mul_inv {x : T12} (hx : x ≠ 0) : x * x.inv = 1 := by
  have hn := C3.mul_inv (T12.nm_ne hx)
  unfold T12.inv
  generalize (x.a * x.a - (x.b * x.b).shift).inv = s at hn ⊢
  rw [C3.zero_sub]
  apply T12.same
  · show x.a * (x.a * s) + (x.b * (-x.b * s)).shift = 1
    rw [← C3.rg.nmul, C3.rg.muln, C3.neg_shift, ← C3.rg.ma x.b, C3.shift_mul, ← C3.rg.ma x.a, C3.rg.nmul, ← C3.rg.dm, ← C3.rg.sn]
    exact hn
  · show x.a * (-x.b * s) + x.b * (x.a * s) = 0
    rw [← C3.rg.nmul, C3.rg.muln, C3.rg.mlc x.b, C3.rg.na]
theorem T12.inv_zero : (0 : T12).inv = 0 := by
  unfold T12.inv
  apply T12.same
  · exact C3.rg.zm _
  · show ((0 : C3) - 0) * _ = 0
    rw [C3.rg.sub_self, C3.rg.zm]
end Go.Proofs.YtialfoccalobpaaDoor
