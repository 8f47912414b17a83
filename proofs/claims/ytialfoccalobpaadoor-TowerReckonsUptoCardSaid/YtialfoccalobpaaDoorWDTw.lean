/-
  The fields above: inverses of the third and of the twelfth degree; 2 is no cube and no square. Plain mathematics.
-/
import Derived.Test.YtialfoccalobpaaDoorWDRg
import Derived.Test.YtialfoccalobpaaDoorWDFm
namespace Go.Proofs.YtialfoccalobpaaDoor
set_option linter.unusedSimpArgs false
set_option linter.unusedVariables false
set_option linter.unusedSectionVars false
section
variable {K : Type} [Add K] [Sub K] [Neg K] [Mul K] [Zero K] [One K]
theorem tw_k1 (h : RG K) (a b c d : K) : ((((a + b) * (c + d)) - (a * c)) - (b * d)) = ((a * d) + (b * c)) := by
  have e := rg_eq0 h (rgl [a, b, c, d]) (.sub (.sub (.mul (.add (.v 0) (.v 1)) (.add (.v 2) (.v 3))) (.mul (.v 0) (.v 2))) (.mul (.v 1) (.v 3))) (.add (.mul (.v 0) (.v 3)) (.mul (.v 1) (.v 2))) (by decide +kernel)
  simp only [RE.ev] at e
  exact e
theorem tw_k2 (h : RG K) (a b s : K) : ((((a + b) * (a + s)) - (a * b)) - (s * a)) = ((a * a) + (s * b)) := by
  have e := rg_eq0 h (rgl [a, b, s]) (.sub (.sub (.mul (.add (.v 0) (.v 1)) (.add (.v 0) (.v 2))) (.mul (.v 0) (.v 1))) (.mul (.v 2) (.v 0))) (.add (.mul (.v 0) (.v 0)) (.mul (.v 2) (.v 1))) (by decide +kernel)
  simp only [RE.ev] at e
  exact e
theorem tw_k3 (h : RG K) (a b : K) : ((a * b) + (a * b)) = ((a * b) + (b * a)) := by
  have e := rg_eq0 h (rgl [a, b]) (.add (.mul (.v 0) (.v 1)) (.mul (.v 0) (.v 1))) (.add (.mul (.v 0) (.v 1)) (.mul (.v 1) (.v 0))) (by decide +kernel)
  simp only [RE.ev] at e
  exact e
end
theorem Fp.rg : RG Fp where
  aa x y z := by grind
  ac x y := by grind
  az x := by grind
  ma x y z := by grind
  mc x y := by grind
  mo x := by grind
  md x y z := by grind
  an x := by grind
  sn x y := by grind
theorem F2.rg : RG F2 where
  aa := F2.cr.add_assoc
  ac := F2.cr.add_comm
  az := F2.cr.add_zero
  ma := F2.cr.mul_assoc
  mc := F2.cr.mul_comm
  mo := F2.cr.mul_one
  md := F2.cr.mul_add
  an x := by apply F2.same <;> simp only [F2.add_a, F2.add_b, F2.neg_a, F2.neg_b, F2.zero_a, F2.zero_b] <;> grind
  sn x y := by apply F2.same <;> simp only [F2.add_a, F2.add_b, F2.sub_a, F2.sub_b, F2.neg_a, F2.neg_b] <;> grind
theorem C3.rg : RG C3 where
  aa := C3.cr.add_assoc
  ac := C3.cr.add_comm
  az := C3.cr.add_zero
  ma := C3.cr.mul_assoc
  mc := C3.cr.mul_comm
  mo := C3.cr.mul_one
  md := C3.cr.mul_add
  an x := by apply C3.same <;> simp only [C3.add_a, C3.add_b, C3.add_c, C3.neg_a, C3.neg_b, C3.neg_c, C3.zero_a, C3.zero_b, C3.zero_c] <;> exact F2.rg.an _
  sn x y := by apply C3.same <;> simp only [C3.add_a, C3.add_b, C3.add_c, C3.sub_a, C3.sub_b, C3.sub_c, C3.neg_a, C3.neg_b, C3.neg_c] <;> exact F2.rg.sn _ _
theorem Fp.pw_pred {x : Fp} (hx : x ≠ 0) : pw x (6 * Pm) = 1 := by
  have h0 : pw x Pn = pw x (6 * Pm + 1) := congrArg (fun n => pw x n) pm_six
  have h := h0.symm.trans (Fp.fermat x)
  rw [pw_succ] at h
  have h2 : x * pw x (6 * Pm) = x * 1 := by rw [Fp.cr.mul_comm, h, Fp.cr.mul_one]
  exact Fp.mul_cancel hx h2
theorem Fp.square {x c : Fp} (h : x * x = c) (hc : c ≠ 0) : pw c (3 * Pm) = 1 := by
  have hx : x ≠ 0 := fun e => hc (by rw [← h, e]; exact Fp.mz _)
  rw [← h, ← pw_two Fp.cr, ← pw_mul Fp.cr, show 2 * (3 * Pm) = 6 * Pm by omega, Fp.pw_pred hx]
theorem F2.nmul (x y : F2) : (x * y).norm = x.norm * y.norm := by
  simp only [F2.norm, F2.mul_a, F2.mul_b]
  grind
def C3.scale (x : C3) (k : F2) : C3 := ⟨x.a * k, x.b * k, x.c * k⟩
theorem C3.zero_sub (x : C3) : (0 : C3) - x = -x := by rw [C3.rg.sn, C3.rg.za]
end Go.Proofs.YtialfoccalobpaaDoor
