/-
  Points by place and scale as they are added up: what stands for which point. Plain mathematics.
-/
import Derived.Test.YtialfoccalobpaaDoorWBEcB
namespace Go.Proofs.YtialfoccalobpaaDoor
set_option linter.unusedSimpArgs false
set_option linter.unusedVariables false
set_option linter.unusedSectionVars false
section
variable {K : Type} [Add K] [Sub K] [Neg K] [Mul K] [Zero K] [One K]
theorem cu_w (h : RG K) (X1 Y1 Z1 X2 Y2 Z2 : K) : ((X2 * (Z1 * Z1)) - (X1 * (Z2 * Z2))) = (jH X1 Y1 Z1 X2 Y2 Z2) := by
  have e := rg_eq h (rgl [X1, Y1, Z1, X2, Y2, Z2]) [] (.sub (.mul (.v 3) (.mul (.v 2) (.v 2))) (.mul (.v 0) (.mul (.v 5) (.v 5)))) (jHE (.v 0) (.v 1) (.v 2) (.v 3) (.v 4) (.v 5)) (by decide +kernel) (by
    intro x hx
    cases hx)
  simp only [RE.ev, ev_jH, ev_jR, ev_jX, ev_jY, ev_jZ, ev_dR, ev_dM, ev_dX, ev_dF, ev_dY, ev_dZ] at e
  exact e
theorem cu_h (h : RG K) (X1 Y1 Z1 X2 Y2 Z2 : K) : (((Y2 * (Z1 * Z1)) * Z1) - ((Y1 * (Z2 * Z2)) * Z2)) = (jR X1 Y1 Z1 X2 Y2 Z2) := by
  have e := rg_eq h (rgl [X1, Y1, Z1, X2, Y2, Z2]) [] (.sub (.mul (.mul (.v 4) (.mul (.v 2) (.v 2))) (.v 2)) (.mul (.mul (.v 1) (.mul (.v 5) (.v 5))) (.v 5))) (jRE (.v 0) (.v 1) (.v 2) (.v 3) (.v 4) (.v 5)) (by decide +kernel) (by
    intro x hx
    cases hx)
  simp only [RE.ev, ev_jH, ev_jR, ev_jX, ev_jY, ev_jZ, ev_dR, ev_dM, ev_dX, ev_dF, ev_dY, ev_dZ] at e
  exact e
theorem cu_x (h : RG K) (X1 Y1 Z1 X2 Y2 Z2 : K) : (((((((Y2 * (Z1 * Z1)) * Z1) - ((Y1 * (Z2 * Z2)) * Z2)) * (((Y2 * (Z1 * Z1)) * Z1) - ((Y1 * (Z2 * Z2)) * Z2))) - ((((X2 * (Z1 * Z1)) - (X1 * (Z2 * Z2))) * ((X2 * (Z1 * Z1)) - (X1 * (Z2 * Z2)))) * ((X2 * (Z1 * Z1)) - (X1 * (Z2 * Z2))))) - ((X1 * (Z2 * Z2)) * (((X2 * (Z1 * Z1)) - (X1 * (Z2 * Z2))) * ((X2 * (Z1 * Z1)) - (X1 * (Z2 * Z2)))))) - ((X1 * (Z2 * Z2)) * (((X2 * (Z1 * Z1)) - (X1 * (Z2 * Z2))) * ((X2 * (Z1 * Z1)) - (X1 * (Z2 * Z2)))))) = (jX X1 Y1 Z1 X2 Y2 Z2) := by
  have e := rg_eq h (rgl [X1, Y1, Z1, X2, Y2, Z2]) [] (.sub (.sub (.sub (.mul (.sub (.mul (.mul (.v 4) (.mul (.v 2) (.v 2))) (.v 2)) (.mul (.mul (.v 1) (.mul (.v 5) (.v 5))) (.v 5))) (.sub (.mul (.mul (.v 4) (.mul (.v 2) (.v 2))) (.v 2)) (.mul (.mul (.v 1) (.mul (.v 5) (.v 5))) (.v 5)))) (.mul (.mul (.sub (.mul (.v 3) (.mul (.v 2) (.v 2))) (.mul (.v 0) (.mul (.v 5) (.v 5)))) (.sub (.mul (.v 3) (.mul (.v 2) (.v 2))) (.mul (.v 0) (.mul (.v 5) (.v 5))))) (.sub (.mul (.v 3) (.mul (.v 2) (.v 2))) (.mul (.v 0) (.mul (.v 5) (.v 5)))))) (.mul (.mul (.v 0) (.mul (.v 5) (.v 5))) (.mul (.sub (.mul (.v 3) (.mul (.v 2) (.v 2))) (.mul (.v 0) (.mul (.v 5) (.v 5)))) (.sub (.mul (.v 3) (.mul (.v 2) (.v 2))) (.mul (.v 0) (.mul (.v 5) (.v 5))))))) (.mul (.mul (.v 0) (.mul (.v 5) (.v 5))) (.mul (.sub (.mul (.v 3) (.mul (.v 2) (.v 2))) (.mul (.v 0) (.mul (.v 5) (.v 5)))) (.sub (.mul (.v 3) (.mul (.v 2) (.v 2))) (.mul (.v 0) (.mul (.v 5) (.v 5))))))) (jXE (.v 0) (.v 1) (.v 2) (.v 3) (.v 4) (.v 5)) (by decide +kernel) (by
    intro x hx
    cases hx)
  simp only [RE.ev, ev_jH, ev_jR, ev_jX, ev_jY, ev_jZ, ev_dR, ev_dM, ev_dX, ev_dF, ev_dY, ev_dZ] at e
  exact e
theorem cu_y (h : RG K) (X1 Y1 Z1 X2 Y2 Z2 : K) : (((((Y2 * (Z1 * Z1)) * Z1) - ((Y1 * (Z2 * Z2)) * Z2)) * (((X1 * (Z2 * Z2)) * (((X2 * (Z1 * Z1)) - (X1 * (Z2 * Z2))) * ((X2 * (Z1 * Z1)) - (X1 * (Z2 * Z2))))) - (((((((Y2 * (Z1 * Z1)) * Z1) - ((Y1 * (Z2 * Z2)) * Z2)) * (((Y2 * (Z1 * Z1)) * Z1) - ((Y1 * (Z2 * Z2)) * Z2))) - ((((X2 * (Z1 * Z1)) - (X1 * (Z2 * Z2))) * ((X2 * (Z1 * Z1)) - (X1 * (Z2 * Z2)))) * ((X2 * (Z1 * Z1)) - (X1 * (Z2 * Z2))))) - ((X1 * (Z2 * Z2)) * (((X2 * (Z1 * Z1)) - (X1 * (Z2 * Z2))) * ((X2 * (Z1 * Z1)) - (X1 * (Z2 * Z2)))))) - ((X1 * (Z2 * Z2)) * (((X2 * (Z1 * Z1)) - (X1 * (Z2 * Z2))) * ((X2 * (Z1 * Z1)) - (X1 * (Z2 * Z2)))))))) - (((Y1 * (Z2 * Z2)) * Z2) * ((((X2 * (Z1 * Z1)) - (X1 * (Z2 * Z2))) * ((X2 * (Z1 * Z1)) - (X1 * (Z2 * Z2)))) * ((X2 * (Z1 * Z1)) - (X1 * (Z2 * Z2)))))) = (jY X1 Y1 Z1 X2 Y2 Z2) := by
  have e := rg_eq h (rgl [X1, Y1, Z1, X2, Y2, Z2]) [] (.sub (.mul (.sub (.mul (.mul (.v 4) (.mul (.v 2) (.v 2))) (.v 2)) (.mul (.mul (.v 1) (.mul (.v 5) (.v 5))) (.v 5))) (.sub (.mul (.mul (.v 0) (.mul (.v 5) (.v 5))) (.mul (.sub (.mul (.v 3) (.mul (.v 2) (.v 2))) (.mul (.v 0) (.mul (.v 5) (.v 5)))) (.sub (.mul (.v 3) (.mul (.v 2) (.v 2))) (.mul (.v 0) (.mul (.v 5) (.v 5)))))) (.sub (.sub (.sub (.mul (.sub (.mul (.mul (.v 4) (.mul (.v 2) (.v 2))) (.v 2)) (.mul (.mul (.v 1) (.mul (.v 5) (.v 5))) (.v 5))) (.sub (.mul (.mul (.v 4) (.mul (.v 2) (.v 2))) (.v 2)) (.mul (.mul (.v 1) (.mul (.v 5) (.v 5))) (.v 5)))) (.mul (.mul (.sub (.mul (.v 3) (.mul (.v 2) (.v 2))) (.mul (.v 0) (.mul (.v 5) (.v 5)))) (.sub (.mul (.v 3) (.mul (.v 2) (.v 2))) (.mul (.v 0) (.mul (.v 5) (.v 5))))) (.sub (.mul (.v 3) (.mul (.v 2) (.v 2))) (.mul (.v 0) (.mul (.v 5) (.v 5)))))) (.mul (.mul (.v 0) (.mul (.v 5) (.v 5))) (.mul (.sub (.mul (.v 3) (.mul (.v 2) (.v 2))) (.mul (.v 0) (.mul (.v 5) (.v 5)))) (.sub (.mul (.v 3) (.mul (.v 2) (.v 2))) (.mul (.v 0) (.mul (.v 5) (.v 5))))))) (.mul (.mul (.v 0) (.mul (.v 5) (.v 5))) (.mul (.sub (.mul (.v 3) (.mul (.v 2) (.v 2))) (.mul (.v 0) (.mul (.v 5) (.v 5)))) (.sub (.mul (.v 3) (.mul (.v 2) (.v 2))) (.mul (.v 0) (.mul (.v 5) (.v 5))))))))) (.mul (.mul (.mul (.v 1) (.mul (.v 5) (.v 5))) (.v 5)) (.mul (.mul (.sub (.mul (.v 3) (.mul (.v 2) (.v 2))) (.mul (.v 0) (.mul (.v 5) (.v 5)))) (.sub (.mul (.v 3) (.mul (.v 2) (.v 2))) (.mul (.v 0) (.mul (.v 5) (.v 5))))) (.sub (.mul (.v 3) (.mul (.v 2) (.v 2))) (.mul (.v 0) (.mul (.v 5) (.v 5))))))) (jYE (.v 0) (.v 1) (.v 2) (.v 3) (.v 4) (.v 5)) (by decide +kernel) (by
    intro x hx
    cases hx)
  simp only [RE.ev, ev_jH, ev_jR, ev_jX, ev_jY, ev_jZ, ev_dR, ev_dM, ev_dX, ev_dF, ev_dY, ev_dZ] at e
  exact e
theorem cu_z (h : RG K) (X1 Y1 Z1 X2 Y2 Z2 : K) : ((Z1 * Z2) * ((X2 * (Z1 * Z1)) - (X1 * (Z2 * Z2)))) = (jZ X1 Y1 Z1 X2 Y2 Z2) := by
  have e := rg_eq h (rgl [X1, Y1, Z1, X2, Y2, Z2]) [] (.mul (.mul (.v 2) (.v 5)) (.sub (.mul (.v 3) (.mul (.v 2) (.v 2))) (.mul (.v 0) (.mul (.v 5) (.v 5))))) (jZE (.v 0) (.v 1) (.v 2) (.v 3) (.v 4) (.v 5)) (by decide +kernel) (by
    intro x hx
    cases hx)
  simp only [RE.ev, ev_jH, ev_jR, ev_jX, ev_jY, ev_jZ, ev_dR, ev_dM, ev_dX, ev_dF, ev_dY, ev_dZ] at e
  exact e
theorem cu_dx (h : RG K) (X1 Y1 Z1 : K) : ((((((X1 * X1) + (X1 * X1)) + (X1 * X1)) * (((X1 * X1) + (X1 * X1)) + (X1 * X1))) - (((X1 * (Y1 * Y1)) + (X1 * (Y1 * Y1))) + ((X1 * (Y1 * Y1)) + (X1 * (Y1 * Y1))))) - (((X1 * (Y1 * Y1)) + (X1 * (Y1 * Y1))) + ((X1 * (Y1 * Y1)) + (X1 * (Y1 * Y1))))) = (dX X1 Y1 Z1) := by
  have e := rg_eq h (rgl [X1, Y1, Z1]) [] (.sub (.sub (.mul (.add (.add (.mul (.v 0) (.v 0)) (.mul (.v 0) (.v 0))) (.mul (.v 0) (.v 0))) (.add (.add (.mul (.v 0) (.v 0)) (.mul (.v 0) (.v 0))) (.mul (.v 0) (.v 0)))) (.add (.add (.mul (.v 0) (.mul (.v 1) (.v 1))) (.mul (.v 0) (.mul (.v 1) (.v 1)))) (.add (.mul (.v 0) (.mul (.v 1) (.v 1))) (.mul (.v 0) (.mul (.v 1) (.v 1)))))) (.add (.add (.mul (.v 0) (.mul (.v 1) (.v 1))) (.mul (.v 0) (.mul (.v 1) (.v 1)))) (.add (.mul (.v 0) (.mul (.v 1) (.v 1))) (.mul (.v 0) (.mul (.v 1) (.v 1)))))) (dXE (.v 0) (.v 1) (.v 2)) (by decide +kernel) (by
    intro x hx
    cases hx)
  simp only [RE.ev, ev_jH, ev_jR, ev_jX, ev_jY, ev_jZ, ev_dR, ev_dM, ev_dX, ev_dF, ev_dY, ev_dZ] at e
  exact e
theorem cu_dy (h : RG K) (X1 Y1 Z1 : K) : ((((((X1 * X1) + (X1 * X1)) + (X1 * X1)) * ((((X1 * (Y1 * Y1)) + (X1 * (Y1 * Y1))) + ((X1 * (Y1 * Y1)) + (X1 * (Y1 * Y1)))) - ((((((X1 * X1) + (X1 * X1)) + (X1 * X1)) * (((X1 * X1) + (X1 * X1)) + (X1 * X1))) - (((X1 * (Y1 * Y1)) + (X1 * (Y1 * Y1))) + ((X1 * (Y1 * Y1)) + (X1 * (Y1 * Y1))))) - (((X1 * (Y1 * Y1)) + (X1 * (Y1 * Y1))) + ((X1 * (Y1 * Y1)) + (X1 * (Y1 * Y1))))))) - ((((Y1 * Y1) * (Y1 * Y1)) + ((Y1 * Y1) * (Y1 * Y1))) + (((Y1 * Y1) * (Y1 * Y1)) + ((Y1 * Y1) * (Y1 * Y1))))) - ((((Y1 * Y1) * (Y1 * Y1)) + ((Y1 * Y1) * (Y1 * Y1))) + (((Y1 * Y1) * (Y1 * Y1)) + ((Y1 * Y1) * (Y1 * Y1))))) = (dY X1 Y1 Z1) := by
  have e := rg_eq h (rgl [X1, Y1, Z1]) [] (.sub (.sub (.mul (.add (.add (.mul (.v 0) (.v 0)) (.mul (.v 0) (.v 0))) (.mul (.v 0) (.v 0))) (.sub (.add (.add (.mul (.v 0) (.mul (.v 1) (.v 1))) (.mul (.v 0) (.mul (.v 1) (.v 1)))) (.add (.mul (.v 0) (.mul (.v 1) (.v 1))) (.mul (.v 0) (.mul (.v 1) (.v 1))))) (.sub (.sub (.mul (.add (.add (.mul (.v 0) (.v 0)) (.mul (.v 0) (.v 0))) (.mul (.v 0) (.v 0))) (.add (.add (.mul (.v 0) (.v 0)) (.mul (.v 0) (.v 0))) (.mul (.v 0) (.v 0)))) (.add (.add (.mul (.v 0) (.mul (.v 1) (.v 1))) (.mul (.v 0) (.mul (.v 1) (.v 1)))) (.add (.mul (.v 0) (.mul (.v 1) (.v 1))) (.mul (.v 0) (.mul (.v 1) (.v 1)))))) (.add (.add (.mul (.v 0) (.mul (.v 1) (.v 1))) (.mul (.v 0) (.mul (.v 1) (.v 1)))) (.add (.mul (.v 0) (.mul (.v 1) (.v 1))) (.mul (.v 0) (.mul (.v 1) (.v 1)))))))) (.add (.add (.mul (.mul (.v 1) (.v 1)) (.mul (.v 1) (.v 1))) (.mul (.mul (.v 1) (.v 1)) (.mul (.v 1) (.v 1)))) (.add (.mul (.mul (.v 1) (.v 1)) (.mul (.v 1) (.v 1))) (.mul (.mul (.v 1) (.v 1)) (.mul (.v 1) (.v 1)))))) (.add (.add (.mul (.mul (.v 1) (.v 1)) (.mul (.v 1) (.v 1))) (.mul (.mul (.v 1) (.v 1)) (.mul (.v 1) (.v 1)))) (.add (.mul (.mul (.v 1) (.v 1)) (.mul (.v 1) (.v 1))) (.mul (.mul (.v 1) (.v 1)) (.mul (.v 1) (.v 1)))))) (dYE (.v 0) (.v 1) (.v 2)) (by decide +kernel) (by
    intro x hx
    cases hx)
  simp only [RE.ev, ev_jH, ev_jR, ev_jX, ev_jY, ev_jZ, ev_dR, ev_dM, ev_dX, ev_dF, ev_dY, ev_dZ] at e
  exact e
theorem cu_dz (h : RG K) (X1 Y1 Z1 : K) : ((Y1 * Z1) + (Y1 * Z1)) = (dZ X1 Y1 Z1) := by
  have e := rg_eq h (rgl [X1, Y1, Z1]) [] (.add (.mul (.v 1) (.v 2)) (.mul (.v 1) (.v 2))) (dZE (.v 0) (.v 1) (.v 2)) (by decide +kernel) (by
    intro x hx
    cases hx)
  simp only [RE.ev, ev_jH, ev_jR, ev_jX, ev_jY, ev_jZ, ev_dR, ev_dM, ev_dX, ev_dF, ev_dY, ev_dZ] at e
  exact e
theorem cu_hr (h : RG K) (a b c d Z1 Z2 : K) : (jR (a * (Z1 * Z1)) (b * ((Z1 * Z1) * Z1)) Z1 (c * (Z2 * Z2)) (d * ((Z2 * Z2) * Z2)) Z2) = ((d - b) * (((Z1 * Z2) * (Z1 * Z2)) * (Z1 * Z2))) := by
  have e := rg_eq h (rgl [a, b, c, d, Z1, Z2]) [] (jRE (.mul (.v 0) (.mul (.v 4) (.v 4))) (.mul (.v 1) (.mul (.mul (.v 4) (.v 4)) (.v 4))) (.v 4) (.mul (.v 2) (.mul (.v 5) (.v 5))) (.mul (.v 3) (.mul (.mul (.v 5) (.v 5)) (.v 5))) (.v 5)) (.mul (.sub (.v 3) (.v 1)) (.mul (.mul (.mul (.v 4) (.v 5)) (.mul (.v 4) (.v 5))) (.mul (.v 4) (.v 5)))) (by decide +kernel) (by
    intro x hx
    cases hx)
  simp only [RE.ev, ev_jH, ev_jR, ev_jX, ev_jY, ev_jZ, ev_dR, ev_dM, ev_dX, ev_dF, ev_dY, ev_dZ] at e
  exact e
theorem cu_at1 (h : RG K) (a z w : K) : ((a * (z * z)) * (w * w)) = (a * ((z * w) * (z * w))) := by
  have e := rg_eq h (rgl [a, z, w]) [] (.mul (.mul (.v 0) (.mul (.v 1) (.v 1))) (.mul (.v 2) (.v 2))) (.mul (.v 0) (.mul (.mul (.v 1) (.v 2)) (.mul (.v 1) (.v 2)))) (by decide +kernel) (by
    intro x hx
    cases hx)
  simp only [RE.ev, ev_jH, ev_jR, ev_jX, ev_jY, ev_jZ, ev_dR, ev_dM, ev_dX, ev_dF, ev_dY, ev_dZ] at e
  exact e
theorem cu_at2 (h : RG K) (a z w : K) : (((a * ((z * z) * z)) * (w * w)) * w) = (a * (((z * w) * (z * w)) * (z * w))) := by
  have e := rg_eq h (rgl [a, z, w]) [] (.mul (.mul (.mul (.v 0) (.mul (.mul (.v 1) (.v 1)) (.v 1))) (.mul (.v 2) (.v 2))) (.v 2)) (.mul (.v 0) (.mul (.mul (.mul (.v 1) (.v 2)) (.mul (.v 1) (.v 2))) (.mul (.v 1) (.v 2)))) (by decide +kernel) (by
    intro x hx
    cases hx)
  simp only [RE.ev, ev_jH, ev_jR, ev_jX, ev_jY, ev_jZ, ev_dR, ev_dM, ev_dX, ev_dF, ev_dY, ev_dZ] at e
  exact e
theorem cu_one (h : RG K) (a : K) : (a * (1 * 1)) = a := by
  have e := rg_eq h (rgl [a]) [] (.mul (.v 0) (.mul .o .o)) (.v 0) (by decide +kernel) (by
    intro x hx
    cases hx)
  simp only [RE.ev, ev_jH, ev_jR, ev_jX, ev_jY, ev_jZ, ev_dR, ev_dM, ev_dX, ev_dF, ev_dY, ev_dZ] at e
  exact e
theorem cu_one3 (h : RG K) (a : K) : (a * ((1 * 1) * 1)) = a := by
  have e := rg_eq h (rgl [a]) [] (.mul (.v 0) (.mul (.mul .o .o) .o)) (.v 0) (by decide +kernel) (by
    intro x hx
    cases hx)
  simp only [RE.ev, ev_jH, ev_jR, ev_jX, ev_jY, ev_jZ, ev_dR, ev_dM, ev_dX, ev_dF, ev_dY, ev_dZ] at e
  exact e
end

/-- A point by place and scale, as it is added up; with z nought it is the point at infinity. -/
structure J3 (K : Type) where
  x : K
  y : K
  z : K
theorem J3.same {K : Type} {p q : J3 K} (h : p.x = q.x) (k : p.y = q.y) (l : p.z = q.z) : p = q := by cases p; cases q; simp_all
instance {K : Type} [Zero K] : Zero (J3 K) := ⟨⟨0, 0, 0⟩⟩
section
variable {K : Type} [Add K] [Sub K] [Neg K] [Mul K] [Zero K] [One K]
/-- The slopes' parts of p + q. -/
def J3.wide (p q : J3 K) : K := ((q.x * (p.z * p.z)) - (p.x * (q.z * q.z)))
def J3.high (p q : J3 K) : K := (((q.y * (p.z * p.z)) * p.z) - ((p.y * (q.z * q.z)) * q.z))
def J3.ch (p q : J3 K) : J3 K := ⟨(((((((q.y * (p.z * p.z)) * p.z) - ((p.y * (q.z * q.z)) * q.z)) * (((q.y * (p.z * p.z)) * p.z) - ((p.y * (q.z * q.z)) * q.z))) - ((((q.x * (p.z * p.z)) - (p.x * (q.z * q.z))) * ((q.x * (p.z * p.z)) - (p.x * (q.z * q.z)))) * ((q.x * (p.z * p.z)) - (p.x * (q.z * q.z))))) - ((p.x * (q.z * q.z)) * (((q.x * (p.z * p.z)) - (p.x * (q.z * q.z))) * ((q.x * (p.z * p.z)) - (p.x * (q.z * q.z)))))) - ((p.x * (q.z * q.z)) * (((q.x * (p.z * p.z)) - (p.x * (q.z * q.z))) * ((q.x * (p.z * p.z)) - (p.x * (q.z * q.z)))))), (((((q.y * (p.z * p.z)) * p.z) - ((p.y * (q.z * q.z)) * q.z)) * (((p.x * (q.z * q.z)) * (((q.x * (p.z * p.z)) - (p.x * (q.z * q.z))) * ((q.x * (p.z * p.z)) - (p.x * (q.z * q.z))))) - (((((((q.y * (p.z * p.z)) * p.z) - ((p.y * (q.z * q.z)) * q.z)) * (((q.y * (p.z * p.z)) * p.z) - ((p.y * (q.z * q.z)) * q.z))) - ((((q.x * (p.z * p.z)) - (p.x * (q.z * q.z))) * ((q.x * (p.z * p.z)) - (p.x * (q.z * q.z)))) * ((q.x * (p.z * p.z)) - (p.x * (q.z * q.z))))) - ((p.x * (q.z * q.z)) * (((q.x * (p.z * p.z)) - (p.x * (q.z * q.z))) * ((q.x * (p.z * p.z)) - (p.x * (q.z * q.z)))))) - ((p.x * (q.z * q.z)) * (((q.x * (p.z * p.z)) - (p.x * (q.z * q.z))) * ((q.x * (p.z * p.z)) - (p.x * (q.z * q.z)))))))) - (((p.y * (q.z * q.z)) * q.z) * ((((q.x * (p.z * p.z)) - (p.x * (q.z * q.z))) * ((q.x * (p.z * p.z)) - (p.x * (q.z * q.z)))) * ((q.x * (p.z * p.z)) - (p.x * (q.z * q.z)))))), p.z * q.z * ((q.x * (p.z * p.z)) - (p.x * (q.z * q.z)))⟩
def J3.tn (p : J3 K) : J3 K := ⟨((((((p.x * p.x) + (p.x * p.x)) + (p.x * p.x)) * (((p.x * p.x) + (p.x * p.x)) + (p.x * p.x))) - (((p.x * (p.y * p.y)) + (p.x * (p.y * p.y))) + ((p.x * (p.y * p.y)) + (p.x * (p.y * p.y))))) - (((p.x * (p.y * p.y)) + (p.x * (p.y * p.y))) + ((p.x * (p.y * p.y)) + (p.x * (p.y * p.y))))), ((((((p.x * p.x) + (p.x * p.x)) + (p.x * p.x)) * ((((p.x * (p.y * p.y)) + (p.x * (p.y * p.y))) + ((p.x * (p.y * p.y)) + (p.x * (p.y * p.y)))) - ((((((p.x * p.x) + (p.x * p.x)) + (p.x * p.x)) * (((p.x * p.x) + (p.x * p.x)) + (p.x * p.x))) - (((p.x * (p.y * p.y)) + (p.x * (p.y * p.y))) + ((p.x * (p.y * p.y)) + (p.x * (p.y * p.y))))) - (((p.x * (p.y * p.y)) + (p.x * (p.y * p.y))) + ((p.x * (p.y * p.y)) + (p.x * (p.y * p.y))))))) - ((((p.y * p.y) * (p.y * p.y)) + ((p.y * p.y) * (p.y * p.y))) + (((p.y * p.y) * (p.y * p.y)) + ((p.y * p.y) * (p.y * p.y))))) - ((((p.y * p.y) * (p.y * p.y)) + ((p.y * p.y) * (p.y * p.y))) + (((p.y * p.y) * (p.y * p.y)) + ((p.y * p.y) * (p.y * p.y))))), p.y * p.z + p.y * p.z⟩
variable [DecidableEq K]
def J3.dbl (p : J3 K) : J3 K := if p.z = 0 then p else p.tn
def J3.add (p q : J3 K) : J3 K := if p.z = 0 then q else if q.z = 0 then p else if J3.wide p q = 0 then (if J3.high p q = 0 then p.dbl else 0) else J3.ch p q
variable {inv : K → K} {b : K}
/-- What stands for a point of the curve. -/
def Rep (b : K) (T : J3 K) (P : Pt K) : Prop := (T.z = 0 ∧ P = 0) ∨ (Aff b P ∧ Jp P T.x T.y T.z)
namespace EC
theorem rep_on (E : EC inv b) {T : J3 K} {P : Pt K} (h : Rep b T P) : OnC b P := by
  rcases h with h | h
  · exact .inl h.2
  · exact .inr h.1
theorem wide_eq (E : EC inv b) {p q : J3 K} {P Q : Pt K} (h : Jp P p.x p.y p.z) (k : Jp Q q.x q.y q.z) : J3.wide p q = 0 ↔ P.x = Q.x := by
  obtain ⟨hz, h1, h2⟩ := h
  obtain ⟨kz, k1, k2⟩ := k
  have e : J3.wide p q = (Q.x - P.x) * (p.z * q.z * (p.z * q.z)) := by
    have := cu_w E.rg p.x p.y p.z q.x q.y q.z
    unfold J3.wide
    rw [this, ← h1, ← h2, ← k1, ← k2]
    exact ec_j1 E.rg _ _ _ _ _ _
  rw [e]
  constructor
  · intro h
    rcases E.prime h with h | h
    · exact (E.rg.eq_of_sub h).symm
    · exact absurd h (E.mul_ne (E.mul_ne hz kz) (E.mul_ne hz kz))
  · intro h
    rw [h, E.rg.sub_self, E.rg.zm]
theorem high_eq (E : EC inv b) {p q : J3 K} {P Q : Pt K} (h : Jp P p.x p.y p.z) (k : Jp Q q.x q.y q.z) : J3.high p q = 0 ↔ P.y = Q.y := by
  obtain ⟨hz, h1, h2⟩ := h
  obtain ⟨kz, k1, k2⟩ := k
  have e : J3.high p q = (Q.y - P.y) * (p.z * q.z * (p.z * q.z) * (p.z * q.z)) := by
    have := cu_h E.rg p.x p.y p.z q.x q.y q.z
    unfold J3.high
    rw [this, ← h1, ← h2, ← k1, ← k2]
    exact cu_hr E.rg _ _ _ _ _ _
  rw [e]
  constructor
  · intro h
    rcases E.prime h with h | h
    · exact (E.rg.eq_of_sub h).symm
    · exact absurd h (E.mul_ne (E.mul_ne (E.mul_ne hz kz) (E.mul_ne hz kz)) (E.mul_ne hz kz))
  · intro h
    rw [h, E.rg.sub_self, E.rg.zm]
theorem rep_dbl (E : EC inv b) {T : J3 K} {P : Pt K} (h : Rep b T P) : Rep b T.dbl (ecAdd inv P P) := by
  unfold J3.dbl
  rcases h with ⟨hz, rfl⟩ | ⟨ha, hj⟩
  · rw [if_pos hz, zero_add]
    exact .inl ⟨hz, rfl⟩
  · rw [if_neg hj.1, add_db (E.aff_ne ha)]
    refine .inr ⟨E.on_db ha, ?_⟩
    have := E.jp_db hj (E.y0 ha)
    show Jp _ (J3.tn T).x (J3.tn T).y (J3.tn T).z
    rw [← cu_dx E.rg, ← cu_dy E.rg, ← cu_dz E.rg] at this
    exact this
theorem rep_add (E : EC inv b) {T S : J3 K} {P Q : Pt K} (h : Rep b T P) (k : Rep b S Q) : Rep b (J3.add T S) (ecAdd inv P Q) := by
  unfold J3.add
  have h0 := h
  have k0 := k
  rcases h with ⟨hz, rfl⟩ | ⟨ha, hj⟩
  · rw [if_pos hz, zero_add]
    exact k
  · rw [if_neg hj.1]
    rcases k with ⟨kz, rfl⟩ | ⟨ka, kj⟩
    · rw [if_pos kz, add_zero]
      exact h0
    · rw [if_neg kj.1]
      rcases E.ways ha ka with rfl | rfl | hx
      · rw [if_pos ((E.wide_eq hj kj).2 rfl), if_pos ((E.high_eq hj kj).2 rfl)]
        exact E.rep_dbl h0
      · rw [if_pos ((E.wide_eq hj kj).2 rfl), if_neg (fun e => E.ne_neg (E.y0 ka) ((E.high_eq hj kj).1 e).symm), E.neg_add_self (.inr ka)]
        exact .inl ⟨rfl, rfl⟩
      · rw [if_neg (fun e => hx ((E.wide_eq hj kj).1 e)), add_ch (E.aff_ne ha) (E.aff_ne ka) hx]
        refine .inr ⟨E.on_ch ha ka hx, ?_⟩
        have := (E.jp_ch hj kj hx).1
        show Jp _ (J3.ch T S).x (J3.ch T S).y (J3.ch T S).z
        rw [← cu_x E.rg, ← cu_y E.rg, ← cu_z E.rg] at this
        exact this
end EC
/-- Where it lies. -/
def J3.at_ (inv : K → K) (p : J3 K) : Pt K := ⟨p.x * (inv p.z * inv p.z), p.y * (inv p.z * inv p.z) * inv p.z⟩
def J3.of (P : Pt K) : J3 K := if P = 0 then 0 else ⟨P.x, P.y, 1⟩
namespace EC
theorem at_rep (E : EC inv b) (h0 : inv 0 = 0) {T : J3 K} {P : Pt K} (h : Rep b T P) : T.at_ inv = P := by
  unfold J3.at_
  rcases h with ⟨hz, rfl⟩ | ⟨ha, hj⟩
  · rw [hz, h0]
    apply Pt.same
    · show T.x * (0 * 0) = 0
      rw [E.rg.mz, E.rg.mz]
    · show T.y * (0 * 0) * 0 = 0
      rw [E.rg.mz]
  · obtain ⟨hz, h1, h2⟩ := hj
    have hi := E.iv _ hz
    apply Pt.same
    · show T.x * (inv T.z * inv T.z) = P.x
      rw [← h1, cu_at1 E.rg, hi, cu_one E.rg]
    · show T.y * (inv T.z * inv T.z) * inv T.z = P.y
      rw [← h2, cu_at2 E.rg, hi, cu_one3 E.rg]
theorem rep_of (E : EC inv b) {P : Pt K} (h : OnC b P) : Rep b (J3.of P) P := by
  unfold J3.of
  rcases h with rfl | h
  · rw [if_pos rfl]
    exact .inl ⟨rfl, rfl⟩
  · rw [if_neg (E.aff_ne h)]
    exact .inr ⟨h, E.jp_one P⟩
end EC
/-- So many times a point. -/
def ecN (inv : K → K) : Nat → Pt K → Pt K
  | 0, _ => 0
  | n + 1, P => ecAdd inv (ecN inv n P) P
namespace EC
theorem on_n (E : EC inv b) {P : Pt K} (h : OnC b P) : ∀ n, OnC b (ecN inv n P)
  | 0 => .inl rfl
  | n + 1 => E.on_add (E.on_n h n) h
theorem n_one (P : Pt K) : ecN inv 1 P = P := zero_add P
theorem ec_nadd (E : EC inv b) {P : Pt K} (h : OnC b P) (m : Nat) : ∀ n, ecN inv (m + n) P = ecAdd inv (ecN inv m P) (ecN inv n P)
  | 0 => (add_zero _).symm
  | n + 1 => by
    show ecAdd inv (ecN inv (m + n) P) P = _
    rw [E.ec_nadd h m n, E.assoc (E.on_n h m) (E.on_n h n) h]
    rfl
theorem n_zero (E : EC inv b) : ∀ n, ecN inv n (0 : Pt K) = 0
  | 0 => rfl
  | n + 1 => by
    show ecAdd inv (ecN inv n 0) 0 = 0
    rw [E.n_zero n, add_zero]
theorem ec_nmul (E : EC inv b) {P : Pt K} (h : OnC b P) (m : Nat) : ∀ n, ecN inv (m * n) P = ecN inv n (ecN inv m P)
  | 0 => rfl
  | n + 1 => by
    rw [Nat.mul_succ, E.ec_nadd h, E.ec_nmul h m n]
    rfl
theorem n_neg (E : EC inv b) {P : Pt K} (h : OnC b P) : ∀ n, ecN inv n (-P) = -ecN inv n P
  | 0 => E.neg_zero.symm
  | n + 1 => by
    show ecAdd inv (ecN inv n (-P)) (-P) = -ecAdd inv (ecN inv n P) P
    rw [E.n_neg h n, E.neg_sum (E.on_n h n) h]
end EC
/-- i times T, one by one; sixteen times; a number's bytes times. -/
def J3.few (T : J3 K) : Nat → J3 K
  | 0 => 0
  | n + 1 => J3.add (J3.few T n) T
def J3.sixteen (T : J3 K) : J3 K := T.dbl.dbl.dbl.dbl
def J3.byte (T : J3 K) (s : J3 K) (v : Nat) : J3 K := J3.add (J3.add s.sixteen (T.few (v / 16))).sixteen (T.few (v % 16))
def J3.times (T : J3 K) (l : List Nat) : J3 K := l.foldl (J3.byte T) 0
namespace EC
theorem rep_few (E : EC inv b) {T : J3 K} {P : Pt K} (h : Rep b T P) : ∀ n, Rep b (T.few n) (ecN inv n P)
  | 0 => .inl ⟨rfl, rfl⟩
  | n + 1 => E.rep_add (E.rep_few h n) h
theorem rep_sixteen (E : EC inv b) {T : J3 K} {P : Pt K} (h : Rep b T P) : Rep b T.sixteen (ecN inv 16 P) := by
  have on := E.rep_on h
  have two : ∀ n, ecN inv (n + n) P = ecAdd inv (ecN inv n P) (ecN inv n P) := fun n => E.ec_nadd on n n
  have h1 := E.rep_dbl h
  have e1 : ecAdd inv P P = ecN inv 2 P := by rw [show (2 : Nat) = 1 + 1 from rfl, two, n_one]
  rw [e1] at h1
  have h2 := E.rep_dbl h1
  rw [← two] at h2
  have h3 := E.rep_dbl h2
  rw [← two] at h3
  have h4 := E.rep_dbl h3
  rw [← two] at h4
  exact h4
theorem rep_byte (E : EC inv b) {T s : J3 K} {P : Pt K} {n : Nat} (h : Rep b T P) (k : Rep b s (ecN inv n P)) (v : Nat) : Rep b (J3.byte T s v) (ecN inv (256 * n + v) P) := by
  have on := E.rep_on h
  have h1 := E.rep_add (E.rep_sixteen k) (E.rep_few h (v / 16))
  rw [← E.ec_nmul on, ← E.ec_nadd on] at h1
  have h2 := E.rep_add (E.rep_sixteen h1) (E.rep_few h (v % 16))
  rw [← E.ec_nmul on, ← E.ec_nadd on, show (n * 16 + v / 16) * 16 + v % 16 = 256 * n + v by omega] at h2
  exact h2
theorem rep_times (E : EC inv b) {T : J3 K} {P : Pt K} (h : Rep b T P) (l : List Nat) : Rep b (T.times l) (ecN inv (l.foldl (fun n v => 256 * n + v) 0) P) := by
  have key : ∀ (l : List Nat) (s : J3 K) (n : Nat), Rep b s (ecN inv n P) → Rep b (l.foldl (J3.byte T) s) (ecN inv (l.foldl (fun n v => 256 * n + v) n) P) := fun l => by
    induction l with
    | nil => exact fun s n h => h
    | cons v l ih => exact fun s n hs => ih _ _ (E.rep_byte h hs v)
  exact key l 0 0 (.inl ⟨rfl, rfl⟩)
/-- The sum of a list. -/
def sums (inv : K → K) (l : List (Pt K)) : Pt K := l.foldl (ecAdd inv) 0
theorem rep_sums (E : EC inv b) (l : List (Pt K)) (h : ∀ P ∈ l, OnC b P) : Rep b (l.foldl (fun s P => J3.add s (J3.of P)) 0) (sums inv l) := by
  have key : ∀ (l : List (Pt K)) (s : J3 K) (S : Pt K), (∀ P ∈ l, OnC b P) → Rep b s S → Rep b (l.foldl (fun s P => J3.add s (J3.of P)) s) (l.foldl (ecAdd inv) S) := fun l => by
    induction l with
    | nil => exact fun s S _ h => h
    | cons P l ih => exact fun s S hl hs => ih _ _ (fun Q hQ => hl Q (List.mem_cons_of_mem _ hQ)) (E.rep_add hs (E.rep_of (hl P (List.mem_cons_self ..))))
  exact key l 0 0 h (.inl ⟨rfl, rfl⟩)
end EC
end
end Go.Proofs.YtialfoccalobpaaDoor
