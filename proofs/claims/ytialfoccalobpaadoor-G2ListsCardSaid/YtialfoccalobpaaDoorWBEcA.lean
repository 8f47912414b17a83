/-
  Sums of points of a curve y squared = x cubed + b, by places and scales: the equations. Plain mathematics.
-/
import Derived.Test.YtialfoccalobpaaDoorWBRg
namespace Go.Proofs.YtialfoccalobpaaDoor
set_option linter.unusedSimpArgs false
set_option linter.unusedVariables false
section
variable {K : Type} [Add K] [Sub K] [Neg K] [Mul K] [Zero K] [One K]
def jH (X1 Y1 Z1 X2 Y2 Z2 : K) : K := ((X2 * (Z1 * Z1)) - (X1 * (Z2 * Z2)))
def jHE (X1 Y1 Z1 X2 Y2 Z2 : RE) : RE := (.sub (.mul X2 (.mul Z1 Z1)) (.mul X1 (.mul Z2 Z2)))
theorem ev_jH (ρ : Nat → K) (X1 Y1 Z1 X2 Y2 Z2 : RE) : (jHE X1 Y1 Z1 X2 Y2 Z2).ev ρ = jH (X1.ev ρ) (Y1.ev ρ) (Z1.ev ρ) (X2.ev ρ) (Y2.ev ρ) (Z2.ev ρ) := rfl
def jR (X1 Y1 Z1 X2 Y2 Z2 : K) : K := ((Y2 * ((Z1 * Z1) * Z1)) - (Y1 * ((Z2 * Z2) * Z2)))
def jRE (X1 Y1 Z1 X2 Y2 Z2 : RE) : RE := (.sub (.mul Y2 (.mul (.mul Z1 Z1) Z1)) (.mul Y1 (.mul (.mul Z2 Z2) Z2)))
theorem ev_jR (ρ : Nat → K) (X1 Y1 Z1 X2 Y2 Z2 : RE) : (jRE X1 Y1 Z1 X2 Y2 Z2).ev ρ = jR (X1.ev ρ) (Y1.ev ρ) (Z1.ev ρ) (X2.ev ρ) (Y2.ev ρ) (Z2.ev ρ) := rfl
def jX (X1 Y1 Z1 X2 Y2 Z2 : K) : K := (((((jR X1 Y1 Z1 X2 Y2 Z2) * (jR X1 Y1 Z1 X2 Y2 Z2)) - (((jH X1 Y1 Z1 X2 Y2 Z2) * (jH X1 Y1 Z1 X2 Y2 Z2)) * (jH X1 Y1 Z1 X2 Y2 Z2))) - ((X1 * (Z2 * Z2)) * ((jH X1 Y1 Z1 X2 Y2 Z2) * (jH X1 Y1 Z1 X2 Y2 Z2)))) - ((X1 * (Z2 * Z2)) * ((jH X1 Y1 Z1 X2 Y2 Z2) * (jH X1 Y1 Z1 X2 Y2 Z2))))
def jXE (X1 Y1 Z1 X2 Y2 Z2 : RE) : RE := (.sub (.sub (.sub (.mul (jRE X1 Y1 Z1 X2 Y2 Z2) (jRE X1 Y1 Z1 X2 Y2 Z2)) (.mul (.mul (jHE X1 Y1 Z1 X2 Y2 Z2) (jHE X1 Y1 Z1 X2 Y2 Z2)) (jHE X1 Y1 Z1 X2 Y2 Z2))) (.mul (.mul X1 (.mul Z2 Z2)) (.mul (jHE X1 Y1 Z1 X2 Y2 Z2) (jHE X1 Y1 Z1 X2 Y2 Z2)))) (.mul (.mul X1 (.mul Z2 Z2)) (.mul (jHE X1 Y1 Z1 X2 Y2 Z2) (jHE X1 Y1 Z1 X2 Y2 Z2))))
theorem ev_jX (ρ : Nat → K) (X1 Y1 Z1 X2 Y2 Z2 : RE) : (jXE X1 Y1 Z1 X2 Y2 Z2).ev ρ = jX (X1.ev ρ) (Y1.ev ρ) (Z1.ev ρ) (X2.ev ρ) (Y2.ev ρ) (Z2.ev ρ) := rfl
def jY (X1 Y1 Z1 X2 Y2 Z2 : K) : K := (((jR X1 Y1 Z1 X2 Y2 Z2) * (((X1 * (Z2 * Z2)) * ((jH X1 Y1 Z1 X2 Y2 Z2) * (jH X1 Y1 Z1 X2 Y2 Z2))) - (jX X1 Y1 Z1 X2 Y2 Z2))) - ((Y1 * ((Z2 * Z2) * Z2)) * (((jH X1 Y1 Z1 X2 Y2 Z2) * (jH X1 Y1 Z1 X2 Y2 Z2)) * (jH X1 Y1 Z1 X2 Y2 Z2))))
def jYE (X1 Y1 Z1 X2 Y2 Z2 : RE) : RE := (.sub (.mul (jRE X1 Y1 Z1 X2 Y2 Z2) (.sub (.mul (.mul X1 (.mul Z2 Z2)) (.mul (jHE X1 Y1 Z1 X2 Y2 Z2) (jHE X1 Y1 Z1 X2 Y2 Z2))) (jXE X1 Y1 Z1 X2 Y2 Z2))) (.mul (.mul Y1 (.mul (.mul Z2 Z2) Z2)) (.mul (.mul (jHE X1 Y1 Z1 X2 Y2 Z2) (jHE X1 Y1 Z1 X2 Y2 Z2)) (jHE X1 Y1 Z1 X2 Y2 Z2))))
theorem ev_jY (ρ : Nat → K) (X1 Y1 Z1 X2 Y2 Z2 : RE) : (jYE X1 Y1 Z1 X2 Y2 Z2).ev ρ = jY (X1.ev ρ) (Y1.ev ρ) (Z1.ev ρ) (X2.ev ρ) (Y2.ev ρ) (Z2.ev ρ) := rfl
def jZ (X1 Y1 Z1 X2 Y2 Z2 : K) : K := ((Z1 * Z2) * (jH X1 Y1 Z1 X2 Y2 Z2))
def jZE (X1 Y1 Z1 X2 Y2 Z2 : RE) : RE := (.mul (.mul Z1 Z2) (jHE X1 Y1 Z1 X2 Y2 Z2))
theorem ev_jZ (ρ : Nat → K) (X1 Y1 Z1 X2 Y2 Z2 : RE) : (jZE X1 Y1 Z1 X2 Y2 Z2).ev ρ = jZ (X1.ev ρ) (Y1.ev ρ) (Z1.ev ρ) (X2.ev ρ) (Y2.ev ρ) (Z2.ev ρ) := rfl
def dR (X1 Y1 Z1 : K) : K := (((X1 * X1) + (X1 * X1)) + (X1 * X1))
def dRE (X1 Y1 Z1 : RE) : RE := (.add (.add (.mul X1 X1) (.mul X1 X1)) (.mul X1 X1))
theorem ev_dR (ρ : Nat → K) (X1 Y1 Z1 : RE) : (dRE X1 Y1 Z1).ev ρ = dR (X1.ev ρ) (Y1.ev ρ) (Z1.ev ρ) := rfl
def dM (X1 Y1 Z1 : K) : K := (((X1 * (Y1 * Y1)) + (X1 * (Y1 * Y1))) + ((X1 * (Y1 * Y1)) + (X1 * (Y1 * Y1))))
def dME (X1 Y1 Z1 : RE) : RE := (.add (.add (.mul X1 (.mul Y1 Y1)) (.mul X1 (.mul Y1 Y1))) (.add (.mul X1 (.mul Y1 Y1)) (.mul X1 (.mul Y1 Y1))))
theorem ev_dM (ρ : Nat → K) (X1 Y1 Z1 : RE) : (dME X1 Y1 Z1).ev ρ = dM (X1.ev ρ) (Y1.ev ρ) (Z1.ev ρ) := rfl
def dX (X1 Y1 Z1 : K) : K := ((((dR X1 Y1 Z1) * (dR X1 Y1 Z1)) - (dM X1 Y1 Z1)) - (dM X1 Y1 Z1))
def dXE (X1 Y1 Z1 : RE) : RE := (.sub (.sub (.mul (dRE X1 Y1 Z1) (dRE X1 Y1 Z1)) (dME X1 Y1 Z1)) (dME X1 Y1 Z1))
theorem ev_dX (ρ : Nat → K) (X1 Y1 Z1 : RE) : (dXE X1 Y1 Z1).ev ρ = dX (X1.ev ρ) (Y1.ev ρ) (Z1.ev ρ) := rfl
def dF (X1 Y1 Z1 : K) : K := ((((Y1 * Y1) * (Y1 * Y1)) + ((Y1 * Y1) * (Y1 * Y1))) + (((Y1 * Y1) * (Y1 * Y1)) + ((Y1 * Y1) * (Y1 * Y1))))
def dFE (X1 Y1 Z1 : RE) : RE := (.add (.add (.mul (.mul Y1 Y1) (.mul Y1 Y1)) (.mul (.mul Y1 Y1) (.mul Y1 Y1))) (.add (.mul (.mul Y1 Y1) (.mul Y1 Y1)) (.mul (.mul Y1 Y1) (.mul Y1 Y1))))
theorem ev_dF (ρ : Nat → K) (X1 Y1 Z1 : RE) : (dFE X1 Y1 Z1).ev ρ = dF (X1.ev ρ) (Y1.ev ρ) (Z1.ev ρ) := rfl
def dY (X1 Y1 Z1 : K) : K := ((((dR X1 Y1 Z1) * ((dM X1 Y1 Z1) - (dX X1 Y1 Z1))) - (dF X1 Y1 Z1)) - (dF X1 Y1 Z1))
def dYE (X1 Y1 Z1 : RE) : RE := (.sub (.sub (.mul (dRE X1 Y1 Z1) (.sub (dME X1 Y1 Z1) (dXE X1 Y1 Z1))) (dFE X1 Y1 Z1)) (dFE X1 Y1 Z1))
theorem ev_dY (ρ : Nat → K) (X1 Y1 Z1 : RE) : (dYE X1 Y1 Z1).ev ρ = dY (X1.ev ρ) (Y1.ev ρ) (Z1.ev ρ) := rfl
def dZ (X1 Y1 Z1 : K) : K := ((Y1 * Z1) + (Y1 * Z1))
def dZE (X1 Y1 Z1 : RE) : RE := (.add (.mul Y1 Z1) (.mul Y1 Z1))
theorem ev_dZ (ρ : Nat → K) (X1 Y1 Z1 : RE) : (dZE X1 Y1 Z1).ev ρ = dZ (X1.ev ρ) (Y1.ev ρ) (Z1.ev ρ) := rfl
set_option maxRecDepth 100000 in
set_option maxHeartbeats 2000000 in
theorem ec_line_x (h : RG K) (s a c Z : K) : ((((s * s) - a) - c) * (Z * Z)) = ((((s * Z) * (s * Z)) - (a * (Z * Z))) - (c * (Z * Z))) := by
  have e := rg_eq h (rgl [s, a, c, Z]) [] (.mul (.sub (.sub (.mul (.v 0) (.v 0)) (.v 1)) (.v 2)) (.mul (.v 3) (.v 3))) (.sub (.sub (.mul (.mul (.v 0) (.v 3)) (.mul (.v 0) (.v 3))) (.mul (.v 1) (.mul (.v 3) (.v 3)))) (.mul (.v 2) (.mul (.v 3) (.v 3)))) (by decide +kernel) (by
    intro x hx
    cases hx)
  simp only [RE.ev, ev_jH, ev_jR, ev_jX, ev_jY, ev_jZ, ev_dR, ev_dM, ev_dX, ev_dF, ev_dY, ev_dZ] at e
  exact e
set_option maxRecDepth 100000 in
set_option maxHeartbeats 2000000 in
theorem ec_line_y (h : RG K) (s a b c Z : K) : (((s * (a - (((s * s) - a) - c))) - b) * ((Z * Z) * Z)) = (((s * Z) * ((a * (Z * Z)) - ((((s * Z) * (s * Z)) - (a * (Z * Z))) - (c * (Z * Z))))) - (b * ((Z * Z) * Z))) := by
  have e := rg_eq h (rgl [s, a, b, c, Z]) [] (.mul (.sub (.mul (.v 0) (.sub (.v 1) (.sub (.sub (.mul (.v 0) (.v 0)) (.v 1)) (.v 3)))) (.v 2)) (.mul (.mul (.v 4) (.v 4)) (.v 4))) (.sub (.mul (.mul (.v 0) (.v 4)) (.sub (.mul (.v 1) (.mul (.v 4) (.v 4))) (.sub (.sub (.mul (.mul (.v 0) (.v 4)) (.mul (.v 0) (.v 4))) (.mul (.v 1) (.mul (.v 4) (.v 4)))) (.mul (.v 3) (.mul (.v 4) (.v 4)))))) (.mul (.v 2) (.mul (.mul (.v 4) (.v 4)) (.v 4)))) (by decide +kernel) (by
    intro x hx
    cases hx)
  simp only [RE.ev, ev_jH, ev_jR, ev_jX, ev_jY, ev_jZ, ev_dR, ev_dM, ev_dX, ev_dF, ev_dY, ev_dZ] at e
  exact e
set_option maxRecDepth 100000 in
set_option maxHeartbeats 2000000 in
theorem ec_j1 (h : RG K) (a b c d Z1 Z2 : K) : (jH (a * (Z1 * Z1)) (b * ((Z1 * Z1) * Z1)) Z1 (c * (Z2 * Z2)) (d * ((Z2 * Z2) * Z2)) Z2) = ((c - a) * ((Z1 * Z2) * (Z1 * Z2))) := by
  have e := rg_eq h (rgl [a, b, c, d, Z1, Z2]) [] (jHE (.mul (.v 0) (.mul (.v 4) (.v 4))) (.mul (.v 1) (.mul (.mul (.v 4) (.v 4)) (.v 4))) (.v 4) (.mul (.v 2) (.mul (.v 5) (.v 5))) (.mul (.v 3) (.mul (.mul (.v 5) (.v 5)) (.v 5))) (.v 5)) (.mul (.sub (.v 2) (.v 0)) (.mul (.mul (.v 4) (.v 5)) (.mul (.v 4) (.v 5)))) (by decide +kernel) (by
    intro x hx
    cases hx)
  simp only [RE.ev, ev_jH, ev_jR, ev_jX, ev_jY, ev_jZ, ev_dR, ev_dM, ev_dX, ev_dF, ev_dY, ev_dZ] at e
  exact e
set_option maxRecDepth 100000 in
set_option maxHeartbeats 2000000 in
theorem ec_j2 (h : RG K) (a b c d Z1 Z2 s : K) : (s * (jZ (a * (Z1 * Z1)) (b * ((Z1 * Z1) * Z1)) Z1 (c * (Z2 * Z2)) (d * ((Z2 * Z2) * Z2)) Z2)) = ((s * (c - a)) * (((Z1 * Z2) * (Z1 * Z2)) * (Z1 * Z2))) := by
  have e := rg_eq h (rgl [a, b, c, d, Z1, Z2, s]) [] (.mul (.v 6) (jZE (.mul (.v 0) (.mul (.v 4) (.v 4))) (.mul (.v 1) (.mul (.mul (.v 4) (.v 4)) (.v 4))) (.v 4) (.mul (.v 2) (.mul (.v 5) (.v 5))) (.mul (.v 3) (.mul (.mul (.v 5) (.v 5)) (.v 5))) (.v 5))) (.mul (.mul (.v 6) (.sub (.v 2) (.v 0))) (.mul (.mul (.mul (.v 4) (.v 5)) (.mul (.v 4) (.v 5))) (.mul (.v 4) (.v 5)))) (by decide +kernel) (by
    intro x hx
    cases hx)
  simp only [RE.ev, ev_jH, ev_jR, ev_jX, ev_jY, ev_jZ, ev_dR, ev_dM, ev_dX, ev_dF, ev_dY, ev_dZ] at e
  exact e
set_option maxRecDepth 100000 in
set_option maxHeartbeats 2000000 in
theorem ec_j3 (h : RG K) (a b c d Z1 Z2 : K) : ((d - b) * (((Z1 * Z2) * (Z1 * Z2)) * (Z1 * Z2))) = (jR (a * (Z1 * Z1)) (b * ((Z1 * Z1) * Z1)) Z1 (c * (Z2 * Z2)) (d * ((Z2 * Z2) * Z2)) Z2) := by
  have e := rg_eq h (rgl [a, b, c, d, Z1, Z2]) [] (.mul (.sub (.v 3) (.v 1)) (.mul (.mul (.mul (.v 4) (.v 5)) (.mul (.v 4) (.v 5))) (.mul (.v 4) (.v 5)))) (jRE (.mul (.v 0) (.mul (.v 4) (.v 4))) (.mul (.v 1) (.mul (.mul (.v 4) (.v 4)) (.v 4))) (.v 4) (.mul (.v 2) (.mul (.v 5) (.v 5))) (.mul (.v 3) (.mul (.mul (.v 5) (.v 5)) (.v 5))) (.v 5)) (by decide +kernel) (by
    intro x hx
    cases hx)
  simp only [RE.ev, ev_jH, ev_jR, ev_jX, ev_jY, ev_jZ, ev_dR, ev_dM, ev_dX, ev_dF, ev_dY, ev_dZ] at e
  exact e
set_option maxRecDepth 100000 in
set_option maxHeartbeats 2000000 in
theorem ec_j4 (h : RG K) (a b c d Z1 Z2 : K) : ((((jR (a * (Z1 * Z1)) (b * ((Z1 * Z1) * Z1)) Z1 (c * (Z2 * Z2)) (d * ((Z2 * Z2) * Z2)) Z2) * (jR (a * (Z1 * Z1)) (b * ((Z1 * Z1) * Z1)) Z1 (c * (Z2 * Z2)) (d * ((Z2 * Z2) * Z2)) Z2)) - (a * ((jZ (a * (Z1 * Z1)) (b * ((Z1 * Z1) * Z1)) Z1 (c * (Z2 * Z2)) (d * ((Z2 * Z2) * Z2)) Z2) * (jZ (a * (Z1 * Z1)) (b * ((Z1 * Z1) * Z1)) Z1 (c * (Z2 * Z2)) (d * ((Z2 * Z2) * Z2)) Z2)))) - (c * ((jZ (a * (Z1 * Z1)) (b * ((Z1 * Z1) * Z1)) Z1 (c * (Z2 * Z2)) (d * ((Z2 * Z2) * Z2)) Z2) * (jZ (a * (Z1 * Z1)) (b * ((Z1 * Z1) * Z1)) Z1 (c * (Z2 * Z2)) (d * ((Z2 * Z2) * Z2)) Z2)))) = (jX (a * (Z1 * Z1)) (b * ((Z1 * Z1) * Z1)) Z1 (c * (Z2 * Z2)) (d * ((Z2 * Z2) * Z2)) Z2) := by
  have e := rg_eq h (rgl [a, b, c, d, Z1, Z2]) [] (.sub (.sub (.mul (jRE (.mul (.v 0) (.mul (.v 4) (.v 4))) (.mul (.v 1) (.mul (.mul (.v 4) (.v 4)) (.v 4))) (.v 4) (.mul (.v 2) (.mul (.v 5) (.v 5))) (.mul (.v 3) (.mul (.mul (.v 5) (.v 5)) (.v 5))) (.v 5)) (jRE (.mul (.v 0) (.mul (.v 4) (.v 4))) (.mul (.v 1) (.mul (.mul (.v 4) (.v 4)) (.v 4))) (.v 4) (.mul (.v 2) (.mul (.v 5) (.v 5))) (.mul (.v 3) (.mul (.mul (.v 5) (.v 5)) (.v 5))) (.v 5))) (.mul (.v 0) (.mul (jZE (.mul (.v 0) (.mul (.v 4) (.v 4))) (.mul (.v 1) (.mul (.mul (.v 4) (.v 4)) (.v 4))) (.v 4) (.mul (.v 2) (.mul (.v 5) (.v 5))) (.mul (.v 3) (.mul (.mul (.v 5) (.v 5)) (.v 5))) (.v 5)) (jZE (.mul (.v 0) (.mul (.v 4) (.v 4))) (.mul (.v 1) (.mul (.mul (.v 4) (.v 4)) (.v 4))) (.v 4) (.mul (.v 2) (.mul (.v 5) (.v 5))) (.mul (.v 3) (.mul (.mul (.v 5) (.v 5)) (.v 5))) (.v 5))))) (.mul (.v 2) (.mul (jZE (.mul (.v 0) (.mul (.v 4) (.v 4))) (.mul (.v 1) (.mul (.mul (.v 4) (.v 4)) (.v 4))) (.v 4) (.mul (.v 2) (.mul (.v 5) (.v 5))) (.mul (.v 3) (.mul (.mul (.v 5) (.v 5)) (.v 5))) (.v 5)) (jZE (.mul (.v 0) (.mul (.v 4) (.v 4))) (.mul (.v 1) (.mul (.mul (.v 4) (.v 4)) (.v 4))) (.v 4) (.mul (.v 2) (.mul (.v 5) (.v 5))) (.mul (.v 3) (.mul (.mul (.v 5) (.v 5)) (.v 5))) (.v 5))))) (jXE (.mul (.v 0) (.mul (.v 4) (.v 4))) (.mul (.v 1) (.mul (.mul (.v 4) (.v 4)) (.v 4))) (.v 4) (.mul (.v 2) (.mul (.v 5) (.v 5))) (.mul (.v 3) (.mul (.mul (.v 5) (.v 5)) (.v 5))) (.v 5)) (by decide +kernel) (by
    intro x hx
    cases hx)
  simp only [RE.ev, ev_jH, ev_jR, ev_jX, ev_jY, ev_jZ, ev_dR, ev_dM, ev_dX, ev_dF, ev_dY, ev_dZ] at e
  exact e
set_option maxRecDepth 100000 in
set_option maxHeartbeats 2000000 in
theorem ec_j5 (h : RG K) (a b c d Z1 Z2 : K) : (((jR (a * (Z1 * Z1)) (b * ((Z1 * Z1) * Z1)) Z1 (c * (Z2 * Z2)) (d * ((Z2 * Z2) * Z2)) Z2) * ((a * ((jZ (a * (Z1 * Z1)) (b * ((Z1 * Z1) * Z1)) Z1 (c * (Z2 * Z2)) (d * ((Z2 * Z2) * Z2)) Z2) * (jZ (a * (Z1 * Z1)) (b * ((Z1 * Z1) * Z1)) Z1 (c * (Z2 * Z2)) (d * ((Z2 * Z2) * Z2)) Z2))) - (jX (a * (Z1 * Z1)) (b * ((Z1 * Z1) * Z1)) Z1 (c * (Z2 * Z2)) (d * ((Z2 * Z2) * Z2)) Z2))) - (b * (((jZ (a * (Z1 * Z1)) (b * ((Z1 * Z1) * Z1)) Z1 (c * (Z2 * Z2)) (d * ((Z2 * Z2) * Z2)) Z2) * (jZ (a * (Z1 * Z1)) (b * ((Z1 * Z1) * Z1)) Z1 (c * (Z2 * Z2)) (d * ((Z2 * Z2) * Z2)) Z2)) * (jZ (a * (Z1 * Z1)) (b * ((Z1 * Z1) * Z1)) Z1 (c * (Z2 * Z2)) (d * ((Z2 * Z2) * Z2)) Z2)))) = (jY (a * (Z1 * Z1)) (b * ((Z1 * Z1) * Z1)) Z1 (c * (Z2 * Z2)) (d * ((Z2 * Z2) * Z2)) Z2) := by
  have e := rg_eq h (rgl [a, b, c, d, Z1, Z2]) [] (.sub (.mul (jRE (.mul (.v 0) (.mul (.v 4) (.v 4))) (.mul (.v 1) (.mul (.mul (.v 4) (.v 4)) (.v 4))) (.v 4) (.mul (.v 2) (.mul (.v 5) (.v 5))) (.mul (.v 3) (.mul (.mul (.v 5) (.v 5)) (.v 5))) (.v 5)) (.sub (.mul (.v 0) (.mul (jZE (.mul (.v 0) (.mul (.v 4) (.v 4))) (.mul (.v 1) (.mul (.mul (.v 4) (.v 4)) (.v 4))) (.v 4) (.mul (.v 2) (.mul (.v 5) (.v 5))) (.mul (.v 3) (.mul (.mul (.v 5) (.v 5)) (.v 5))) (.v 5)) (jZE (.mul (.v 0) (.mul (.v 4) (.v 4))) (.mul (.v 1) (.mul (.mul (.v 4) (.v 4)) (.v 4))) (.v 4) (.mul (.v 2) (.mul (.v 5) (.v 5))) (.mul (.v 3) (.mul (.mul (.v 5) (.v 5)) (.v 5))) (.v 5)))) (jXE (.mul (.v 0) (.mul (.v 4) (.v 4))) (.mul (.v 1) (.mul (.mul (.v 4) (.v 4)) (.v 4))) (.v 4) (.mul (.v 2) (.mul (.v 5) (.v 5))) (.mul (.v 3) (.mul (.mul (.v 5) (.v 5)) (.v 5))) (.v 5)))) (.mul (.v 1) (.mul (.mul (jZE (.mul (.v 0) (.mul (.v 4) (.v 4))) (.mul (.v 1) (.mul (.mul (.v 4) (.v 4)) (.v 4))) (.v 4) (.mul (.v 2) (.mul (.v 5) (.v 5))) (.mul (.v 3) (.mul (.mul (.v 5) (.v 5)) (.v 5))) (.v 5)) (jZE (.mul (.v 0) (.mul (.v 4) (.v 4))) (.mul (.v 1) (.mul (.mul (.v 4) (.v 4)) (.v 4))) (.v 4) (.mul (.v 2) (.mul (.v 5) (.v 5))) (.mul (.v 3) (.mul (.mul (.v 5) (.v 5)) (.v 5))) (.v 5))) (jZE (.mul (.v 0) (.mul (.v 4) (.v 4))) (.mul (.v 1) (.mul (.mul (.v 4) (.v 4)) (.v 4))) (.v 4) (.mul (.v 2) (.mul (.v 5) (.v 5))) (.mul (.v 3) (.mul (.mul (.v 5) (.v 5)) (.v 5))) (.v 5))))) (jYE (.mul (.v 0) (.mul (.v 4) (.v 4))) (.mul (.v 1) (.mul (.mul (.v 4) (.v 4)) (.v 4))) (.v 4) (.mul (.v 2) (.mul (.v 5) (.v 5))) (.mul (.v 3) (.mul (.mul (.v 5) (.v 5)) (.v 5))) (.v 5)) (by decide +kernel) (by
    intro x hx
    cases hx)
  simp only [RE.ev, ev_jH, ev_jR, ev_jX, ev_jY, ev_jZ, ev_dR, ev_dM, ev_dX, ev_dF, ev_dY, ev_dZ] at e
  exact e
set_option maxRecDepth 100000 in
set_option maxHeartbeats 2000000 in
theorem ec_j6 (h : RG K) (s a b x c Z : K) : (((s * (a - x)) - b) * Z) = (((s * Z) * (a - x)) - (b * Z)) := by
  have e := rg_eq h (rgl [s, a, b, x, c, Z]) [] (.mul (.sub (.mul (.v 0) (.sub (.v 1) (.v 3))) (.v 2)) (.v 5)) (.sub (.mul (.mul (.v 0) (.v 5)) (.sub (.v 1) (.v 3))) (.mul (.v 2) (.v 5))) (by decide +kernel) (by
    intro x hx
    cases hx)
  simp only [RE.ev, ev_jH, ev_jR, ev_jX, ev_jY, ev_jZ, ev_dR, ev_dM, ev_dX, ev_dF, ev_dY, ev_dZ] at e
  exact e
set_option maxRecDepth 100000 in
set_option maxHeartbeats 2000000 in
theorem ec_j7 (h : RG K) (R x1 y1 x Z Y : K) : (((R * (x1 - x)) - (y1 * Z)) * ((Y * Y) * Y)) = (Y * ((R * ((x1 * (Y * Y)) - (x * (Y * Y)))) - ((y1 * Z) * (Y * Y)))) := by
  have e := rg_eq h (rgl [R, x1, y1, x, Z, Y]) [] (.mul (.sub (.mul (.v 0) (.sub (.v 1) (.v 3))) (.mul (.v 2) (.v 4))) (.mul (.mul (.v 5) (.v 5)) (.v 5))) (.mul (.v 5) (.sub (.mul (.v 0) (.sub (.mul (.v 1) (.mul (.v 5) (.v 5))) (.mul (.v 3) (.mul (.v 5) (.v 5))))) (.mul (.mul (.v 2) (.v 4)) (.mul (.v 5) (.v 5))))) (by decide +kernel) (by
    intro x hx
    cases hx)
  simp only [RE.ev, ev_jH, ev_jR, ev_jX, ev_jY, ev_jZ, ev_dR, ev_dM, ev_dX, ev_dF, ev_dY, ev_dZ] at e
  exact e
set_option maxRecDepth 100000 in
set_option maxHeartbeats 2000000 in
theorem ec_j8 (h : RG K) (y Y Z : K) : ((y * Z) * ((Y * Y) * Y)) = ((y * ((Y * Y) * Y)) * Z) := by
  have e := rg_eq h (rgl [y, Y, Z]) [] (.mul (.mul (.v 0) (.v 2)) (.mul (.mul (.v 1) (.v 1)) (.v 1))) (.mul (.mul (.v 0) (.mul (.mul (.v 1) (.v 1)) (.v 1))) (.v 2)) (by decide +kernel) (by
    intro x hx
    cases hx)
  simp only [RE.ev, ev_jH, ev_jR, ev_jX, ev_jY, ev_jZ, ev_dR, ev_dM, ev_dX, ev_dF, ev_dY, ev_dZ] at e
  exact e
set_option maxRecDepth 100000 in
set_option maxHeartbeats 2000000 in
theorem ec_d2 (h : RG K) (a b Z s : K) : (s * (dZ (a * (Z * Z)) (b * ((Z * Z) * Z)) Z)) = ((s * (b + b)) * ((Z * Z) * (Z * Z))) := by
  have e := rg_eq h (rgl [a, b, Z, s]) [] (.mul (.v 3) (dZE (.mul (.v 0) (.mul (.v 2) (.v 2))) (.mul (.v 1) (.mul (.mul (.v 2) (.v 2)) (.v 2))) (.v 2))) (.mul (.mul (.v 3) (.add (.v 1) (.v 1))) (.mul (.mul (.v 2) (.v 2)) (.mul (.v 2) (.v 2)))) (by decide +kernel) (by
    intro x hx
    cases hx)
  simp only [RE.ev, ev_jH, ev_jR, ev_jX, ev_jY, ev_jZ, ev_dR, ev_dM, ev_dX, ev_dF, ev_dY, ev_dZ] at e
  exact e
set_option maxRecDepth 100000 in
set_option maxHeartbeats 2000000 in
theorem ec_d3 (h : RG K) (a b Z : K) : ((((a * a) + (a * a)) + (a * a)) * ((Z * Z) * (Z * Z))) = (dR (a * (Z * Z)) (b * ((Z * Z) * Z)) Z) := by
  have e := rg_eq h (rgl [a, b, Z]) [] (.mul (.add (.add (.mul (.v 0) (.v 0)) (.mul (.v 0) (.v 0))) (.mul (.v 0) (.v 0))) (.mul (.mul (.v 2) (.v 2)) (.mul (.v 2) (.v 2)))) (dRE (.mul (.v 0) (.mul (.v 2) (.v 2))) (.mul (.v 1) (.mul (.mul (.v 2) (.v 2)) (.v 2))) (.v 2)) (by decide +kernel) (by
    intro x hx
    cases hx)
  simp only [RE.ev, ev_jH, ev_jR, ev_jX, ev_jY, ev_jZ, ev_dR, ev_dM, ev_dX, ev_dF, ev_dY, ev_dZ] at e
  exact e
set_option maxRecDepth 100000 in
set_option maxHeartbeats 2000000 in
theorem ec_d1 (h : RG K) (a b Z : K) : (dZ (a * (Z * Z)) (b * ((Z * Z) * Z)) Z) = ((b + b) * ((Z * Z) * (Z * Z))) := by
  have e := rg_eq h (rgl [a, b, Z]) [] (dZE (.mul (.v 0) (.mul (.v 2) (.v 2))) (.mul (.v 1) (.mul (.mul (.v 2) (.v 2)) (.v 2))) (.v 2)) (.mul (.add (.v 1) (.v 1)) (.mul (.mul (.v 2) (.v 2)) (.mul (.v 2) (.v 2)))) (by decide +kernel) (by
    intro x hx
    cases hx)
  simp only [RE.ev, ev_jH, ev_jR, ev_jX, ev_jY, ev_jZ, ev_dR, ev_dM, ev_dX, ev_dF, ev_dY, ev_dZ] at e
  exact e
set_option maxRecDepth 100000 in
set_option maxHeartbeats 2000000 in
theorem ec_d4 (h : RG K) (a b Z : K) : ((((dR (a * (Z * Z)) (b * ((Z * Z) * Z)) Z) * (dR (a * (Z * Z)) (b * ((Z * Z) * Z)) Z)) - (a * ((dZ (a * (Z * Z)) (b * ((Z * Z) * Z)) Z) * (dZ (a * (Z * Z)) (b * ((Z * Z) * Z)) Z)))) - (a * ((dZ (a * (Z * Z)) (b * ((Z * Z) * Z)) Z) * (dZ (a * (Z * Z)) (b * ((Z * Z) * Z)) Z)))) = (dX (a * (Z * Z)) (b * ((Z * Z) * Z)) Z) := by
  have e := rg_eq h (rgl [a, b, Z]) [] (.sub (.sub (.mul (dRE (.mul (.v 0) (.mul (.v 2) (.v 2))) (.mul (.v 1) (.mul (.mul (.v 2) (.v 2)) (.v 2))) (.v 2)) (dRE (.mul (.v 0) (.mul (.v 2) (.v 2))) (.mul (.v 1) (.mul (.mul (.v 2) (.v 2)) (.v 2))) (.v 2))) (.mul (.v 0) (.mul (dZE (.mul (.v 0) (.mul (.v 2) (.v 2))) (.mul (.v 1) (.mul (.mul (.v 2) (.v 2)) (.v 2))) (.v 2)) (dZE (.mul (.v 0) (.mul (.v 2) (.v 2))) (.mul (.v 1) (.mul (.mul (.v 2) (.v 2)) (.v 2))) (.v 2))))) (.mul (.v 0) (.mul (dZE (.mul (.v 0) (.mul (.v 2) (.v 2))) (.mul (.v 1) (.mul (.mul (.v 2) (.v 2)) (.v 2))) (.v 2)) (dZE (.mul (.v 0) (.mul (.v 2) (.v 2))) (.mul (.v 1) (.mul (.mul (.v 2) (.v 2)) (.v 2))) (.v 2))))) (dXE (.mul (.v 0) (.mul (.v 2) (.v 2))) (.mul (.v 1) (.mul (.mul (.v 2) (.v 2)) (.v 2))) (.v 2)) (by decide +kernel) (by
    intro x hx
    cases hx)
  simp only [RE.ev, ev_jH, ev_jR, ev_jX, ev_jY, ev_jZ, ev_dR, ev_dM, ev_dX, ev_dF, ev_dY, ev_dZ] at e
  exact e
set_option maxRecDepth 100000 in
set_option maxHeartbeats 2000000 in
theorem ec_d5 (h : RG K) (a b Z : K) : (((dR (a * (Z * Z)) (b * ((Z * Z) * Z)) Z) * ((a * ((dZ (a * (Z * Z)) (b * ((Z * Z) * Z)) Z) * (dZ (a * (Z * Z)) (b * ((Z * Z) * Z)) Z))) - (dX (a * (Z * Z)) (b * ((Z * Z) * Z)) Z))) - (b * (((dZ (a * (Z * Z)) (b * ((Z * Z) * Z)) Z) * (dZ (a * (Z * Z)) (b * ((Z * Z) * Z)) Z)) * (dZ (a * (Z * Z)) (b * ((Z * Z) * Z)) Z)))) = (dY (a * (Z * Z)) (b * ((Z * Z) * Z)) Z) := by
  have e := rg_eq h (rgl [a, b, Z]) [] (.sub (.mul (dRE (.mul (.v 0) (.mul (.v 2) (.v 2))) (.mul (.v 1) (.mul (.mul (.v 2) (.v 2)) (.v 2))) (.v 2)) (.sub (.mul (.v 0) (.mul (dZE (.mul (.v 0) (.mul (.v 2) (.v 2))) (.mul (.v 1) (.mul (.mul (.v 2) (.v 2)) (.v 2))) (.v 2)) (dZE (.mul (.v 0) (.mul (.v 2) (.v 2))) (.mul (.v 1) (.mul (.mul (.v 2) (.v 2)) (.v 2))) (.v 2)))) (dXE (.mul (.v 0) (.mul (.v 2) (.v 2))) (.mul (.v 1) (.mul (.mul (.v 2) (.v 2)) (.v 2))) (.v 2)))) (.mul (.v 1) (.mul (.mul (dZE (.mul (.v 0) (.mul (.v 2) (.v 2))) (.mul (.v 1) (.mul (.mul (.v 2) (.v 2)) (.v 2))) (.v 2)) (dZE (.mul (.v 0) (.mul (.v 2) (.v 2))) (.mul (.v 1) (.mul (.mul (.v 2) (.v 2)) (.v 2))) (.v 2))) (dZE (.mul (.v 0) (.mul (.v 2) (.v 2))) (.mul (.v 1) (.mul (.mul (.v 2) (.v 2)) (.v 2))) (.v 2))))) (dYE (.mul (.v 0) (.mul (.v 2) (.v 2))) (.mul (.v 1) (.mul (.mul (.v 2) (.v 2)) (.v 2))) (.v 2)) (by decide +kernel) (by
    intro x hx
    cases hx)
  simp only [RE.ev, ev_jH, ev_jR, ev_jX, ev_jY, ev_jZ, ev_dR, ev_dM, ev_dX, ev_dF, ev_dY, ev_dZ] at e
  exact e
set_option maxRecDepth 100000 in
set_option maxHeartbeats 2000000 in
theorem ec_six (h : RG K) (y Z : K) : ((y * ((Z * Z) * Z)) * (y * ((Z * Z) * Z))) = ((y * y) * (((Z * Z) * Z) * ((Z * Z) * Z))) := by
  have e := rg_eq h (rgl [y, Z]) [] (.mul (.mul (.v 0) (.mul (.mul (.v 1) (.v 1)) (.v 1))) (.mul (.v 0) (.mul (.mul (.v 1) (.v 1)) (.v 1)))) (.mul (.mul (.v 0) (.v 0)) (.mul (.mul (.mul (.v 1) (.v 1)) (.v 1)) (.mul (.mul (.v 1) (.v 1)) (.v 1)))) (by decide +kernel) (by
    intro x hx
    cases hx)
  simp only [RE.ev, ev_jH, ev_jR, ev_jX, ev_jY, ev_jZ, ev_dR, ev_dM, ev_dX, ev_dF, ev_dY, ev_dZ] at e
  exact e
set_option maxRecDepth 100000 in
set_option maxHeartbeats 2000000 in
theorem ec_six2 (h : RG K) (x b Z : K) : ((((x * (Z * Z)) * (x * (Z * Z))) * (x * (Z * Z))) + (b * (((Z * Z) * Z) * ((Z * Z) * Z)))) = ((((x * x) * x) + b) * (((Z * Z) * Z) * ((Z * Z) * Z))) := by
  have e := rg_eq h (rgl [x, b, Z]) [] (.add (.mul (.mul (.mul (.v 0) (.mul (.v 2) (.v 2))) (.mul (.v 0) (.mul (.v 2) (.v 2)))) (.mul (.v 0) (.mul (.v 2) (.v 2)))) (.mul (.v 1) (.mul (.mul (.mul (.v 2) (.v 2)) (.v 2)) (.mul (.mul (.v 2) (.v 2)) (.v 2))))) (.mul (.add (.mul (.mul (.v 0) (.v 0)) (.v 0)) (.v 1)) (.mul (.mul (.mul (.v 2) (.v 2)) (.v 2)) (.mul (.mul (.v 2) (.v 2)) (.v 2)))) (by decide +kernel) (by
    intro x hx
    cases hx)
  simp only [RE.ev, ev_jH, ev_jR, ev_jX, ev_jY, ev_jZ, ev_dR, ev_dM, ev_dX, ev_dF, ev_dY, ev_dZ] at e
  exact e
set_option maxRecDepth 100000 in
set_option maxHeartbeats 2000000 in
theorem ec_y2 (h : RG K) (x1 x2 b : K) : (((x2 * x2) * x2) + b) = ((((x2 * x2) * x2) + (((x1 * x1) * x1) + b)) - ((x1 * x1) * x1)) := by
  have e := rg_eq h (rgl [x1, x2, b]) [] (.add (.mul (.mul (.v 1) (.v 1)) (.v 1)) (.v 2)) (.sub (.add (.mul (.mul (.v 1) (.v 1)) (.v 1)) (.add (.mul (.mul (.v 0) (.v 0)) (.v 0)) (.v 2))) (.mul (.mul (.v 0) (.v 0)) (.v 0))) (by decide +kernel) (by
    intro x hx
    cases hx)
  simp only [RE.ev, ev_jH, ev_jR, ev_jX, ev_jY, ev_jZ, ev_dR, ev_dM, ev_dX, ev_dF, ev_dY, ev_dZ] at e
  exact e
set_option maxRecDepth 100000 in
set_option maxHeartbeats 2000000 in
theorem ec_b1 (h : RG K) (x b : K) : ((((x * x) * x) + b) - ((x * x) * x)) = b := by
  have e := rg_eq h (rgl [x, b]) [] (.sub (.add (.mul (.mul (.v 0) (.v 0)) (.v 0)) (.v 1)) (.mul (.mul (.v 0) (.v 0)) (.v 0))) (.v 1) (by decide +kernel) (by
    intro x hx
    cases hx)
  simp only [RE.ev, ev_jH, ev_jR, ev_jX, ev_jY, ev_jZ, ev_dR, ev_dM, ev_dX, ev_dF, ev_dY, ev_dZ] at e
  exact e
set_option maxRecDepth 100000 in
set_option maxHeartbeats 2000000 in
theorem ec_nn (h : RG K) (y : K) : ((-y) * (-y)) = (y * y) := by
  have e := rg_eq h (rgl [y]) [] (.mul (.neg (.v 0)) (.neg (.v 0))) (.mul (.v 0) (.v 0)) (by decide +kernel) (by
    intro x hx
    cases hx)
  simp only [RE.ev, ev_jH, ev_jR, ev_jX, ev_jY, ev_jZ, ev_dR, ev_dM, ev_dX, ev_dF, ev_dY, ev_dZ] at e
  exact e
set_option maxRecDepth 100000 in
set_option maxHeartbeats 2000000 in
theorem ec_two (h : RG K) (y : K) : ((1 + 1) * y) = (y + y) := by
  have e := rg_eq h (rgl [y]) [] (.mul (.add .o .o) (.v 0)) (.add (.v 0) (.v 0)) (by decide +kernel) (by
    intro x hx
    cases hx)
  simp only [RE.ev, ev_jH, ev_jR, ev_jX, ev_jY, ev_jZ, ev_dR, ev_dM, ev_dX, ev_dF, ev_dY, ev_dZ] at e
  exact e
set_option maxRecDepth 100000 in
set_option maxHeartbeats 2000000 in
theorem ec_dif (h : RG K) (a b : K) : ((a - b) * (a + b)) = ((a * a) - (b * b)) := by
  have e := rg_eq h (rgl [a, b]) [] (.mul (.sub (.v 0) (.v 1)) (.add (.v 0) (.v 1))) (.sub (.mul (.v 0) (.v 0)) (.mul (.v 1) (.v 1))) (by decide +kernel) (by
    intro x hx
    cases hx)
  simp only [RE.ev, ev_jH, ev_jR, ev_jX, ev_jY, ev_jZ, ev_dR, ev_dM, ev_dX, ev_dF, ev_dY, ev_dZ] at e
  exact e
set_option maxRecDepth 100000 in
set_option maxHeartbeats 2000000 in
theorem ec_comm4 (h : RG K) (x z w : K) : ((x * z) * w) = ((x * w) * z) := by
  have e := rg_eq h (rgl [x, z, w]) [] (.mul (.mul (.v 0) (.v 1)) (.v 2)) (.mul (.mul (.v 0) (.v 2)) (.v 1)) (by decide +kernel) (by
    intro x hx
    cases hx)
  simp only [RE.ev, ev_jH, ev_jR, ev_jX, ev_jY, ev_jZ, ev_dR, ev_dM, ev_dX, ev_dF, ev_dY, ev_dZ] at e
  exact e
set_option maxRecDepth 100000 in
set_option maxHeartbeats 2000000 in
theorem ec_t1 (h : RG K) (x1 x2 y1 y2 s : K) : ((s * (y2 + y1)) * (x2 - x1)) = ((s * (x2 - x1)) * (y2 + y1)) := by
  have e := rg_eq h (rgl [x1, x2, y1, y2, s]) [] (.mul (.mul (.v 4) (.add (.v 3) (.v 2))) (.sub (.v 1) (.v 0))) (.mul (.mul (.v 4) (.sub (.v 1) (.v 0))) (.add (.v 3) (.v 2))) (by decide +kernel) (by
    intro x hx
    cases hx)
  simp only [RE.ev, ev_jH, ev_jR, ev_jX, ev_jY, ev_jZ, ev_dR, ev_dM, ev_dX, ev_dF, ev_dY, ev_dZ] at e
  exact e
set_option maxRecDepth 100000 in
set_option maxHeartbeats 2000000 in
theorem ec_t2 (h : RG K) (x1 x2 y1 y2 : K) : ((y2 - y1) * (y2 + y1)) = ((y2 * y2) - (y1 * y1)) := by
  have e := rg_eq h (rgl [x1, x2, y1, y2]) [] (.mul (.sub (.v 3) (.v 2)) (.add (.v 3) (.v 2))) (.sub (.mul (.v 3) (.v 3)) (.mul (.v 2) (.v 2))) (by decide +kernel) (by
    intro x hx
    cases hx)
  simp only [RE.ev, ev_jH, ev_jR, ev_jX, ev_jY, ev_jZ, ev_dR, ev_dM, ev_dX, ev_dF, ev_dY, ev_dZ] at e
  exact e
set_option maxRecDepth 100000 in
set_option maxHeartbeats 2000000 in
theorem ec_t3 (h : RG K) (x1 x2 b : K) : ((((x2 * x2) * x2) + b) - (((x1 * x1) * x1) + b)) = ((((x2 * x2) + (x1 * x2)) + (x1 * x1)) * (x2 - x1)) := by
  have e := rg_eq h (rgl [x1, x2, b]) [] (.sub (.add (.mul (.mul (.v 1) (.v 1)) (.v 1)) (.v 2)) (.add (.mul (.mul (.v 0) (.v 0)) (.v 0)) (.v 2))) (.mul (.add (.add (.mul (.v 1) (.v 1)) (.mul (.v 0) (.v 1))) (.mul (.v 0) (.v 0))) (.sub (.v 1) (.v 0))) (by decide +kernel) (by
    intro x hx
    cases hx)
  simp only [RE.ev, ev_jH, ev_jR, ev_jX, ev_jY, ev_jZ, ev_dR, ev_dM, ev_dX, ev_dF, ev_dY, ev_dZ] at e
  exact e
set_option maxRecDepth 100000 in
set_option maxHeartbeats 2000000 in
theorem ec_t4 (h : RG K) (x1 x2 y2 s : K) : (s * (y2 + y2)) = ((s * (y2 + (y2 - (s * (x2 - x1))))) + ((s * s) * (x2 - x1))) := by
  have e := rg_eq h (rgl [x1, x2, y2, s]) [] (.mul (.v 3) (.add (.v 2) (.v 2))) (.add (.mul (.v 3) (.add (.v 2) (.sub (.v 2) (.mul (.v 3) (.sub (.v 1) (.v 0)))))) (.mul (.mul (.v 3) (.v 3)) (.sub (.v 1) (.v 0)))) (by decide +kernel) (by
    intro x hx
    cases hx)
  simp only [RE.ev, ev_jH, ev_jR, ev_jX, ev_jY, ev_jZ, ev_dR, ev_dM, ev_dX, ev_dF, ev_dY, ev_dZ] at e
  exact e
set_option maxRecDepth 100000 in
set_option maxHeartbeats 2000000 in
theorem ec_t5 (h : RG K) (x1 x2 : K) : ((((x2 * x2) + (x1 * x2)) + (x1 * x1)) + (((x1 + x2) + x2) * (x2 - x1))) = (((x2 * x2) + (x2 * x2)) + (x2 * x2)) := by
  have e := rg_eq h (rgl [x1, x2]) [] (.add (.add (.add (.mul (.v 1) (.v 1)) (.mul (.v 0) (.v 1))) (.mul (.v 0) (.v 0))) (.mul (.add (.add (.v 0) (.v 1)) (.v 1)) (.sub (.v 1) (.v 0)))) (.add (.add (.mul (.v 1) (.v 1)) (.mul (.v 1) (.v 1))) (.mul (.v 1) (.v 1))) (by decide +kernel) (by
    intro x hx
    cases hx)
  simp only [RE.ev, ev_jH, ev_jR, ev_jX, ev_jY, ev_jZ, ev_dR, ev_dM, ev_dX, ev_dF, ev_dY, ev_dZ] at e
  exact e
set_option maxRecDepth 100000 in
set_option maxHeartbeats 2000000 in
theorem ec_t6 (h : RG K) (x1 x2 s : K) : (s * s) = (((((s * s) - x1) - x2) + x1) + x2) := by
  have e := rg_eq h (rgl [x1, x2, s]) [] (.mul (.v 2) (.v 2)) (.add (.add (.sub (.sub (.mul (.v 2) (.v 2)) (.v 0)) (.v 1)) (.v 0)) (.v 1)) (by decide +kernel) (by
    intro x hx
    cases hx)
  simp only [RE.ev, ev_jH, ev_jR, ev_jX, ev_jY, ev_jZ, ev_dR, ev_dM, ev_dX, ev_dF, ev_dY, ev_dZ] at e
  exact e
set_option maxRecDepth 100000 in
set_option maxHeartbeats 2000000 in
theorem ec_t7 (h : RG K) (x1 x2 : K) : ((((x1 + x2) + x2) - x2) - x2) = x1 := by
  have e := rg_eq h (rgl [x1, x2]) [] (.sub (.sub (.add (.add (.v 0) (.v 1)) (.v 1)) (.v 1)) (.v 1)) (.v 0) (by decide +kernel) (by
    intro x hx
    cases hx)
  simp only [RE.ev, ev_jH, ev_jR, ev_jX, ev_jY, ev_jZ, ev_dR, ev_dM, ev_dX, ev_dF, ev_dY, ev_dZ] at e
  exact e
set_option maxRecDepth 100000 in
set_option maxHeartbeats 2000000 in
theorem ec_t8 (h : RG K) (x1 x2 y2 s : K) : (((-s) * (x2 - x1)) - (-y2)) = (y2 - (s * (x2 - x1))) := by
  have e := rg_eq h (rgl [x1, x2, y2, s]) [] (.sub (.mul (.neg (.v 3)) (.sub (.v 1) (.v 0))) (.neg (.v 2))) (.sub (.v 2) (.mul (.v 3) (.sub (.v 1) (.v 0)))) (by decide +kernel) (by
    intro x hx
    cases hx)
  simp only [RE.ev, ev_jH, ev_jR, ev_jX, ev_jY, ev_jZ, ev_dR, ev_dM, ev_dX, ev_dF, ev_dY, ev_dZ] at e
  exact e
set_option maxRecDepth 100000 in
set_option maxHeartbeats 2000000 in
theorem ec_t9 (h : RG K) (s y : K) : ((-s) * ((-y) + (-y))) = (s * (y + y)) := by
  have e := rg_eq h (rgl [s, y]) [] (.mul (.neg (.v 0)) (.add (.neg (.v 1)) (.neg (.v 1)))) (.mul (.v 0) (.add (.v 1) (.v 1))) (by decide +kernel) (by
    intro x hx
    cases hx)
  simp only [RE.ev, ev_jH, ev_jR, ev_jX, ev_jY, ev_jZ, ev_dR, ev_dM, ev_dX, ev_dF, ev_dY, ev_dZ] at e
  exact e
set_option maxRecDepth 100000 in
set_option maxHeartbeats 2000000 in
theorem ec_t10 (h : RG K) (y1 y2 : K) : (y2 - (y2 - y1)) = y1 := by
  have e := rg_eq h (rgl [y1, y2]) [] (.sub (.v 1) (.sub (.v 1) (.v 0))) (.v 0) (by decide +kernel) (by
    intro x hx
    cases hx)
  simp only [RE.ev, ev_jH, ev_jR, ev_jX, ev_jY, ev_jZ, ev_dR, ev_dM, ev_dX, ev_dF, ev_dY, ev_dZ] at e
  exact e
set_option maxRecDepth 100000 in
set_option maxHeartbeats 2000000 in
theorem ec_nx (h : RG K) (X1 Y1 Z1 X2 Y2 Z2 : K) : (jX X1 (-Y1) Z1 X2 (-Y2) Z2) = (jX X1 Y1 Z1 X2 Y2 Z2) := by
  have e := rg_eq h (rgl [X1, Y1, Z1, X2, Y2, Z2]) [] (jXE (.v 0) (.neg (.v 1)) (.v 2) (.v 3) (.neg (.v 4)) (.v 5)) (jXE (.v 0) (.v 1) (.v 2) (.v 3) (.v 4) (.v 5)) (by decide +kernel) (by
    intro x hx
    cases hx)
  simp only [RE.ev, ev_jH, ev_jR, ev_jX, ev_jY, ev_jZ, ev_dR, ev_dM, ev_dX, ev_dF, ev_dY, ev_dZ] at e
  exact e
set_option maxRecDepth 100000 in
set_option maxHeartbeats 2000000 in
theorem ec_ny (h : RG K) (X1 Y1 Z1 X2 Y2 Z2 : K) : (jY X1 (-Y1) Z1 X2 (-Y2) Z2) = (-(jY X1 Y1 Z1 X2 Y2 Z2)) := by
  have e := rg_eq h (rgl [X1, Y1, Z1, X2, Y2, Z2]) [] (jYE (.v 0) (.neg (.v 1)) (.v 2) (.v 3) (.neg (.v 4)) (.v 5)) (.neg (jYE (.v 0) (.v 1) (.v 2) (.v 3) (.v 4) (.v 5))) (by decide +kernel) (by
    intro x hx
    cases hx)
  simp only [RE.ev, ev_jH, ev_jR, ev_jX, ev_jY, ev_jZ, ev_dR, ev_dM, ev_dX, ev_dF, ev_dY, ev_dZ] at e
  exact e
set_option maxRecDepth 100000 in
set_option maxHeartbeats 2000000 in
theorem ec_nz (h : RG K) (X1 Y1 Z1 X2 Y2 Z2 : K) : (jZ X1 (-Y1) Z1 X2 (-Y2) Z2) = (jZ X1 Y1 Z1 X2 Y2 Z2) := by
  have e := rg_eq h (rgl [X1, Y1, Z1, X2, Y2, Z2]) [] (jZE (.v 0) (.neg (.v 1)) (.v 2) (.v 3) (.neg (.v 4)) (.v 5)) (jZE (.v 0) (.v 1) (.v 2) (.v 3) (.v 4) (.v 5)) (by decide +kernel) (by
    intro x hx
    cases hx)
  simp only [RE.ev, ev_jH, ev_jR, ev_jX, ev_jY, ev_jZ, ev_dR, ev_dM, ev_dX, ev_dF, ev_dY, ev_dZ] at e
  exact e
set_option maxRecDepth 100000 in
set_option maxHeartbeats 2000000 in
theorem ec_ndx (h : RG K) (X1 Y1 Z1 : K) : (dX X1 (-Y1) Z1) = (dX X1 Y1 Z1) := by
  have e := rg_eq h (rgl [X1, Y1, Z1]) [] (dXE (.v 0) (.neg (.v 1)) (.v 2)) (dXE (.v 0) (.v 1) (.v 2)) (by decide +kernel) (by
    intro x hx
    cases hx)
  simp only [RE.ev, ev_jH, ev_jR, ev_jX, ev_jY, ev_jZ, ev_dR, ev_dM, ev_dX, ev_dF, ev_dY, ev_dZ] at e
  exact e
set_option maxRecDepth 100000 in
set_option maxHeartbeats 2000000 in
theorem ec_ndy (h : RG K) (X1 Y1 Z1 : K) : (dY X1 (-Y1) Z1) = (dY X1 Y1 Z1) := by
  have e := rg_eq h (rgl [X1, Y1, Z1]) [] (dYE (.v 0) (.neg (.v 1)) (.v 2)) (dYE (.v 0) (.v 1) (.v 2)) (by decide +kernel) (by
    intro x hx
    cases hx)
  simp only [RE.ev, ev_jH, ev_jR, ev_jX, ev_jY, ev_jZ, ev_dR, ev_dM, ev_dX, ev_dF, ev_dY, ev_dZ] at e
  exact e
set_option maxRecDepth 100000 in
set_option maxHeartbeats 2000000 in
theorem ec_ndz (h : RG K) (X1 Y1 Z1 : K) : (dZ X1 (-Y1) Z1) = (-(dZ X1 Y1 Z1)) := by
  have e := rg_eq h (rgl [X1, Y1, Z1]) [] (dZE (.v 0) (.neg (.v 1)) (.v 2)) (.neg (dZE (.v 0) (.v 1) (.v 2))) (by decide +kernel) (by
    intro x hx
    cases hx)
  simp only [RE.ev, ev_jH, ev_jR, ev_jX, ev_jY, ev_jZ, ev_dR, ev_dM, ev_dX, ev_dF, ev_dY, ev_dZ] at e
  exact e
set_option maxRecDepth 100000 in
set_option maxHeartbeats 2000000 in
theorem ec_sg1 (h : RG K) (X Z : K) : (X * ((-Z) * (-Z))) = (X * (Z * Z)) := by
  have e := rg_eq h (rgl [X, Z]) [] (.mul (.v 0) (.mul (.neg (.v 1)) (.neg (.v 1)))) (.mul (.v 0) (.mul (.v 1) (.v 1))) (by decide +kernel) (by
    intro x hx
    cases hx)
  simp only [RE.ev, ev_jH, ev_jR, ev_jX, ev_jY, ev_jZ, ev_dR, ev_dM, ev_dX, ev_dF, ev_dY, ev_dZ] at e
  exact e
set_option maxRecDepth 100000 in
set_option maxHeartbeats 2000000 in
theorem ec_sg2 (h : RG K) (Y Z : K) : (Y * (((-Z) * (-Z)) * (-Z))) = ((-Y) * ((Z * Z) * Z)) := by
  have e := rg_eq h (rgl [Y, Z]) [] (.mul (.v 0) (.mul (.mul (.neg (.v 1)) (.neg (.v 1))) (.neg (.v 1)))) (.mul (.neg (.v 0)) (.mul (.mul (.v 1) (.v 1)) (.v 1))) (by decide +kernel) (by
    intro x hx
    cases hx)
  simp only [RE.ev, ev_jH, ev_jR, ev_jX, ev_jY, ev_jZ, ev_dR, ev_dM, ev_dX, ev_dF, ev_dY, ev_dZ] at e
  exact e
set_option maxRecDepth 100000 in
set_option maxHeartbeats 2000000 in
theorem ec_on_ch (h : RG K) (x1 y1 x2 y2 : K) (hy2 : y2 * y2 = ((((x2 * x2) * x2) + (y1 * y1)) - ((x1 * x1) * x1))) : ((jY x1 y1 1 x2 y2 1) * (jY x1 y1 1 x2 y2 1)) = ((((jX x1 y1 1 x2 y2 1) * (jX x1 y1 1 x2 y2 1)) * (jX x1 y1 1 x2 y2 1)) + (((y1 * y1) - ((x1 * x1) * x1)) * ((((jZ x1 y1 1 x2 y2 1) * (jZ x1 y1 1 x2 y2 1)) * (jZ x1 y1 1 x2 y2 1)) * (((jZ x1 y1 1 x2 y2 1) * (jZ x1 y1 1 x2 y2 1)) * (jZ x1 y1 1 x2 y2 1))))) := by
  have e := rg_eq h (rgl [x1, y1, x2, y2]) [(3, (.sub (.add (.mul (.mul (.v 2) (.v 2)) (.v 2)) (.mul (.v 1) (.v 1))) (.mul (.mul (.v 0) (.v 0)) (.v 0))))] (.mul (jYE (.v 0) (.v 1) .o (.v 2) (.v 3) .o) (jYE (.v 0) (.v 1) .o (.v 2) (.v 3) .o)) (.add (.mul (.mul (jXE (.v 0) (.v 1) .o (.v 2) (.v 3) .o) (jXE (.v 0) (.v 1) .o (.v 2) (.v 3) .o)) (jXE (.v 0) (.v 1) .o (.v 2) (.v 3) .o)) (.mul (.sub (.mul (.v 1) (.v 1)) (.mul (.mul (.v 0) (.v 0)) (.v 0))) (.mul (.mul (.mul (jZE (.v 0) (.v 1) .o (.v 2) (.v 3) .o) (jZE (.v 0) (.v 1) .o (.v 2) (.v 3) .o)) (jZE (.v 0) (.v 1) .o (.v 2) (.v 3) .o)) (.mul (.mul (jZE (.v 0) (.v 1) .o (.v 2) (.v 3) .o) (jZE (.v 0) (.v 1) .o (.v 2) (.v 3) .o)) (jZE (.v 0) (.v 1) .o (.v 2) (.v 3) .o))))) (by decide +kernel) (by
    intro x hx
    simp only [List.mem_cons, List.not_mem_nil, or_false] at hx
    rcases hx with rfl
    · exact hy2
    )
  simp only [RE.ev, ev_jH, ev_jR, ev_jX, ev_jY, ev_jZ, ev_dR, ev_dM, ev_dX, ev_dF, ev_dY, ev_dZ] at e
  exact e
set_option maxRecDepth 100000 in
set_option maxHeartbeats 2000000 in
theorem ec_on_db (h : RG K) (x1 y1 : K) : ((dY x1 y1 1) * (dY x1 y1 1)) = ((((dX x1 y1 1) * (dX x1 y1 1)) * (dX x1 y1 1)) + (((y1 * y1) - ((x1 * x1) * x1)) * ((((dZ x1 y1 1) * (dZ x1 y1 1)) * (dZ x1 y1 1)) * (((dZ x1 y1 1) * (dZ x1 y1 1)) * (dZ x1 y1 1))))) := by
  have e := rg_eq h (rgl [x1, y1]) [] (.mul (dYE (.v 0) (.v 1) .o) (dYE (.v 0) (.v 1) .o)) (.add (.mul (.mul (dXE (.v 0) (.v 1) .o) (dXE (.v 0) (.v 1) .o)) (dXE (.v 0) (.v 1) .o)) (.mul (.sub (.mul (.v 1) (.v 1)) (.mul (.mul (.v 0) (.v 0)) (.v 0))) (.mul (.mul (.mul (dZE (.v 0) (.v 1) .o) (dZE (.v 0) (.v 1) .o)) (dZE (.v 0) (.v 1) .o)) (.mul (.mul (dZE (.v 0) (.v 1) .o) (dZE (.v 0) (.v 1) .o)) (dZE (.v 0) (.v 1) .o))))) (by decide +kernel) (by
    intro x hx
    cases hx)
  simp only [RE.ev, ev_jH, ev_jR, ev_jX, ev_jY, ev_jZ, ev_dR, ev_dM, ev_dX, ev_dF, ev_dY, ev_dZ] at e
  exact e
set_option maxRecDepth 100000 in
set_option maxHeartbeats 2000000 in
theorem ec_comm_x (h : RG K) (x1 y1 x2 y2 : K) : ((jX x1 y1 1 x2 y2 1) * ((jZ x2 y2 1 x1 y1 1) * (jZ x2 y2 1 x1 y1 1))) = ((jX x2 y2 1 x1 y1 1) * ((jZ x1 y1 1 x2 y2 1) * (jZ x1 y1 1 x2 y2 1))) := by
  have e := rg_eq h (rgl [x1, y1, x2, y2]) [] (.mul (jXE (.v 0) (.v 1) .o (.v 2) (.v 3) .o) (.mul (jZE (.v 2) (.v 3) .o (.v 0) (.v 1) .o) (jZE (.v 2) (.v 3) .o (.v 0) (.v 1) .o))) (.mul (jXE (.v 2) (.v 3) .o (.v 0) (.v 1) .o) (.mul (jZE (.v 0) (.v 1) .o (.v 2) (.v 3) .o) (jZE (.v 0) (.v 1) .o (.v 2) (.v 3) .o))) (by decide +kernel) (by
    intro x hx
    cases hx)
  simp only [RE.ev, ev_jH, ev_jR, ev_jX, ev_jY, ev_jZ, ev_dR, ev_dM, ev_dX, ev_dF, ev_dY, ev_dZ] at e
  exact e
set_option maxRecDepth 100000 in
set_option maxHeartbeats 2000000 in
theorem ec_comm_y (h : RG K) (x1 y1 x2 y2 : K) : ((jY x1 y1 1 x2 y2 1) * (((jZ x2 y2 1 x1 y1 1) * (jZ x2 y2 1 x1 y1 1)) * (jZ x2 y2 1 x1 y1 1))) = ((jY x2 y2 1 x1 y1 1) * (((jZ x1 y1 1 x2 y2 1) * (jZ x1 y1 1 x2 y2 1)) * (jZ x1 y1 1 x2 y2 1))) := by
  have e := rg_eq h (rgl [x1, y1, x2, y2]) [] (.mul (jYE (.v 0) (.v 1) .o (.v 2) (.v 3) .o) (.mul (.mul (jZE (.v 2) (.v 3) .o (.v 0) (.v 1) .o) (jZE (.v 2) (.v 3) .o (.v 0) (.v 1) .o)) (jZE (.v 2) (.v 3) .o (.v 0) (.v 1) .o))) (.mul (jYE (.v 2) (.v 3) .o (.v 0) (.v 1) .o) (.mul (.mul (jZE (.v 0) (.v 1) .o (.v 2) (.v 3) .o) (jZE (.v 0) (.v 1) .o (.v 2) (.v 3) .o)) (jZE (.v 0) (.v 1) .o (.v 2) (.v 3) .o))) (by decide +kernel) (by
    intro x hx
    cases hx)
  simp only [RE.ev, ev_jH, ev_jR, ev_jX, ev_jY, ev_jZ, ev_dR, ev_dM, ev_dX, ev_dF, ev_dY, ev_dZ] at e
  exact e
set_option maxRecDepth 100000 in
set_option maxHeartbeats 2000000 in
theorem ec_back_x (h : RG K) (x1 y1 x2 y2 : K) (hy2 : y2 * y2 = ((((x2 * x2) * x2) + (y1 * y1)) - ((x1 * x1) * x1))) : ((jX (jX x1 y1 1 x2 y2 1) (jY x1 y1 1 x2 y2 1) (jZ x1 y1 1 x2 y2 1) x2 (-y2) 1) * (1 * 1)) = (x1 * ((jZ (jX x1 y1 1 x2 y2 1) (jY x1 y1 1 x2 y2 1) (jZ x1 y1 1 x2 y2 1) x2 (-y2) 1) * (jZ (jX x1 y1 1 x2 y2 1) (jY x1 y1 1 x2 y2 1) (jZ x1 y1 1 x2 y2 1) x2 (-y2) 1))) := by
  have e := rg_eq h (rgl [x1, y1, x2, y2]) [(3, (.sub (.add (.mul (.mul (.v 2) (.v 2)) (.v 2)) (.mul (.v 1) (.v 1))) (.mul (.mul (.v 0) (.v 0)) (.v 0))))] (.mul (jXE (jXE (.v 0) (.v 1) .o (.v 2) (.v 3) .o) (jYE (.v 0) (.v 1) .o (.v 2) (.v 3) .o) (jZE (.v 0) (.v 1) .o (.v 2) (.v 3) .o) (.v 2) (.neg (.v 3)) .o) (.mul .o .o)) (.mul (.v 0) (.mul (jZE (jXE (.v 0) (.v 1) .o (.v 2) (.v 3) .o) (jYE (.v 0) (.v 1) .o (.v 2) (.v 3) .o) (jZE (.v 0) (.v 1) .o (.v 2) (.v 3) .o) (.v 2) (.neg (.v 3)) .o) (jZE (jXE (.v 0) (.v 1) .o (.v 2) (.v 3) .o) (jYE (.v 0) (.v 1) .o (.v 2) (.v 3) .o) (jZE (.v 0) (.v 1) .o (.v 2) (.v 3) .o) (.v 2) (.neg (.v 3)) .o))) (by decide +kernel) (by
    intro x hx
    simp only [List.mem_cons, List.not_mem_nil, or_false] at hx
    rcases hx with rfl
    · exact hy2
    )
  simp only [RE.ev, ev_jH, ev_jR, ev_jX, ev_jY, ev_jZ, ev_dR, ev_dM, ev_dX, ev_dF, ev_dY, ev_dZ] at e
  exact e
set_option maxRecDepth 100000 in
set_option maxHeartbeats 2000000 in
theorem ec_back_y (h : RG K) (x1 y1 x2 y2 : K) (hy2 : y2 * y2 = ((((x2 * x2) * x2) + (y1 * y1)) - ((x1 * x1) * x1))) : ((jY (jX x1 y1 1 x2 y2 1) (jY x1 y1 1 x2 y2 1) (jZ x1 y1 1 x2 y2 1) x2 (-y2) 1) * ((1 * 1) * 1)) = (y1 * (((jZ (jX x1 y1 1 x2 y2 1) (jY x1 y1 1 x2 y2 1) (jZ x1 y1 1 x2 y2 1) x2 (-y2) 1) * (jZ (jX x1 y1 1 x2 y2 1) (jY x1 y1 1 x2 y2 1) (jZ x1 y1 1 x2 y2 1) x2 (-y2) 1)) * (jZ (jX x1 y1 1 x2 y2 1) (jY x1 y1 1 x2 y2 1) (jZ x1 y1 1 x2 y2 1) x2 (-y2) 1))) := by
  have e := rg_eq h (rgl [x1, y1, x2, y2]) [(3, (.sub (.add (.mul (.mul (.v 2) (.v 2)) (.v 2)) (.mul (.v 1) (.v 1))) (.mul (.mul (.v 0) (.v 0)) (.v 0))))] (.mul (jYE (jXE (.v 0) (.v 1) .o (.v 2) (.v 3) .o) (jYE (.v 0) (.v 1) .o (.v 2) (.v 3) .o) (jZE (.v 0) (.v 1) .o (.v 2) (.v 3) .o) (.v 2) (.neg (.v 3)) .o) (.mul (.mul .o .o) .o)) (.mul (.v 1) (.mul (.mul (jZE (jXE (.v 0) (.v 1) .o (.v 2) (.v 3) .o) (jYE (.v 0) (.v 1) .o (.v 2) (.v 3) .o) (jZE (.v 0) (.v 1) .o (.v 2) (.v 3) .o) (.v 2) (.neg (.v 3)) .o) (jZE (jXE (.v 0) (.v 1) .o (.v 2) (.v 3) .o) (jYE (.v 0) (.v 1) .o (.v 2) (.v 3) .o) (jZE (.v 0) (.v 1) .o (.v 2) (.v 3) .o) (.v 2) (.neg (.v 3)) .o)) (jZE (jXE (.v 0) (.v 1) .o (.v 2) (.v 3) .o) (jYE (.v 0) (.v 1) .o (.v 2) (.v 3) .o) (jZE (.v 0) (.v 1) .o (.v 2) (.v 3) .o) (.v 2) (.neg (.v 3)) .o))) (by decide +kernel) (by
    intro x hx
    simp only [List.mem_cons, List.not_mem_nil, or_false] at hx
    rcases hx with rfl
    · exact hy2
    )
  simp only [RE.ev, ev_jH, ev_jR, ev_jX, ev_jY, ev_jZ, ev_dR, ev_dM, ev_dX, ev_dF, ev_dY, ev_dZ] at e
  exact e
set_option maxRecDepth 100000 in
set_option maxHeartbeats 2000000 in
theorem ec_back_db_x (h : RG K) (x2 y2 : K) : ((jX (dX x2 y2 1) (dY x2 y2 1) (dZ x2 y2 1) x2 (-y2) 1) * (1 * 1)) = (x2 * ((jZ (dX x2 y2 1) (dY x2 y2 1) (dZ x2 y2 1) x2 (-y2) 1) * (jZ (dX x2 y2 1) (dY x2 y2 1) (dZ x2 y2 1) x2 (-y2) 1))) := by
  have e := rg_eq h (rgl [x2, y2]) [] (.mul (jXE (dXE (.v 0) (.v 1) .o) (dYE (.v 0) (.v 1) .o) (dZE (.v 0) (.v 1) .o) (.v 0) (.neg (.v 1)) .o) (.mul .o .o)) (.mul (.v 0) (.mul (jZE (dXE (.v 0) (.v 1) .o) (dYE (.v 0) (.v 1) .o) (dZE (.v 0) (.v 1) .o) (.v 0) (.neg (.v 1)) .o) (jZE (dXE (.v 0) (.v 1) .o) (dYE (.v 0) (.v 1) .o) (dZE (.v 0) (.v 1) .o) (.v 0) (.neg (.v 1)) .o))) (by decide +kernel) (by
    intro x hx
    cases hx)
  simp only [RE.ev, ev_jH, ev_jR, ev_jX, ev_jY, ev_jZ, ev_dR, ev_dM, ev_dX, ev_dF, ev_dY, ev_dZ] at e
  exact e
set_option maxRecDepth 100000 in
set_option maxHeartbeats 2000000 in
theorem ec_back_db_y (h : RG K) (x2 y2 : K) : ((jY (dX x2 y2 1) (dY x2 y2 1) (dZ x2 y2 1) x2 (-y2) 1) * ((1 * 1) * 1)) = (y2 * (((jZ (dX x2 y2 1) (dY x2 y2 1) (dZ x2 y2 1) x2 (-y2) 1) * (jZ (dX x2 y2 1) (dY x2 y2 1) (dZ x2 y2 1) x2 (-y2) 1)) * (jZ (dX x2 y2 1) (dY x2 y2 1) (dZ x2 y2 1) x2 (-y2) 1))) := by
  have e := rg_eq h (rgl [x2, y2]) [] (.mul (jYE (dXE (.v 0) (.v 1) .o) (dYE (.v 0) (.v 1) .o) (dZE (.v 0) (.v 1) .o) (.v 0) (.neg (.v 1)) .o) (.mul (.mul .o .o) .o)) (.mul (.v 1) (.mul (.mul (jZE (dXE (.v 0) (.v 1) .o) (dYE (.v 0) (.v 1) .o) (dZE (.v 0) (.v 1) .o) (.v 0) (.neg (.v 1)) .o) (jZE (dXE (.v 0) (.v 1) .o) (dYE (.v 0) (.v 1) .o) (dZE (.v 0) (.v 1) .o) (.v 0) (.neg (.v 1)) .o)) (jZE (dXE (.v 0) (.v 1) .o) (dYE (.v 0) (.v 1) .o) (dZE (.v 0) (.v 1) .o) (.v 0) (.neg (.v 1)) .o))) (by decide +kernel) (by
    intro x hx
    cases hx)
  simp only [RE.ev, ev_jH, ev_jR, ev_jX, ev_jY, ev_jZ, ev_dR, ev_dM, ev_dX, ev_dF, ev_dY, ev_dZ] at e
  exact e
def ecAXL : List (Nat × Int) := [(1267650600229382327399356563458, 6), (1267650600229382326299847032832, 8), (1267650600229382326299844935683, -24), (1267650600229382325200335405057, -24), (1267650600229382325200333307908, 36), (1267650600229382324100823777282, 24), (1267650600229382324100821680133, -24), (1267650600229382323001312149507, -8), (1267650600229382323001310052358, 6), (1267650600228229408093774020608, -2), (1267650600228229405894750765058, 12), (1267650600228229404795241234432, -8), (1267650600228229404795239137283, -8), (1267650600228229403695729606657, 24), (1267650600228229403695727509508, -18), (1267650600228229402596217978882, -24), (1267650600228229402596215881733, 24), (1267650600228229401496706351107, 8), (1267650600228229401496704253958, -8), (2417852792155161003819008, -2), (2417852792154061492191233, 8), (2417852792152961980563458, -12), (2417852792151862468935683, 8), (2417852792150762957307908, -2), (2417851639235855419179009, 1), (2417851639234755907551234, -3), (2417851639233656398020608, 2), (2417851639232556886392833, -8), (2417851639232556884295684, 10), (2417851639231457374765058, 12), (2417851639231457372667909, -15), (2417851639230357863137283, -8), (2417851639230357861040134, 9), (2417851639229258351509508, 2), (2417851639229258349412359, -2), (1208926972540531829112833, -4), (1208926972539432317485058, 4), (1208926972538332807954432, -8), (1208926972538332805857283, 12), (1208926972537233296326657, 16), (1208926972537233294229508, -20), (1208926972536133784698882, -8), (1208926972536133782601733, 8), (1208925819621226244472834, 1), (1208925819620126734942208, 4), (1208925819619027223314433, -4), (1208925819619027221217284, -6), (1208925819617927709589509, 4), (1208925819616828202156032, 8), (1208925819616828200058883, -16), (1208925819616828197961734, 9), (1208925819615728690528257, -16), (1208925819615728688431108, 28), (1208925819615728686333959, -12), (1208925819614629178900482, 8), (1208925819614629176803333, -12), (1208925819614629174706184, 4), (6597071863808, 2), (6597069766659, -2), (5497560236033, -12), (5497558138884, 12), (4398048608258, 30), (4398046511109, -30), (3298536980483, -40), (3298534883334, 40), (2199025352708, 30), (2199023255559, -30), (1099513724933, -12), (1099511627784, 12), (2097158, 2), (9, -2)]
def ecAX (x1 y1 x2 y2 x3 y3 : K) : K := prv (rgl [x1, y1, x2, y2, x3, y3]) ecAXL
set_option maxRecDepth 100000 in
set_option maxHeartbeats 2000000 in
theorem ec_AX (h : RG K) (x1 y1 x2 y2 x3 y3 : K) (hy2 : y2 * y2 = ((((x2 * x2) * x2) + (y1 * y1)) - ((x1 * x1) * x1))) (hy3 : y3 * y3 = ((((x3 * x3) * x3) + (y1 * y1)) - ((x1 * x1) * x1))) : (jX (jX x1 y1 1 x2 y2 1) (jY x1 y1 1 x2 y2 1) (jZ x1 y1 1 x2 y2 1) x3 y3 1) = (ecAX x1 y1 x2 y2 x3 y3) := by
  have e := rg_eq h (rgl [x1, y1, x2, y2, x3, y3]) [(3, (.sub (.add (.mul (.mul (.v 2) (.v 2)) (.v 2)) (.mul (.v 1) (.v 1))) (.mul (.mul (.v 0) (.v 0)) (.v 0)))), (5, (.sub (.add (.mul (.mul (.v 4) (.v 4)) (.v 4)) (.mul (.v 1) (.v 1))) (.mul (.mul (.v 0) (.v 0)) (.v 0))))] (.red (jXE (.red (jXE (.v 0) (.v 1) .o (.v 2) (.v 3) .o)) (.red (jYE (.v 0) (.v 1) .o (.v 2) (.v 3) .o)) (.red (jZE (.v 0) (.v 1) .o (.v 2) (.v 3) .o)) (.v 4) (.v 5) .o)) (.p ecAXL 9) (by decide +kernel) (by
    intro x hx
    simp only [List.mem_cons, List.not_mem_nil, or_false] at hx
    rcases hx with rfl | rfl
    · exact hy2
    · exact hy3
    )
  simp only [RE.ev, ev_jH, ev_jR, ev_jX, ev_jY, ev_jZ, ev_dR, ev_dM, ev_dX, ev_dF, ev_dY, ev_dZ] at e
  exact e
def ecAYL : List (Nat × Int) := [(1267651809155201945327067201537, 12), (1267651809155201944227555573762, -48), (1267651809155201943128046043136, 24), (1267651809155201943128043945987, 36), (1267651809155201942028534415361, -120), (1267651809155201942028532318212, 120), (1267651809155201940929022787586, 240), (1267651809155201940929020690437, -300), (1267651809155201939829511159811, -240), (1267651809155201939829509062662, 288), (1267651809155201938729999532036, 120), (1267651809155201938729997434887, -132), (1267651809155201937630487904261, -24), (1267651809155201937630485807112, 24), (1267651809154049026021482561538, -3), (1267651809154049024921973030912, -12), (1267651809154049024921970933763, 9), (1267651809154049023822461403137, 48), (1267651809154049023822459305988, 9), (1267651809154049022722949775362, -72), (1267651809154049022722947678213, -63), (1267651809154049021623440244736, -24), (1267651809154049021623438147587, 96), (1267651809154049021623436050438, 63), (1267651809154049020523928616961, 120), (1267651809154049020523926519812, -240), (1267651809154049020523924422663, 63), (1267651809154049019424416989186, -240), (1267651809154049019424414892037, 432), (1267651809154049019424412794888, -189), (1267651809154049018324905361411, 240), (1267651809154049018324903264262, -408), (1267651809154049018324901167113, 171), (1267651809154049017225393733636, -120), (1267651809154049017225391636487, 192), (1267651809154049017225389539338, -72), (1267651809154049016125882105861, 24), (1267651809154049016125880008712, -36), (1267651809154049016125877911563, 12), (1267650600229382330697892495362, 6), (1267650600229382329598382964736, 8), (1267650600229382329598380867587, -6), (1267650600229382328498869239812, -36), (1267650600229382327399359709186, -24), (1267650600229382327399357612037, 60), (1267650600229382326299850178560, 32), (1267650600229382326299848081411, -64), (1267650600229382326299845984262, 30), (1267650600229382325200338550785, -96), (1267650600229382325200336453636, 216), (1267650600229382325200334356487, -126), (1267650600229382324100826923010, 96), (1267650600229382324100824825861, -192), (1267650600229382324100822728712, 96), (1267650600229382323001315295235, -32), (1267650600229382323001313198086, 56), (1267650600229382323001311100937, -24), (1267650600228229411392309952512, -4), (1267650600228229411392307855363, 3), (1267650600228229410292798324737, 24), (1267650600228229410292796227588, -36), (1267650600228229409193286696962, -126), (1267650600228229409193284599813, 153), (1267650600228229408093777166336, -24), (1267650600228229408093775069187, 366), (1267650600228229408093772972038, -342), (1267650600228229406994265538561, 48), (1267650600228229406994263441412, -552), (1267650600228229406994261344263, 477), (1267650600228229405894753910786, -24), (1267650600228229405894751813637, 504), (1267650600228229405894749716488, -468), (1267650600228229404795244380160, -32), (1267650600228229404795242283011, 96), (1267650600228229404795240185862, -414), (1267650600228229404795238088713, 351), (1267650600228229403695732752385, 96), (1267650600228229403695730655236, -264), (1267650600228229403695728558087, 366), (1267650600228229403695726460938, -198), (1267650600228229402596221124610, -96), (1267650600228229402596219027461, 240), (1267650600228229402596216930312, -216), (1267650600228229402596214833163, 72), (1267650600228229401496709496835, 32), (1267650600228229401496707399686, -72), (1267650600228229401496705302537, 52), (1267650600228229401496703205388, -12), (3626778611773088712359938, -3), (3626778611771989202829312, -4), (3626778611771989200732163, 21), (3626778611770889691201537, 24), (3626778611770889689104388, -63), (3626778611769790179573762, -60), (3626778611769790177476613, 105), (3626778611768690667945987, 80), (3626778611768690665848838, -105), (3626778611767591156318212, -60), (3626778611767591154221063, 63), (3626778611766491644690437, 24), (3626778611766491642593288, -21), (3626778611765392133062662, -4), (3626778611765392130965513, 3), (3626777458853783129817088, 1), (3626777458852683618189313, -3), (3626777458851584106561538, -3), (3626777458850484597030912, 4), (3626777458850484594933763, 21), (3626777458849385085403137, -24), (3626777458849385083305988, -21), (3626777458848285573775362, 60), (3626777458848285571678213, -21), (3626777458847186062147587, -80), (3626777458847186060050438, 63), (3626777458846086550519812, 60), (3626777458846086548422663, -57), (3626777458844987038892037, -24), (3626777458844987036794888, 24), (3626777458843887527264262, 4), (3626777458843887525167113, -4), (2417852792158459539750912, -6), (2417852792158459537653763, -9), (2417852792157360028123137, -6), (2417852792157360026025988, 36), (2417852792156260516495362, 54), (2417852792156260514398213, -27), (2417852792155161006964736, -48), (2417852792155161004867587, 30), (2417852792155161002770438, -90), (2417852792154061495336961, 192), (2417852792154061493239812, -330), (2417852792154061491142663, 225), (2417852792152961983709186, -288), (2417852792152961981612037, 486), (2417852792152961979514888, -216), (2417852792151862472081411, 192), (2417852792151862469984262, -294), (2417852792151862467887113, 99), (2417852792150762960453636, -48), (2417852792150762958356487, 66), (2417852792150762956259338, -18), (2417851639239153955110913, 3), (2417851639238054443483138, 18), (2417851639236954933952512, 30), (2417851639236954931855363, -117), (2417851639235855422324737, -90), (2417851639235855420227588, 198), (2417851639234755910696962, 90), (2417851639234755908599813, -117), (2417851639233656401166336, 48), (2417851639233656399069187, -150), (2417851639233656396972038, 72), (2417851639232556889538561, -192), (2417851639232556887441412, 450), (2417851639232556885344263, -243), (2417851639231457377910786, 288), (2417851639231457375813637, -630), (2417851639231457373716488, 342), (2417851639230357866283011, -192), (2417851639230357864185862, 390), (2417851639230357862088713, -198), (2417851639229258354655236, 48), (2417851639229258352558087, -90), (2417851639229258350460938, 42), (1152929201190338562, -12), (1152929201188241413, 12), (1152928101680807936, -16), (1152928101678710787, 100), (1152928101676613638, -84), (1152927002169180161, 96), (1152927002167083012, -348), (1152927002164985863, 252), (1152925902657552386, -240), (1152925902655455237, 660), (1152925902653358088, -420), (1152924803145924611, 320), (1152924803143827462, -740), (1152924803141730313, 420), (1152923703634296836, -240), (1152923703632199687, 492), (1152923703630102538, -252), (1152922604122669061, 96), (1152922604120571912, -180), (1152922604118474763, 84), (1152921504611041286, -16), (1152921504608944137, 28), (1152921504606846988, -12), (9895607795712, 4), (9895605698563, -4), (8796096167937, -12), (8796094070788, 12), (7696584540162, -12), (7696582443013, 12), (6597075009536, 16), (6597072912387, 68), (6597070815238, -84), (5497563381761, -96), (5497561284612, 12), (5497559187463, 84), (4398051753986, 240), (4398049656837, -324), (4398047559688, 84), (3298540126211, -320), (3298538029062, 572), (3298535931913, -252), (2199028498436, 240), (2199026401287, -468), (2199024304138, 228), (1099516870661, -96), (1099514773512, 192), (1099512676363, -96), (5242886, 16), (3145737, -32), (1048588, 16)]
def ecAY (x1 y1 x2 y2 x3 y3 : K) : K := prv (rgl [x1, y1, x2, y2, x3, y3]) ecAYL
set_option maxRecDepth 100000 in
set_option maxHeartbeats 2000000 in
theorem ec_AY (h : RG K) (x1 y1 x2 y2 x3 y3 : K) (hy2 : y2 * y2 = ((((x2 * x2) * x2) + (y1 * y1)) - ((x1 * x1) * x1))) (hy3 : y3 * y3 = ((((x3 * x3) * x3) + (y1 * y1)) - ((x1 * x1) * x1))) : (jY (jX x1 y1 1 x2 y2 1) (jY x1 y1 1 x2 y2 1) (jZ x1 y1 1 x2 y2 1) x3 y3 1) = (ecAY x1 y1 x2 y2 x3 y3) := by
  have e := rg_eq h (rgl [x1, y1, x2, y2, x3, y3]) [(3, (.sub (.add (.mul (.mul (.v 2) (.v 2)) (.v 2)) (.mul (.v 1) (.v 1))) (.mul (.mul (.v 0) (.v 0)) (.v 0)))), (5, (.sub (.add (.mul (.mul (.v 4) (.v 4)) (.v 4)) (.mul (.v 1) (.v 1))) (.mul (.mul (.v 0) (.v 0)) (.v 0))))] (.red (jYE (.red (jXE (.v 0) (.v 1) .o (.v 2) (.v 3) .o)) (.red (jYE (.v 0) (.v 1) .o (.v 2) (.v 3) .o)) (.red (jZE (.v 0) (.v 1) .o (.v 2) (.v 3) .o)) (.v 4) (.v 5) .o)) (.p ecAYL 12) (by decide +kernel) (by
    intro x hx
    simp only [List.mem_cons, List.not_mem_nil, or_false] at hx
    rcases hx with rfl | rfl
    · exact hy2
    · exact hy3
    )
  simp only [RE.ev, ev_jH, ev_jR, ev_jX, ev_jY, ev_jZ, ev_dR, ev_dM, ev_dX, ev_dF, ev_dY, ev_dZ] at e
  exact e
def ecAZL : List (Nat × Int) := [(1208925819617927709589504, 1), (1208925819616828197961729, -3), (1208925819615728686333954, 3), (1208925819614629174706179, -1), (1152922604119523328, 2), (1152921504607895553, -2), (3298534883329, -1), (1099513724928, -2), (1099511627779, 3), (2097153, 2), (4, -2)]
def ecAZ (x1 y1 x2 y2 x3 y3 : K) : K := prv (rgl [x1, y1, x2, y2, x3, y3]) ecAZL
set_option maxRecDepth 100000 in
set_option maxHeartbeats 2000000 in
theorem ec_AZ (h : RG K) (x1 y1 x2 y2 x3 y3 : K) (hy2 : y2 * y2 = ((((x2 * x2) * x2) + (y1 * y1)) - ((x1 * x1) * x1))) (hy3 : y3 * y3 = ((((x3 * x3) * x3) + (y1 * y1)) - ((x1 * x1) * x1))) : (jZ (jX x1 y1 1 x2 y2 1) (jY x1 y1 1 x2 y2 1) (jZ x1 y1 1 x2 y2 1) x3 y3 1) = (ecAZ x1 y1 x2 y2 x3 y3) := by
  have e := rg_eq h (rgl [x1, y1, x2, y2, x3, y3]) [(3, (.sub (.add (.mul (.mul (.v 2) (.v 2)) (.v 2)) (.mul (.v 1) (.v 1))) (.mul (.mul (.v 0) (.v 0)) (.v 0)))), (5, (.sub (.add (.mul (.mul (.v 4) (.v 4)) (.v 4)) (.mul (.v 1) (.v 1))) (.mul (.mul (.v 0) (.v 0)) (.v 0))))] (.red (jZE (.red (jXE (.v 0) (.v 1) .o (.v 2) (.v 3) .o)) (.red (jYE (.v 0) (.v 1) .o (.v 2) (.v 3) .o)) (.red (jZE (.v 0) (.v 1) .o (.v 2) (.v 3) .o)) (.v 4) (.v 5) .o)) (.p ecAZL 4) (by decide +kernel) (by
    intro x hx
    simp only [List.mem_cons, List.not_mem_nil, or_false] at hx
    rcases hx with rfl | rfl
    · exact hy2
    · exact hy3
    )
  simp only [RE.ev, ev_jH, ev_jR, ev_jX, ev_jY, ev_jZ, ev_dR, ev_dM, ev_dX, ev_dF, ev_dY, ev_dZ] at e
  exact e
def ecBXL : List (Nat × Int) := [(1267655435932660782617520504833, -4), (1267655435932660781518008877058, -2), (1267655435931507862212426334208, 6), (1267654227006841169087857426433, 4), (1267654227006841167988345798658, 8), (1267654227005688248682763255808, -16), (1267654227005688245384230469632, 8), (1267654227005688245384228372483, -8), (1267653018081021555558194348033, 4), (1267653018081021554458682720258, -12), (1267653018081021552259661561857, -8), (1267653018081021552259659464708, 8), (1267653018079868635153100177408, 12), (1267653018079868631854567391232, -24), (1267653018079868631854565294083, 24), (1267651809155201942028531269633, -4), (1267651809155201940929019641858, 8), (1267651809155201938729998483457, 16), (1267651809155201938729996386308, -16), (1267651809154049018324904312832, 24), (1267651809154049018324902215683, -24), (1267650600229382327399356563458, -2), (1267650600229382325200335405057, -8), (1267650600229382325200333307908, 8), (1267650600228229408093774020608, -2), (1267650600228229404795241234432, -8), (1267650600228229404795239137283, 8), (7253556070609279656132608, -2), (7253554917689974071492609, 1), (7253554917688874559864834, 1), (7253554917687775050334208, 2), (7253554917687775048237059, -2), (6044629098076444408414209, 4), (6044629098075344896786434, -3), (6044629098074245387255808, -12), (6044629098074245385158659, 12), (6044629098073145875628033, 4), (6044629098073145873530884, -4), (4835704431382220329975808, 12), (4835703278462914745335809, -10), (4835703278461815233708034, 2), (4835703278460715724177408, 30), (4835703278460715722080259, -30), (4835703278459616212549633, -4), (4835703278459616210452484, 4), (4835703278458516700921858, 2), (4835703278458516698824709, -2), (3626778611768690666897408, -16), (3626778611765392134111232, -8), (3626778611765392132014083, 8), (3626777458849385082257409, 4), (3626777458848285570629634, 2), (3626777458847186061099008, -40), (3626777458847186059001859, 40), (3626777458844987037843458, -8), (3626777458844987035746309, 8), (2417852792155161003819008, 6), (2417852792151862471032832, 24), (2417852792151862468935683, -24), (2417851639235855419179009, 1), (2417851639234755907551234, -3), (2417851639233656398020608, 30), (2417851639233656395923459, -30), (2417851639231457374765058, 12), (2417851639231457372667909, -12), (2417851639229258353606657, 8), (2417851639229258351509508, -16), (2417851639229258349412359, 8), (1208926972538332807954432, -24), (1208926972538332805857283, 24), (1208925819621226244472834, 1), (1208925819620126734942208, -12), (1208925819620126732845059, 12), (1208925819619027223314433, -4), (1208925819619027221217284, 4), (1208925819617927711686658, -8), (1208925819617927709589509, 8), (1208925819615728690528257, -16), (1208925819615728688431108, 32), (1208925819615728686333959, -16), (1152924803144876032, 8), (1152924803142778883, -8), (6597071863808, 2), (6597069766659, -2), (5497560236033, 4), (5497558138884, -4), (4398048608258, 2), (4398046511109, -2), (2199027449857, 8), (2199025352708, -16), (2199023255559, 8)]
def ecBX (x1 y1 x2 y2 x3 y3 : K) : K := prv (rgl [x1, y1, x2, y2, x3, y3]) ecBXL
set_option maxRecDepth 100000 in
set_option maxHeartbeats 2000000 in
theorem ec_BX (h : RG K) (x1 y1 x2 y2 x3 y3 : K) (hy2 : y2 * y2 = ((((x2 * x2) * x2) + (y1 * y1)) - ((x1 * x1) * x1))) (hy3 : y3 * y3 = ((((x3 * x3) * x3) + (y1 * y1)) - ((x1 * x1) * x1))) : (jX x1 y1 1 (jX x2 y2 1 x3 y3 1) (jY x2 y2 1 x3 y3 1) (jZ x2 y2 1 x3 y3 1)) = (ecBX x1 y1 x2 y2 x3 y3) := by
  have e := rg_eq h (rgl [x1, y1, x2, y2, x3, y3]) [(3, (.sub (.add (.mul (.mul (.v 2) (.v 2)) (.v 2)) (.mul (.v 1) (.v 1))) (.mul (.mul (.v 0) (.v 0)) (.v 0)))), (5, (.sub (.add (.mul (.mul (.v 4) (.v 4)) (.v 4)) (.mul (.v 1) (.v 1))) (.mul (.mul (.v 0) (.v 0)) (.v 0))))] (.red (jXE (.v 0) (.v 1) .o (.red (jXE (.v 2) (.v 3) .o (.v 4) (.v 5) .o)) (.red (jYE (.v 2) (.v 3) .o (.v 4) (.v 5) .o)) (.red (jZE (.v 2) (.v 3) .o (.v 4) (.v 5) .o)))) (.p ecBXL 7) (by decide +kernel) (by
    intro x hx
    simp only [List.mem_cons, List.not_mem_nil, or_false] at hx
    rcases hx with rfl | rfl
    · exact hy2
    · exact hy3
    )
  simp only [RE.ev, ev_jH, ev_jR, ev_jX, ev_jY, ev_jZ, ev_dR, ev_dM, ev_dX, ev_dF, ev_dY, ev_dZ] at e
  exact e
def ecBZL : List (Nat × Int) := [(1267651809155201937630484758528, -2), (1267650600229382324100821680128, 2), (3626777458844987035746304, 1), (3626777458843887524118529, -1), (2417851639230357861040129, 3), (1208925819617927709589504, -1), (1208925819616828197961729, -3), (1208925819614629176803328, 2), (1208925819614629174706179, -2), (3298534883329, 1), (1099513724928, -2), (1099511627779, 2)]
def ecBZ (x1 y1 x2 y2 x3 y3 : K) : K := prv (rgl [x1, y1, x2, y2, x3, y3]) ecBZL
set_option maxRecDepth 100000 in
set_option maxHeartbeats 2000000 in
theorem ec_BZ (h : RG K) (x1 y1 x2 y2 x3 y3 : K) (hy2 : y2 * y2 = ((((x2 * x2) * x2) + (y1 * y1)) - ((x1 * x1) * x1))) (hy3 : y3 * y3 = ((((x3 * x3) * x3) + (y1 * y1)) - ((x1 * x1) * x1))) : (jZ x1 y1 1 (jX x2 y2 1 x3 y3 1) (jY x2 y2 1 x3 y3 1) (jZ x2 y2 1 x3 y3 1)) = (ecBZ x1 y1 x2 y2 x3 y3) := by
  have e := rg_eq h (rgl [x1, y1, x2, y2, x3, y3]) [(3, (.sub (.add (.mul (.mul (.v 2) (.v 2)) (.v 2)) (.mul (.v 1) (.v 1))) (.mul (.mul (.v 0) (.v 0)) (.v 0)))), (5, (.sub (.add (.mul (.mul (.v 4) (.v 4)) (.v 4)) (.mul (.v 1) (.v 1))) (.mul (.mul (.v 0) (.v 0)) (.v 0))))] (.red (jZE (.v 0) (.v 1) .o (.red (jXE (.v 2) (.v 3) .o (.v 4) (.v 5) .o)) (.red (jYE (.v 2) (.v 3) .o (.v 4) (.v 5) .o)) (.red (jZE (.v 2) (.v 3) .o (.v 4) (.v 5) .o)))) (.p ecBZL 3) (by decide +kernel) (by
    intro x hx
    simp only [List.mem_cons, List.not_mem_nil, or_false] at hx
    rcases hx with rfl | rfl
    · exact hy2
    · exact hy3
    )
  simp only [RE.ev, ev_jH, ev_jR, ev_jX, ev_jY, ev_jZ, ev_dR, ev_dM, ev_dX, ev_dF, ev_dY, ev_dZ] at e
  exact e
set_option maxRecDepth 100000 in
set_option maxHeartbeats 2000000 in
theorem ec_cc_x (h : RG K) (x1 y1 x2 y2 x3 y3 : K) (hy2 : y2 * y2 = ((((x2 * x2) * x2) + (y1 * y1)) - ((x1 * x1) * x1))) (hy3 : y3 * y3 = ((((x3 * x3) * x3) + (y1 * y1)) - ((x1 * x1) * x1))) : ((ecAX x1 y1 x2 y2 x3 y3) * ((ecBZ x1 y1 x2 y2 x3 y3) * (ecBZ x1 y1 x2 y2 x3 y3))) = ((ecBX x1 y1 x2 y2 x3 y3) * ((ecAZ x1 y1 x2 y2 x3 y3) * (ecAZ x1 y1 x2 y2 x3 y3))) := by
  have e := rg_eq h (rgl [x1, y1, x2, y2, x3, y3]) [(3, (.sub (.add (.mul (.mul (.v 2) (.v 2)) (.v 2)) (.mul (.v 1) (.v 1))) (.mul (.mul (.v 0) (.v 0)) (.v 0)))), (5, (.sub (.add (.mul (.mul (.v 4) (.v 4)) (.v 4)) (.mul (.v 1) (.v 1))) (.mul (.mul (.v 0) (.v 0)) (.v 0))))] (.mul (.p ecAXL 9) (.mul (.p ecBZL 3) (.p ecBZL 3))) (.mul (.p ecBXL 7) (.mul (.p ecAZL 4) (.p ecAZL 4))) (by decide +kernel) (by
    intro x hx
    simp only [List.mem_cons, List.not_mem_nil, or_false] at hx
    rcases hx with rfl | rfl
    · exact hy2
    · exact hy3
    )
  simp only [RE.ev, ev_jH, ev_jR, ev_jX, ev_jY, ev_jZ, ev_dR, ev_dM, ev_dX, ev_dF, ev_dY, ev_dZ] at e
  exact e
set_option maxRecDepth 100000 in
set_option maxHeartbeats 2000000 in
theorem ec_cc_y (h : RG K) (x1 y1 x2 y2 x3 y3 : K) (hy2 : y2 * y2 = ((((x2 * x2) * x2) + (y1 * y1)) - ((x1 * x1) * x1))) (hy3 : y3 * y3 = ((((x3 * x3) * x3) + (y1 * y1)) - ((x1 * x1) * x1))) : ((ecAY x1 y1 x2 y2 x3 y3) * (ecBZ x1 y1 x2 y2 x3 y3)) = ((ecAZ x1 y1 x2 y2 x3 y3) * (((jR x1 y1 1 (jX x2 y2 1 x3 y3 1) (jY x2 y2 1 x3 y3 1) (jZ x2 y2 1 x3 y3 1)) * ((x1 * ((ecAZ x1 y1 x2 y2 x3 y3) * (ecAZ x1 y1 x2 y2 x3 y3))) - (ecAX x1 y1 x2 y2 x3 y3))) - ((y1 * (ecBZ x1 y1 x2 y2 x3 y3)) * ((ecAZ x1 y1 x2 y2 x3 y3) * (ecAZ x1 y1 x2 y2 x3 y3))))) := by
  have e := rg_eq h (rgl [x1, y1, x2, y2, x3, y3]) [(3, (.sub (.add (.mul (.mul (.v 2) (.v 2)) (.v 2)) (.mul (.v 1) (.v 1))) (.mul (.mul (.v 0) (.v 0)) (.v 0)))), (5, (.sub (.add (.mul (.mul (.v 4) (.v 4)) (.v 4)) (.mul (.v 1) (.v 1))) (.mul (.mul (.v 0) (.v 0)) (.v 0))))] (.mul (.p ecAYL 12) (.p ecBZL 3)) (.mul (.p ecAZL 4) (.sub (.mul (.red (jRE (.v 0) (.v 1) .o (.red (jXE (.v 2) (.v 3) .o (.v 4) (.v 5) .o)) (.red (jYE (.v 2) (.v 3) .o (.v 4) (.v 5) .o)) (.red (jZE (.v 2) (.v 3) .o (.v 4) (.v 5) .o)))) (.sub (.mul (.v 0) (.mul (.p ecAZL 4) (.p ecAZL 4))) (.p ecAXL 9))) (.mul (.mul (.v 1) (.p ecBZL 3)) (.mul (.p ecAZL 4) (.p ecAZL 4))))) (by decide +kernel) (by
    intro x hx
    simp only [List.mem_cons, List.not_mem_nil, or_false] at hx
    rcases hx with rfl | rfl
    · exact hy2
    · exact hy3
    )
  simp only [RE.ev, ev_jH, ev_jR, ev_jX, ev_jY, ev_jZ, ev_dR, ev_dM, ev_dX, ev_dF, ev_dY, ev_dZ] at e
  exact e
set_option maxRecDepth 100000 in
set_option maxHeartbeats 2000000 in
theorem ec_tc_x (h : RG K) (x1 y1 x2 y2 : K) (hy2 : y2 * y2 = ((((x2 * x2) * x2) + (y1 * y1)) - ((x1 * x1) * x1))) : ((jX (dX x1 y1 1) (dY x1 y1 1) (dZ x1 y1 1) x2 y2 1) * ((jZ x1 y1 1 (jX x1 y1 1 x2 y2 1) (jY x1 y1 1 x2 y2 1) (jZ x1 y1 1 x2 y2 1)) * (jZ x1 y1 1 (jX x1 y1 1 x2 y2 1) (jY x1 y1 1 x2 y2 1) (jZ x1 y1 1 x2 y2 1)))) = ((jX x1 y1 1 (jX x1 y1 1 x2 y2 1) (jY x1 y1 1 x2 y2 1) (jZ x1 y1 1 x2 y2 1)) * ((jZ (dX x1 y1 1) (dY x1 y1 1) (dZ x1 y1 1) x2 y2 1) * (jZ (dX x1 y1 1) (dY x1 y1 1) (dZ x1 y1 1) x2 y2 1))) := by
  have e := rg_eq h (rgl [x1, y1, x2, y2]) [(3, (.sub (.add (.mul (.mul (.v 2) (.v 2)) (.v 2)) (.mul (.v 1) (.v 1))) (.mul (.mul (.v 0) (.v 0)) (.v 0))))] (.mul (.red (jXE (dXE (.v 0) (.v 1) .o) (dYE (.v 0) (.v 1) .o) (dZE (.v 0) (.v 1) .o) (.v 2) (.v 3) .o)) (.mul (.red (jZE (.v 0) (.v 1) .o (.red (jXE (.v 0) (.v 1) .o (.v 2) (.v 3) .o)) (.red (jYE (.v 0) (.v 1) .o (.v 2) (.v 3) .o)) (.red (jZE (.v 0) (.v 1) .o (.v 2) (.v 3) .o)))) (.red (jZE (.v 0) (.v 1) .o (.red (jXE (.v 0) (.v 1) .o (.v 2) (.v 3) .o)) (.red (jYE (.v 0) (.v 1) .o (.v 2) (.v 3) .o)) (.red (jZE (.v 0) (.v 1) .o (.v 2) (.v 3) .o)))))) (.mul (.red (jXE (.v 0) (.v 1) .o (.red (jXE (.v 0) (.v 1) .o (.v 2) (.v 3) .o)) (.red (jYE (.v 0) (.v 1) .o (.v 2) (.v 3) .o)) (.red (jZE (.v 0) (.v 1) .o (.v 2) (.v 3) .o)))) (.mul (.red (jZE (dXE (.v 0) (.v 1) .o) (dYE (.v 0) (.v 1) .o) (dZE (.v 0) (.v 1) .o) (.v 2) (.v 3) .o)) (.red (jZE (dXE (.v 0) (.v 1) .o) (dYE (.v 0) (.v 1) .o) (dZE (.v 0) (.v 1) .o) (.v 2) (.v 3) .o)))) (by decide +kernel) (by
    intro x hx
    simp only [List.mem_cons, List.not_mem_nil, or_false] at hx
    rcases hx with rfl
    · exact hy2
    )
  simp only [RE.ev, ev_jH, ev_jR, ev_jX, ev_jY, ev_jZ, ev_dR, ev_dM, ev_dX, ev_dF, ev_dY, ev_dZ] at e
  exact e
set_option maxRecDepth 100000 in
set_option maxHeartbeats 2000000 in
theorem ec_tc_y (h : RG K) (x1 y1 x2 y2 : K) (hy2 : y2 * y2 = ((((x2 * x2) * x2) + (y1 * y1)) - ((x1 * x1) * x1))) : ((jY (dX x1 y1 1) (dY x1 y1 1) (dZ x1 y1 1) x2 y2 1) * (((jZ x1 y1 1 (jX x1 y1 1 x2 y2 1) (jY x1 y1 1 x2 y2 1) (jZ x1 y1 1 x2 y2 1)) * (jZ x1 y1 1 (jX x1 y1 1 x2 y2 1) (jY x1 y1 1 x2 y2 1) (jZ x1 y1 1 x2 y2 1))) * (jZ x1 y1 1 (jX x1 y1 1 x2 y2 1) (jY x1 y1 1 x2 y2 1) (jZ x1 y1 1 x2 y2 1)))) = ((jY x1 y1 1 (jX x1 y1 1 x2 y2 1) (jY x1 y1 1 x2 y2 1) (jZ x1 y1 1 x2 y2 1)) * (((jZ (dX x1 y1 1) (dY x1 y1 1) (dZ x1 y1 1) x2 y2 1) * (jZ (dX x1 y1 1) (dY x1 y1 1) (dZ x1 y1 1) x2 y2 1)) * (jZ (dX x1 y1 1) (dY x1 y1 1) (dZ x1 y1 1) x2 y2 1))) := by
  have e := rg_eq h (rgl [x1, y1, x2, y2]) [(3, (.sub (.add (.mul (.mul (.v 2) (.v 2)) (.v 2)) (.mul (.v 1) (.v 1))) (.mul (.mul (.v 0) (.v 0)) (.v 0))))] (.mul (.red (jYE (dXE (.v 0) (.v 1) .o) (dYE (.v 0) (.v 1) .o) (dZE (.v 0) (.v 1) .o) (.v 2) (.v 3) .o)) (.mul (.mul (.red (jZE (.v 0) (.v 1) .o (.red (jXE (.v 0) (.v 1) .o (.v 2) (.v 3) .o)) (.red (jYE (.v 0) (.v 1) .o (.v 2) (.v 3) .o)) (.red (jZE (.v 0) (.v 1) .o (.v 2) (.v 3) .o)))) (.red (jZE (.v 0) (.v 1) .o (.red (jXE (.v 0) (.v 1) .o (.v 2) (.v 3) .o)) (.red (jYE (.v 0) (.v 1) .o (.v 2) (.v 3) .o)) (.red (jZE (.v 0) (.v 1) .o (.v 2) (.v 3) .o))))) (.red (jZE (.v 0) (.v 1) .o (.red (jXE (.v 0) (.v 1) .o (.v 2) (.v 3) .o)) (.red (jYE (.v 0) (.v 1) .o (.v 2) (.v 3) .o)) (.red (jZE (.v 0) (.v 1) .o (.v 2) (.v 3) .o)))))) (.mul (.red (jYE (.v 0) (.v 1) .o (.red (jXE (.v 0) (.v 1) .o (.v 2) (.v 3) .o)) (.red (jYE (.v 0) (.v 1) .o (.v 2) (.v 3) .o)) (.red (jZE (.v 0) (.v 1) .o (.v 2) (.v 3) .o)))) (.mul (.mul (.red (jZE (dXE (.v 0) (.v 1) .o) (dYE (.v 0) (.v 1) .o) (dZE (.v 0) (.v 1) .o) (.v 2) (.v 3) .o)) (.red (jZE (dXE (.v 0) (.v 1) .o) (dYE (.v 0) (.v 1) .o) (dZE (.v 0) (.v 1) .o) (.v 2) (.v 3) .o))) (.red (jZE (dXE (.v 0) (.v 1) .o) (dYE (.v 0) (.v 1) .o) (dZE (.v 0) (.v 1) .o) (.v 2) (.v 3) .o)))) (by decide +kernel) (by
    intro x hx
    simp only [List.mem_cons, List.not_mem_nil, or_false] at hx
    rcases hx with rfl
    · exact hy2
    )
  simp only [RE.ev, ev_jH, ev_jR, ev_jX, ev_jY, ev_jZ, ev_dR, ev_dM, ev_dX, ev_dF, ev_dY, ev_dZ] at e
  exact e
def ecCXL : List (Nat × Int) := [(1152921504607895552, -2), (2199023255553, 1), (1099511627778, 1), (2097152, 2), (3, -2)]
def ecCX (x1 y1 x2 y2 : K) : K := prv (rgl [x1, y1, x2, y2]) ecCXL
set_option maxRecDepth 100000 in
set_option maxHeartbeats 2000000 in
theorem ec_CX (h : RG K) (x1 y1 x2 y2 : K) (hy2 : y2 * y2 = ((((x2 * x2) * x2) + (y1 * y1)) - ((x1 * x1) * x1))) : (jX x1 y1 1 x2 y2 1) = (ecCX x1 y1 x2 y2) := by
  have e := rg_eq h (rgl [x1, y1, x2, y2]) [(3, (.sub (.add (.mul (.mul (.v 2) (.v 2)) (.v 2)) (.mul (.v 1) (.v 1))) (.mul (.mul (.v 0) (.v 0)) (.v 0))))] (.red (jXE (.v 0) (.v 1) .o (.v 2) (.v 3) .o)) (.p ecCXL 3) (by decide +kernel) (by
    intro x hx
    simp only [List.mem_cons, List.not_mem_nil, or_false] at hx
    rcases hx with rfl
    · exact hy2
    )
  simp only [RE.ev, ev_jH, ev_jR, ev_jX, ev_jY, ev_jZ, ev_dR, ev_dM, ev_dX, ev_dF, ev_dY, ev_dZ] at e
  exact e
def ecCYL : List (Nat × Int) := [(1152922604118474754, -3), (1152921504608944128, -4), (1152921504606846979, 3), (3298535931904, 1), (2199024304129, 3), (3145728, 4), (1048579, -4)]
def ecCY (x1 y1 x2 y2 : K) : K := prv (rgl [x1, y1, x2, y2]) ecCYL
set_option maxRecDepth 100000 in
set_option maxHeartbeats 2000000 in
theorem ec_CY (h : RG K) (x1 y1 x2 y2 : K) (hy2 : y2 * y2 = ((((x2 * x2) * x2) + (y1 * y1)) - ((x1 * x1) * x1))) : (jY x1 y1 1 x2 y2 1) = (ecCY x1 y1 x2 y2) := by
  have e := rg_eq h (rgl [x1, y1, x2, y2]) [(3, (.sub (.add (.mul (.mul (.v 2) (.v 2)) (.v 2)) (.mul (.v 1) (.v 1))) (.mul (.mul (.v 0) (.v 0)) (.v 0))))] (.red (jYE (.v 0) (.v 1) .o (.v 2) (.v 3) .o)) (.p ecCYL 3) (by decide +kernel) (by
    intro x hx
    simp only [List.mem_cons, List.not_mem_nil, or_false] at hx
    rcases hx with rfl
    · exact hy2
    )
  simp only [RE.ev, ev_jH, ev_jR, ev_jX, ev_jY, ev_jZ, ev_dR, ev_dM, ev_dX, ev_dF, ev_dY, ev_dZ] at e
  exact e
def ecCZL : List (Nat × Int) := [(1099511627776, 1), (1, -1)]
def ecCZ (x1 y1 x2 y2 : K) : K := prv (rgl [x1, y1, x2, y2]) ecCZL
set_option maxRecDepth 100000 in
set_option maxHeartbeats 2000000 in
theorem ec_CZ (h : RG K) (x1 y1 x2 y2 : K) (hy2 : y2 * y2 = ((((x2 * x2) * x2) + (y1 * y1)) - ((x1 * x1) * x1))) : (jZ x1 y1 1 x2 y2 1) = (ecCZ x1 y1 x2 y2) := by
  have e := rg_eq h (rgl [x1, y1, x2, y2]) [(3, (.sub (.add (.mul (.mul (.v 2) (.v 2)) (.v 2)) (.mul (.v 1) (.v 1))) (.mul (.mul (.v 0) (.v 0)) (.v 0))))] (.red (jZE (.v 0) (.v 1) .o (.v 2) (.v 3) .o)) (.p ecCZL 1) (by decide +kernel) (by
    intro x hx
    simp only [List.mem_cons, List.not_mem_nil, or_false] at hx
    rcases hx with rfl
    · exact hy2
    )
  simp only [RE.ev, ev_jH, ev_jR, ev_jX, ev_jY, ev_jZ, ev_dR, ev_dM, ev_dX, ev_dF, ev_dY, ev_dZ] at e
  exact e
def ecDXL : List (Nat × Int) := [(1152928101677662208, -4), (1152927002166034433, 4), (1152925902654406658, 4), (1152924803144876032, -16), (1152924803142778883, 12), (1152923703633248257, 40), (1152923703631151108, -40), (1152922604121620482, -32), (1152922604119523333, 32), (1152921504609992707, 8), (1152921504607895558, -8), (8796093022209, 1), (7696581394434, 4), (6597071863808, 16), (6597069766659, -26), (5497560236033, -48), (5497558138884, 52), (4398048608258, 72), (4398046511109, -71), (3298539077632, 16), (3298536980483, -104), (3298534883334, 88), (2199027449857, -40), (2199025352708, 120), (2199023255559, -80), (1099515822082, 32), (1099513724933, -72), (1099511627784, 40), (4194307, -8), (2097158, 16), (9, -8)]
def ecDX (x1 y1 x2 y2 : K) : K := prv (rgl [x1, y1, x2, y2]) ecDXL
set_option maxRecDepth 100000 in
set_option maxHeartbeats 2000000 in
theorem ec_DX (h : RG K) (x1 y1 x2 y2 : K) (hy2 : y2 * y2 = ((((x2 * x2) * x2) + (y1 * y1)) - ((x1 * x1) * x1))) : (jX x2 y2 1 (ecCX x1 y1 x2 y2) (ecCY x1 y1 x2 y2) (ecCZ x1 y1 x2 y2)) = (ecDX x1 y1 x2 y2) := by
  have e := rg_eq h (rgl [x1, y1, x2, y2]) [(3, (.sub (.add (.mul (.mul (.v 2) (.v 2)) (.v 2)) (.mul (.v 1) (.v 1))) (.mul (.mul (.v 0) (.v 0)) (.v 0))))] (.red (jXE (.v 2) (.v 3) .o (.p ecCXL 3) (.p ecCYL 3) (.p ecCZL 1))) (.p ecDXL 9) (by decide +kernel) (by
    intro x hx
    simp only [List.mem_cons, List.not_mem_nil, or_false] at hx
    rcases hx with rfl
    · exact hy2
    )
  simp only [RE.ev, ev_jH, ev_jR, ev_jX, ev_jY, ev_jZ, ev_dR, ev_dM, ev_dX, ev_dF, ev_dY, ev_dZ] at e
  exact e
def ecDYL : List (Nat × Int) := [(1152932499723124738, 6), (1152931400213594112, 26), (1152931400211496963, -24), (1152930300701966337, -90), (1152930300699869188, 54), (1152929201190338562, 216), (1152929201188241413, -180), (1152928101680807936, 112), (1152928101678710787, -672), (1152928101676613638, 558), (1152927002169180161, -456), (1152927002167083012, 1530), (1152927002164985863, -1080), (1152925902657552386, 792), (1152925902655455237, -2106), (1152925902653358088, 1314), (1152924803148021760, 32), (1152924803145924611, -848), (1152924803143827462, 1860), (1152924803141730313, -1044), (1152923703636393985, -96), (1152923703634296836, 672), (1152923703632199687, -1116), (1152923703630102538, 540), (1152922604124766210, 96), (1152922604122669061, -360), (1152922604120571912, 432), (1152922604118474763, -168), (1152921504613138435, -32), (1152921504611041286, 88), (1152921504608944137, -80), (1152921504606846988, 24), (13194140581888, -1), (12094628954113, -12), (10995117326338, 27), (9895607795712, -70), (9895605698563, 70), (8796096167937, 234), (8796094070788, -261), (7696584540162, -312), (7696582443013, 324), (6597075009536, -128), (6597072912387, 468), (6597070815238, -339), (5497563381761, 504), (5497561284612, -1062), (5497559187463, 558), (4398051753986, -840), (4398049656837, 1650), (4398047559688, -810), (3298542223360, -32), (3298540126211, 880), (3298538029062, -1644), (3298535931913, 796), (2199030595585, 96), (2199028498436, -720), (2199026401287, 1152), (2199024304138, -528), (1099518967810, -96), (1099516870661, 408), (1099514773512, -528), (1099512676363, 216), (7340035, 32), (5242886, -104), (3145737, 112), (1048588, -40)]
def ecDY (x1 y1 x2 y2 : K) : K := prv (rgl [x1, y1, x2, y2]) ecDYL
set_option maxRecDepth 100000 in
set_option maxHeartbeats 2000000 in
theorem ec_DY (h : RG K) (x1 y1 x2 y2 : K) (hy2 : y2 * y2 = ((((x2 * x2) * x2) + (y1 * y1)) - ((x1 * x1) * x1))) : (jY x2 y2 1 (ecCX x1 y1 x2 y2) (ecCY x1 y1 x2 y2) (ecCZ x1 y1 x2 y2)) = (ecDY x1 y1 x2 y2) := by
  have e := rg_eq h (rgl [x1, y1, x2, y2]) [(3, (.sub (.add (.mul (.mul (.v 2) (.v 2)) (.v 2)) (.mul (.v 1) (.v 1))) (.mul (.mul (.v 0) (.v 0)) (.v 0))))] (.red (jYE (.v 2) (.v 3) .o (.p ecCXL 3) (.p ecCYL 3) (.p ecCZL 1))) (.p ecDYL 12) (by decide +kernel) (by
    intro x hx
    simp only [List.mem_cons, List.not_mem_nil, or_false] at hx
    rcases hx with rfl
    · exact hy2
    )
  simp only [RE.ev, ev_jH, ev_jR, ev_jX, ev_jY, ev_jZ, ev_dR, ev_dM, ev_dX, ev_dF, ev_dY, ev_dZ] at e
  exact e
def ecDZL : List (Nat × Int) := [(1152922604119523328, -2), (1152921504607895553, 2), (4398046511104, -1), (3298534883329, 4), (2199023255554, -3), (1099513724928, 2), (1099511627779, -2), (2097153, -2), (4, 2)]
def ecDZ (x1 y1 x2 y2 : K) : K := prv (rgl [x1, y1, x2, y2]) ecDZL
set_option maxRecDepth 100000 in
set_option maxHeartbeats 2000000 in
theorem ec_DZ (h : RG K) (x1 y1 x2 y2 : K) (hy2 : y2 * y2 = ((((x2 * x2) * x2) + (y1 * y1)) - ((x1 * x1) * x1))) : (jZ x2 y2 1 (ecCX x1 y1 x2 y2) (ecCY x1 y1 x2 y2) (ecCZ x1 y1 x2 y2)) = (ecDZ x1 y1 x2 y2) := by
  have e := rg_eq h (rgl [x1, y1, x2, y2]) [(3, (.sub (.add (.mul (.mul (.v 2) (.v 2)) (.v 2)) (.mul (.v 1) (.v 1))) (.mul (.mul (.v 0) (.v 0)) (.v 0))))] (.red (jZE (.v 2) (.v 3) .o (.p ecCXL 3) (.p ecCYL 3) (.p ecCZL 1))) (.p ecDZL 4) (by decide +kernel) (by
    intro x hx
    simp only [List.mem_cons, List.not_mem_nil, or_false] at hx
    rcases hx with rfl
    · exact hy2
    )
  simp only [RE.ev, ev_jH, ev_jR, ev_jX, ev_jY, ev_jZ, ev_dR, ev_dM, ev_dX, ev_dF, ev_dY, ev_dZ] at e
  exact e
def ecEXL : List (Nat × Int) := [(1152944594354176000, 64), (1152944594352078851, -96), (1152943494842548225, -1408), (1152943494840451076, 1584), (1152942395330920450, 12800), (1152942395328823301, -11952), (1152941295821389824, -192), (1152941295819292675, -63392), (1152941295817195526, 55536), (1152940196309762049, 5248), (1152940196307664900, 191760), (1152940196305567751, -177984), (1152939096798134274, -40448), (1152939096796037125, -376176), (1152939096793939976, 407376), (1152937997288603648, 1792), (1152937997286506499, 143104), (1152937997284409350, 473904), (1152937997282312201, -648720), (1152936897776975873, -19968), (1152936897774878724, -300704), (1152936897772781575, -259440), (1152936897770684426, 632880), (1152935798265348098, 56832), (1152935798263250949, 504640), (1152935798261153800, -436128), (1152935798259056651, -154656), (1152934698755817472, -2048), (1152934698753720323, -42752), (1152934698751623174, -826976), (1152934698749526025, 1430752), (1152934698747428876, -560400), (1152933599244189697, -22528), (1152933599242092548, 24576), (1152933599239995399, 1091584), (1152933599237898250, -2111392), (1152933599235801101, 1024560), (1152932499732561922, 163328), (1152932499730464773, -314880), (1152932499728367624, -915968), (1152932499726270475, 2194304), (1152932499724173326, -1128240), (1152931400223031296, -12288), (1152931400220934147, -386048), (1152931400218836998, 883456), (1152931400216739849, 494848), (1152931400214642700, -2116400), (1152931400212545551, 1136256), (1152930300711403521, 53248), (1152930300709306372, 505344), (1152930300707209223, -1384704), (1152930300705112074, 63296), (1152930300703014925, 1783632), (1152930300700917776, -1020816), (1152929201199775746, -69632), (1152929201197678597, -688128), (1152929201195581448, 2283264), (1152929201193484299, -1710592), (1152929201191387150, -338064), (1152929201189290001, 523152), (1152928101690245120, -8192), (1152928101688147971, 28672), (1152928101686050822, 1096704), (1152928101683953673, -3676672), (1152928101681856524, 4140896), (1152928101679759375, -1732464), (1152928101677662226, 151056), (1152927002178617345, 49152), (1152927002176520196, -143360), (1152927002174423047, -915456), (1152927002172325898, 3646464), (1152927002170228749, -4697536), (1152927002168131600, 2539392), (1152927002166034451, -478656), (1152925902666989570, -122880), (1152925902664892421, 544768), (1152925902662795272, -371712), (1152925902660698123, -1298688), (1152925902658600974, 2509856), (1152925902656503825, -1623360), (1152925902654406676, 362016), (1152924803155361795, 163840), (1152924803153264646, -831488), (1152924803151167497, 1488896), (1152924803149070348, -982528), (1152924803146973199, -127744), (1152924803144876050, 421888), (1152924803142778901, -132864), (1152923703643734020, -122880), (1152923703641636871, 643072), (1152923703639539722, -1309184), (1152923703637442573, 1279488), (1152923703635345424, -570880), (1152923703633248275, 61952), (1152923703631151126, 18432), (1152922604132106245, 49152), (1152922604130009096, -253952), (1152922604127911947, 523264), (1152922604125814798, -539904), (1152922604123717649, 282368), (1152922604121620500, -63232), (1152922604119523351, 2304), (1152921504620478470, -8192), (1152921504618381321, 40960), (1152921504616284172, -82432), (1152921504614187023, 84224), (1152921504612089874, -44800), (1152921504609992725, 11008), (1152921504607895576, -768), (25288769536001, -32), (25288767438852, 36), (24189257908226, 640), (24189255811077, -576), (23089748377600, 256), (23089746280451, -5312), (23089744183302, 4104), (21990236749825, -3616), (21990234652676, 23588), (21990232555527, -16884), (20890725122050, 20096), (20890723024901, -60784), (20890720927752, 42156), (19791215591424, -512), (19791213494275, -60992), (19791211397126, 90536), (19791209299977, -53784), (18691703963649, 512), (18691701866500, 136320), (18691699769351, -62448), (18691697672202, -26784), (17592192335874, 32000), (17592190238725, -301296), (17592188141576, -37860), (17592186044427, 277236), (16492682805248, -1792), (16492680708099, -164992), (16492678610950, 623232), (16492676513801, 165792), (16492674416652, -635364), (15393171177473, 34816), (15393169080324, 353696), (15393166983175, -1026528), (15393164886026, -198896), (15393162788877, 864144), (14293659549698, -139520), (14293657452549, -471616), (14293655355400, 1460352), (14293653258251, -75104), (14293651161102, -785304), (13194150019072, 7168), (13194147921923, 229632), (13194145824774, 629024), (13194143727625, -2019728), (13194141630476, 649564), (13194139533327, 504036), (12094638391297, 2048), (12094636294148, -302848), (12094634196999, -676864), (12094632099850, 2286464), (12094630002701, -1080112), (12094627905552, -227916), (10995126763522, -143872), (10995124666373, 800000), (10995122569224, -142528), (10995120472075, -1651840), (10995118374926, 1172456), (10995116277777, -34200), (9895617232896, 16384), (9895615135747, 388096), (9895613038598, -1704704), (9895610941449, 1525248), (9895608844300, 771328), (9895606747151, -1332016), (9895604650002, 335664), (8796105605121, -77824), (8796103507972, -434688), (8796101410823, 2185728), (8796099313674, -2336192), (8796097216525, -271248), (8796095119376, 1450788), (8796093022227, -516564), (7696593977346, 131072), (7696591880197, 417792), (7696589783048, -2585856), (7696587685899, 3450496), (7696585588750, -1071744), (7696583491601, -740064), (7696581394452, 398304), (6597084446720, 8192), (6597082349571, -114688), (6597080252422, -709632), (6597078155273, 3664384), (6597076058124, -5595872), (6597073960975, 3455136), (6597071863826, -601248), (6597069766677, -106272), (5497572818945, -49152), (5497570721796, 229376), (5497568624647, 559104), (5497566527498, -3602176), (5497564430349, 5985472), (5497562333200, -4340352), (5497560236051, 1305280), (5497558138902, -87552), (4398061191170, 122880), (4398059094021, -630784), (4398056996872, 743424), (4398054899723, 965888), (4398052802574, -2997344), (4398050705425, 2643504), (4398048608276, -951104), (4398046511127, 103536), (3298549563395, -163840), (3298547466246, 917504), (3298545369097, -1902592), (3298543271948, 1665792), (3298541174799, -250880), (3298539077650, -538112), (3298536980501, 320512), (3298534883352, -48384), (2199037935620, 122880), (2199035838471, -704512), (2199033741322, 1615360), (2199031644173, -1861376), (2199029547024, 1082368), (2199027449875, -245248), (2199025352726, -20992), (2199023255577, 11520), (1099526307845, -49152), (1099524210696, 278528), (1099522113547, -644096), (1099520016398, 772864), (1099517919249, -500864), (1099515822100, 160640), (1099513724951, -16768), (1099511627802, -1152), (14680070, 8192), (12582921, -45056), (10485772, 101888), (8388623, -120832), (6291474, 78848), (4194325, -26624), (2097176, 3584)]
def ecEX (x1 y1 x2 y2 : K) : K := prv (rgl [x1, y1, x2, y2]) ecEXL
set_option maxRecDepth 100000 in
set_option maxHeartbeats 2000000 in
theorem ec_EX (h : RG K) (x1 y1 x2 y2 : K) (hy2 : y2 * y2 = ((((x2 * x2) * x2) + (y1 * y1)) - ((x1 * x1) * x1))) : (jX x1 y1 1 (ecDX x1 y1 x2 y2) (ecDY x1 y1 x2 y2) (ecDZ x1 y1 x2 y2)) = (ecEX x1 y1 x2 y2) := by
  have e := rg_eq h (rgl [x1, y1, x2, y2]) [(3, (.sub (.add (.mul (.mul (.v 2) (.v 2)) (.v 2)) (.mul (.v 1) (.v 1))) (.mul (.mul (.v 0) (.v 0)) (.v 0))))] (.red (jXE (.v 0) (.v 1) .o (.p ecDXL 9) (.p ecDYL 12) (.p ecDZL 4))) (.p ecEXL 26) (by decide +kernel) (by
    intro x hx
    simp only [List.mem_cons, List.not_mem_nil, or_false] at hx
    rcases hx with rfl
    · exact hy2
    )
  simp only [RE.ev, ev_jH, ev_jR, ev_jX, ev_jY, ev_jZ, ev_dR, ev_dM, ev_dX, ev_dF, ev_dY, ev_dZ] at e
  exact e
def ecEZL : List (Nat × Int) := [(1152932499724173312, 4), (1152931400212545537, -16), (1152930300700917762, -36), (1152929201191387136, -24), (1152929201189289987, 240), (1152928101679759361, 24), (1152928101677662212, -348), (1152927002168131586, 120), (1152927002166034437, 72), (1152925902658600960, -64), (1152925902656503811, -120), (1152925902654406662, 156), (1152924803146973185, 256), (1152924803144876036, -360), (1152924803142778887, 96), (1152923703635345410, -384), (1152923703633248261, 744), (1152923703631151112, -360), (1152922604123717635, 256), (1152922604121620486, -504), (1152922604119523337, 248), (1152921504612089860, -64), (1152921504609992711, 120), (1152921504607895562, -56), (12094627905538, -12), (10995118374912, -8), (10995116277763, 96), (9895606747137, 104), (9895604649988, -300), (8796095119362, -324), (8796093022213, 468), (7696585588736, 56), (7696583491587, 384), (7696581394438, -396), (6597073960961, -152), (6597071863812, -204), (6597069766663, 252), (5497562333186, 72), (5497560236037, 216), (5497558138888, -252), (4398052802560, 64), (4398050705411, -40), (4398048608262, -204), (4398046511113, 180), (3298541174785, -256), (3298539077636, 520), (3298536980487, -336), (3298534883338, 72), (2199029547010, 384), (2199027449861, -936), (2199025352712, 756), (2199023255563, -204), (1099517919235, -256), (1099515822086, 632), (1099513724937, -496), (1099511627788, 120), (6291460, 64), (4194311, -152), (2097162, 112), (13, -24)]
def ecEZ (x1 y1 x2 y2 : K) : K := prv (rgl [x1, y1, x2, y2]) ecEZL
set_option maxRecDepth 100000 in
set_option maxHeartbeats 2000000 in
theorem ec_EZ (h : RG K) (x1 y1 x2 y2 : K) (hy2 : y2 * y2 = ((((x2 * x2) * x2) + (y1 * y1)) - ((x1 * x1) * x1))) : (jZ x1 y1 1 (ecDX x1 y1 x2 y2) (ecDY x1 y1 x2 y2) (ecDZ x1 y1 x2 y2)) = (ecEZ x1 y1 x2 y2) := by
  have e := rg_eq h (rgl [x1, y1, x2, y2]) [(3, (.sub (.add (.mul (.mul (.v 2) (.v 2)) (.v 2)) (.mul (.v 1) (.v 1))) (.mul (.mul (.v 0) (.v 0)) (.v 0))))] (.red (jZE (.v 0) (.v 1) .o (.p ecDXL 9) (.p ecDYL 12) (.p ecDZL 4))) (.p ecEZL 13) (by decide +kernel) (by
    intro x hx
    simp only [List.mem_cons, List.not_mem_nil, or_false] at hx
    rcases hx with rfl
    · exact hy2
    )
  simp only [RE.ev, ev_jH, ev_jR, ev_jX, ev_jY, ev_jZ, ev_dR, ev_dM, ev_dX, ev_dF, ev_dY, ev_dZ] at e
  exact e
def ecGXL : List (Nat × Int) := [(1152928101679759360, 16), (1152928101677662211, -24), (1152927002168131585, -128), (1152927002166034436, 72), (1152925902656503810, 160), (1152925902654406661, -216), (1152924803146973184, -64), (1152924803144876035, -352), (1152924803142778886, 408), (1152923703635345409, -128), (1152923703633248260, 416), (1152923703631151111, -288), (1152922604123717634, -128), (1152922604121620485, 128), (1152921504614187008, -128), (1152921504612089859, 320), (1152921504609992710, -240), (1152921504607895561, 48), (8796095119361, -8), (8796093022212, 9), (7696583491586, 64), (7696581394437, -36), (6597071863811, 16), (6597069766662, 54), (5497562333185, 192), (5497560236036, -200), (5497558138887, 36), (4398050705410, -96), (4398048608261, 376), (4398046511112, -279), (3298541174784, 128), (3298539077635, 192), (3298536980486, -752), (3298534883337, 432), (2199029547009, 128), (2199027449860, -480), (2199025352711, 640), (2199023255562, -288), (1099517919234, 128), (1099515822085, -192), (1099513724936, -8), (1099511627787, 72), (8388608, 128), (6291459, -384), (4194310, 384), (2097161, -128)]
def ecGX (x1 y1 x2 y2 : K) : K := prv (rgl [x1, y1, x2, y2]) ecGXL
set_option maxRecDepth 100000 in
set_option maxHeartbeats 2000000 in
theorem ec_GX (h : RG K) (x1 y1 x2 y2 : K) (hy2 : y2 * y2 = ((((x2 * x2) * x2) + (y1 * y1)) - ((x1 * x1) * x1))) : (dX (ecCX x1 y1 x2 y2) (ecCY x1 y1 x2 y2) (ecCZ x1 y1 x2 y2)) = (ecGX x1 y1 x2 y2) := by
  have e := rg_eq h (rgl [x1, y1, x2, y2]) [(3, (.sub (.add (.mul (.mul (.v 2) (.v 2)) (.v 2)) (.mul (.v 1) (.v 1))) (.mul (.mul (.v 0) (.v 0)) (.v 0))))] (.red (dXE (.p ecCXL 3) (.p ecCYL 3) (.p ecCZL 1))) (.p ecGXL 11) (by decide +kernel) (by
    intro x hx
    simp only [List.mem_cons, List.not_mem_nil, or_false] at hx
    rcases hx with rfl
    · exact hy2
    )
  simp only [RE.ev, ev_jH, ev_jR, ev_jX, ev_jY, ev_jZ, ev_dR, ev_dM, ev_dX, ev_dF, ev_dY, ev_dZ] at e
  exact e
def ecGYL : List (Nat × Int) := [(1152932499726270466, -120), (1152932499724173317, 108), (1152931400216739840, -160), (1152931400214642691, 480), (1152931400212545542, -540), (1152930300705112065, 288), (1152930300703014916, -1080), (1152929201193484290, -1152), (1152929201191387141, -2880), (1152929201189289992, 3240), (1152928101683953664, -1024), (1152928101681856515, -1536), (1152928101679759366, 7200), (1152928101677662217, -4860), (1152927002172325889, 1536), (1152927002170228740, -9216), (1152927002168131591, 8640), (1152927002166034442, -972), (1152925902660698114, -13824), (1152925902658600965, 36864), (1152925902656503816, -32760), (1152925902654406667, 9720), (1152924803151167488, -2048), (1152924803149070339, 14336), (1152924803146973190, -35328), (1152924803144876041, 36000), (1152924803142778892, -12960), (1152923703639539713, -3072), (1152923703637442564, -1536), (1152923703635345415, 21888), (1152923703633248266, -27000), (1152923703631151117, 9720), (1152922604127911938, -3072), (1152922604125814789, 13824), (1152922604123717640, -22752), (1152922604121620491, 16320), (1152922604119523342, -4320), (1152921504618381312, -2048), (1152921504616284163, 8192), (1152921504614187014, -13312), (1152921504612089865, 11104), (1152921504609992716, -4800), (1152921504607895567, 864), (13194143727616, -8), (13194141630467, 36), (13194139533318, -27), (12094632099841, 336), (12094630002692, -432), (12094627905543, 162), (10995120472066, -1368), (10995118374917, 2268), (10995116277768, -405), (9895610941440, 544), (9895608844291, 3440), (9895606747142, -4140), (9895604649993, 1080), (8796099313665, -1440), (8796097216516, 720), (8796095119367, 4860), (8796093022218, -3645), (7696587685890, 7680), (7696585588741, -5184), (7696583491592, -10692), (7696581394443, 8262), (6597078155264, 1792), (6597076058115, -4992), (6597073960966, -1632), (6597071863817, 15444), (6597069766668, -10611), (5497564430340, 11520), (5497562333191, -16704), (5497560236042, -1620), (5497558138893, 6804), (4398054899714, 15360), (4398052802565, -49920), (4398050705416, 54000), (4398048608267, -19440), (3298545369088, 3072), (3298543271939, -18944), (3298541174790, 47232), (3298539077641, -53680), (3298536980492, 26100), (3298534883343, -3780), (2199033741313, 3072), (2199029547015, -23040), (2199027449866, 37032), (2199025352717, -20304), (2199023255568, 3240), (1099522113538, 3072), (1099520016389, -15360), (1099517919240, 29280), (1099515822091, -26064), (1099513724942, 10368), (1099511627793, -1296), (12582912, 2048), (10485763, -9216), (8388614, 17152), (6291465, -16864), (4194316, 9112), (2097167, -2448), (18, 216)]
def ecGY (x1 y1 x2 y2 : K) : K := prv (rgl [x1, y1, x2, y2]) ecGYL
set_option maxRecDepth 100000 in
set_option maxHeartbeats 2000000 in
theorem ec_GY (h : RG K) (x1 y1 x2 y2 : K) (hy2 : y2 * y2 = ((((x2 * x2) * x2) + (y1 * y1)) - ((x1 * x1) * x1))) : (dY (ecCX x1 y1 x2 y2) (ecCY x1 y1 x2 y2) (ecCZ x1 y1 x2 y2)) = (ecGY x1 y1 x2 y2) := by
  have e := rg_eq h (rgl [x1, y1, x2, y2]) [(3, (.sub (.add (.mul (.mul (.v 2) (.v 2)) (.v 2)) (.mul (.v 1) (.v 1))) (.mul (.mul (.v 0) (.v 0)) (.v 0))))] (.red (dYE (.p ecCXL 3) (.p ecCYL 3) (.p ecCZL 1))) (.p ecGYL 18) (by decide +kernel) (by
    intro x hx
    simp only [List.mem_cons, List.not_mem_nil, or_false] at hx
    rcases hx with rfl
    · exact hy2
    )
  simp only [RE.ev, ev_jH, ev_jR, ev_jX, ev_jY, ev_jZ, ev_dR, ev_dM, ev_dX, ev_dF, ev_dY, ev_dZ] at e
  exact e
def ecGZL : List (Nat × Int) := [(1152923703630102530, -6), (1152922604120571904, -8), (1152922604118474755, 12), (1152921504608944129, 8), (1152921504606846980, -6), (4398047559680, 2), (3298535931905, 4), (2199024304130, -6), (1099514773504, 8), (1099512676355, -8), (3145729, -8), (1048580, 8)]
def ecGZ (x1 y1 x2 y2 : K) : K := prv (rgl [x1, y1, x2, y2]) ecGZL
set_option maxRecDepth 100000 in
set_option maxHeartbeats 2000000 in
theorem ec_GZ (h : RG K) (x1 y1 x2 y2 : K) (hy2 : y2 * y2 = ((((x2 * x2) * x2) + (y1 * y1)) - ((x1 * x1) * x1))) : (dZ (ecCX x1 y1 x2 y2) (ecCY x1 y1 x2 y2) (ecCZ x1 y1 x2 y2)) = (ecGZ x1 y1 x2 y2) := by
  have e := rg_eq h (rgl [x1, y1, x2, y2]) [(3, (.sub (.add (.mul (.mul (.v 2) (.v 2)) (.v 2)) (.mul (.v 1) (.v 1))) (.mul (.mul (.v 0) (.v 0)) (.v 0))))] (.red (dZE (.p ecCXL 3) (.p ecCYL 3) (.p ecCZL 1))) (.p ecGZL 4) (by decide +kernel) (by
    intro x hx
    simp only [List.mem_cons, List.not_mem_nil, or_false] at hx
    rcases hx with rfl
    · exact hy2
    )
  simp only [RE.ev, ev_jH, ev_jR, ev_jX, ev_jY, ev_jZ, ev_dR, ev_dM, ev_dX, ev_dF, ev_dY, ev_dZ] at e
  exact e
set_option maxRecDepth 100000 in
set_option maxHeartbeats 2000000 in
theorem ec_ct_x (h : RG K) (x1 y1 x2 y2 : K) (hy2 : y2 * y2 = ((((x2 * x2) * x2) + (y1 * y1)) - ((x1 * x1) * x1))) : ((ecGX x1 y1 x2 y2) * ((ecEZ x1 y1 x2 y2) * (ecEZ x1 y1 x2 y2))) = ((ecEX x1 y1 x2 y2) * ((ecGZ x1 y1 x2 y2) * (ecGZ x1 y1 x2 y2))) := by
  have e := rg_eq h (rgl [x1, y1, x2, y2]) [(3, (.sub (.add (.mul (.mul (.v 2) (.v 2)) (.v 2)) (.mul (.v 1) (.v 1))) (.mul (.mul (.v 0) (.v 0)) (.v 0))))] (.mul (.p ecGXL 11) (.mul (.p ecEZL 13) (.p ecEZL 13))) (.mul (.p ecEXL 26) (.mul (.p ecGZL 4) (.p ecGZL 4))) (by decide +kernel) (by
    intro x hx
    simp only [List.mem_cons, List.not_mem_nil, or_false] at hx
    rcases hx with rfl
    · exact hy2
    )
  simp only [RE.ev, ev_jH, ev_jR, ev_jX, ev_jY, ev_jZ, ev_dR, ev_dM, ev_dX, ev_dF, ev_dY, ev_dZ] at e
  exact e
set_option maxRecDepth 100000 in
set_option maxHeartbeats 2000000 in
theorem ec_ct_y (h : RG K) (x1 y1 x2 y2 : K) (hy2 : y2 * y2 = ((((x2 * x2) * x2) + (y1 * y1)) - ((x1 * x1) * x1))) : ((ecGY x1 y1 x2 y2) * (ecEZ x1 y1 x2 y2)) = ((ecGZ x1 y1 x2 y2) * (((jR x1 y1 1 (ecDX x1 y1 x2 y2) (ecDY x1 y1 x2 y2) (ecDZ x1 y1 x2 y2)) * ((x1 * ((ecGZ x1 y1 x2 y2) * (ecGZ x1 y1 x2 y2))) - (ecGX x1 y1 x2 y2))) - ((y1 * (ecEZ x1 y1 x2 y2)) * ((ecGZ x1 y1 x2 y2) * (ecGZ x1 y1 x2 y2))))) := by
  have e := rg_eq h (rgl [x1, y1, x2, y2]) [(3, (.sub (.add (.mul (.mul (.v 2) (.v 2)) (.v 2)) (.mul (.v 1) (.v 1))) (.mul (.mul (.v 0) (.v 0)) (.v 0))))] (.mul (.p ecGYL 18) (.p ecEZL 13)) (.mul (.p ecGZL 4) (.sub (.mul (.red (jRE (.v 0) (.v 1) .o (.p ecDXL 9) (.p ecDYL 12) (.p ecDZL 4))) (.sub (.mul (.v 0) (.mul (.p ecGZL 4) (.p ecGZL 4))) (.p ecGXL 11))) (.mul (.mul (.v 1) (.p ecEZL 13)) (.mul (.p ecGZL 4) (.p ecGZL 4))))) (by decide +kernel) (by
    intro x hx
    simp only [List.mem_cons, List.not_mem_nil, or_false] at hx
    rcases hx with rfl
    · exact hy2
    )
  simp only [RE.ev, ev_jH, ev_jR, ev_jX, ev_jY, ev_jZ, ev_dR, ev_dM, ev_dX, ev_dF, ev_dY, ev_dZ] at e
  exact e
set_option maxRecDepth 100000 in
set_option maxHeartbeats 2000000 in
theorem ec_tt_x (h : RG K) (x1 y1 : K) : ((dX (dX x1 y1 1) (dY x1 y1 1) (dZ x1 y1 1)) * ((jZ x1 y1 1 (jX x1 y1 1 (dX x1 y1 1) (dY x1 y1 1) (dZ x1 y1 1)) (jY x1 y1 1 (dX x1 y1 1) (dY x1 y1 1) (dZ x1 y1 1)) (jZ x1 y1 1 (dX x1 y1 1) (dY x1 y1 1) (dZ x1 y1 1))) * (jZ x1 y1 1 (jX x1 y1 1 (dX x1 y1 1) (dY x1 y1 1) (dZ x1 y1 1)) (jY x1 y1 1 (dX x1 y1 1) (dY x1 y1 1) (dZ x1 y1 1)) (jZ x1 y1 1 (dX x1 y1 1) (dY x1 y1 1) (dZ x1 y1 1))))) = ((jX x1 y1 1 (jX x1 y1 1 (dX x1 y1 1) (dY x1 y1 1) (dZ x1 y1 1)) (jY x1 y1 1 (dX x1 y1 1) (dY x1 y1 1) (dZ x1 y1 1)) (jZ x1 y1 1 (dX x1 y1 1) (dY x1 y1 1) (dZ x1 y1 1))) * ((dZ (dX x1 y1 1) (dY x1 y1 1) (dZ x1 y1 1)) * (dZ (dX x1 y1 1) (dY x1 y1 1) (dZ x1 y1 1)))) := by
  have e := rg_eq h (rgl [x1, y1]) [] (.mul (dXE (dXE (.v 0) (.v 1) .o) (dYE (.v 0) (.v 1) .o) (dZE (.v 0) (.v 1) .o)) (.mul (jZE (.v 0) (.v 1) .o (jXE (.v 0) (.v 1) .o (dXE (.v 0) (.v 1) .o) (dYE (.v 0) (.v 1) .o) (dZE (.v 0) (.v 1) .o)) (jYE (.v 0) (.v 1) .o (dXE (.v 0) (.v 1) .o) (dYE (.v 0) (.v 1) .o) (dZE (.v 0) (.v 1) .o)) (jZE (.v 0) (.v 1) .o (dXE (.v 0) (.v 1) .o) (dYE (.v 0) (.v 1) .o) (dZE (.v 0) (.v 1) .o))) (jZE (.v 0) (.v 1) .o (jXE (.v 0) (.v 1) .o (dXE (.v 0) (.v 1) .o) (dYE (.v 0) (.v 1) .o) (dZE (.v 0) (.v 1) .o)) (jYE (.v 0) (.v 1) .o (dXE (.v 0) (.v 1) .o) (dYE (.v 0) (.v 1) .o) (dZE (.v 0) (.v 1) .o)) (jZE (.v 0) (.v 1) .o (dXE (.v 0) (.v 1) .o) (dYE (.v 0) (.v 1) .o) (dZE (.v 0) (.v 1) .o))))) (.mul (jXE (.v 0) (.v 1) .o (jXE (.v 0) (.v 1) .o (dXE (.v 0) (.v 1) .o) (dYE (.v 0) (.v 1) .o) (dZE (.v 0) (.v 1) .o)) (jYE (.v 0) (.v 1) .o (dXE (.v 0) (.v 1) .o) (dYE (.v 0) (.v 1) .o) (dZE (.v 0) (.v 1) .o)) (jZE (.v 0) (.v 1) .o (dXE (.v 0) (.v 1) .o) (dYE (.v 0) (.v 1) .o) (dZE (.v 0) (.v 1) .o))) (.mul (dZE (dXE (.v 0) (.v 1) .o) (dYE (.v 0) (.v 1) .o) (dZE (.v 0) (.v 1) .o)) (dZE (dXE (.v 0) (.v 1) .o) (dYE (.v 0) (.v 1) .o) (dZE (.v 0) (.v 1) .o)))) (by decide +kernel) (by
    intro x hx
    cases hx)
  simp only [RE.ev, ev_jH, ev_jR, ev_jX, ev_jY, ev_jZ, ev_dR, ev_dM, ev_dX, ev_dF, ev_dY, ev_dZ] at e
  exact e
set_option maxRecDepth 100000 in
set_option maxHeartbeats 2000000 in
theorem ec_tt_y (h : RG K) (x1 y1 : K) : ((dY (dX x1 y1 1) (dY x1 y1 1) (dZ x1 y1 1)) * (((jZ x1 y1 1 (jX x1 y1 1 (dX x1 y1 1) (dY x1 y1 1) (dZ x1 y1 1)) (jY x1 y1 1 (dX x1 y1 1) (dY x1 y1 1) (dZ x1 y1 1)) (jZ x1 y1 1 (dX x1 y1 1) (dY x1 y1 1) (dZ x1 y1 1))) * (jZ x1 y1 1 (jX x1 y1 1 (dX x1 y1 1) (dY x1 y1 1) (dZ x1 y1 1)) (jY x1 y1 1 (dX x1 y1 1) (dY x1 y1 1) (dZ x1 y1 1)) (jZ x1 y1 1 (dX x1 y1 1) (dY x1 y1 1) (dZ x1 y1 1)))) * (jZ x1 y1 1 (jX x1 y1 1 (dX x1 y1 1) (dY x1 y1 1) (dZ x1 y1 1)) (jY x1 y1 1 (dX x1 y1 1) (dY x1 y1 1) (dZ x1 y1 1)) (jZ x1 y1 1 (dX x1 y1 1) (dY x1 y1 1) (dZ x1 y1 1))))) = ((jY x1 y1 1 (jX x1 y1 1 (dX x1 y1 1) (dY x1 y1 1) (dZ x1 y1 1)) (jY x1 y1 1 (dX x1 y1 1) (dY x1 y1 1) (dZ x1 y1 1)) (jZ x1 y1 1 (dX x1 y1 1) (dY x1 y1 1) (dZ x1 y1 1))) * (((dZ (dX x1 y1 1) (dY x1 y1 1) (dZ x1 y1 1)) * (dZ (dX x1 y1 1) (dY x1 y1 1) (dZ x1 y1 1))) * (dZ (dX x1 y1 1) (dY x1 y1 1) (dZ x1 y1 1)))) := by
  have e := rg_eq h (rgl [x1, y1]) [] (.mul (dYE (dXE (.v 0) (.v 1) .o) (dYE (.v 0) (.v 1) .o) (dZE (.v 0) (.v 1) .o)) (.mul (.mul (jZE (.v 0) (.v 1) .o (jXE (.v 0) (.v 1) .o (dXE (.v 0) (.v 1) .o) (dYE (.v 0) (.v 1) .o) (dZE (.v 0) (.v 1) .o)) (jYE (.v 0) (.v 1) .o (dXE (.v 0) (.v 1) .o) (dYE (.v 0) (.v 1) .o) (dZE (.v 0) (.v 1) .o)) (jZE (.v 0) (.v 1) .o (dXE (.v 0) (.v 1) .o) (dYE (.v 0) (.v 1) .o) (dZE (.v 0) (.v 1) .o))) (jZE (.v 0) (.v 1) .o (jXE (.v 0) (.v 1) .o (dXE (.v 0) (.v 1) .o) (dYE (.v 0) (.v 1) .o) (dZE (.v 0) (.v 1) .o)) (jYE (.v 0) (.v 1) .o (dXE (.v 0) (.v 1) .o) (dYE (.v 0) (.v 1) .o) (dZE (.v 0) (.v 1) .o)) (jZE (.v 0) (.v 1) .o (dXE (.v 0) (.v 1) .o) (dYE (.v 0) (.v 1) .o) (dZE (.v 0) (.v 1) .o)))) (jZE (.v 0) (.v 1) .o (jXE (.v 0) (.v 1) .o (dXE (.v 0) (.v 1) .o) (dYE (.v 0) (.v 1) .o) (dZE (.v 0) (.v 1) .o)) (jYE (.v 0) (.v 1) .o (dXE (.v 0) (.v 1) .o) (dYE (.v 0) (.v 1) .o) (dZE (.v 0) (.v 1) .o)) (jZE (.v 0) (.v 1) .o (dXE (.v 0) (.v 1) .o) (dYE (.v 0) (.v 1) .o) (dZE (.v 0) (.v 1) .o))))) (.mul (jYE (.v 0) (.v 1) .o (jXE (.v 0) (.v 1) .o (dXE (.v 0) (.v 1) .o) (dYE (.v 0) (.v 1) .o) (dZE (.v 0) (.v 1) .o)) (jYE (.v 0) (.v 1) .o (dXE (.v 0) (.v 1) .o) (dYE (.v 0) (.v 1) .o) (dZE (.v 0) (.v 1) .o)) (jZE (.v 0) (.v 1) .o (dXE (.v 0) (.v 1) .o) (dYE (.v 0) (.v 1) .o) (dZE (.v 0) (.v 1) .o))) (.mul (.mul (dZE (dXE (.v 0) (.v 1) .o) (dYE (.v 0) (.v 1) .o) (dZE (.v 0) (.v 1) .o)) (dZE (dXE (.v 0) (.v 1) .o) (dYE (.v 0) (.v 1) .o) (dZE (.v 0) (.v 1) .o))) (dZE (dXE (.v 0) (.v 1) .o) (dYE (.v 0) (.v 1) .o) (dZE (.v 0) (.v 1) .o)))) (by decide +kernel) (by
    intro x hx
    cases hx)
  simp only [RE.ev, ev_jH, ev_jR, ev_jX, ev_jY, ev_jZ, ev_dR, ev_dM, ev_dX, ev_dF, ev_dY, ev_dZ] at e
  exact e
end
end Go.Proofs.YtialfoccalobpaaDoor
