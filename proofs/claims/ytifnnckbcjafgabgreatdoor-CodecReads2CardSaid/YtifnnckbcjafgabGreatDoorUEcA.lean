/-
  Sums of points of a curve y squared = x cubed + b, by places and scales: the equations. Plain mathematics.
-/
import Derived.Test.YtifnnckbcjafgabGreatDoorURg
namespace Go.Proofs.YtifnnckbcjafgabGreatDoor
set_option linter.unusedSimpArgs false
set_option linter.unusedVariables false
section
variable {K : Type} [Add K] [Sub K] [Neg K] [Mul K] [Zero K] [One K]
def jH (X1 Y1 Z1 X2 Y2 Z2 : K) : K := ((X2 * (Z1 * Z1)) - (X1 * (Z2 * Z2)))
def jHE (X1 Y1 Z1 X2 Y2 Z2 : RE) : RE := (.sub (.mul X2 (.mul Z1 Z1)) (.mul X1 (.mul Z2 Z2)))
theorem ev_jH (ρ : Nat → K) (X1 Y1 Z1 X2 Y2 Z2 : RE) : (jHE X1 Y1 Z1 X2 Y2 Z2).ev ρ = jH (X1.ev ρ) (Y1.ev ρ) (Z1.ev ρ) (X2.ev ρ) (Y2.ev ρ) (Z2.ev ρ) := rfl
def jR (X1 Y1 Z1 X2 Y2 Z2 : K) : K := ((Y2 * ((Z1 * Z1) * Z1)) - (Y1 * ((Z2 * Z2) * Z2)))
def jRE (X1 Y1 Z1 X2 Y2 Z2 : RE) : RE := (.sub (.mul Y2 (.mul (.mul Z1 Z1) Z1)) (.mul Y1 (.mul (.mul Z2 Z2) Z2)))
theorem ev_jR (ρ : Nat → K) (X1 Y1 Z1 X2 Y2 Z2 : RE) : (jRE X1 Y1 Z1 X2 Y2 Z2).ev ρ = jR (X1.ev ρ) (Y1.ev ρ) (Z1.ev ρ) (X2.ev ρ) (Y2.ev ρ) (Z2.ev ρ) := rfl
def jX (X1 Y1 Z1 X2 Y2 Z2 : K) : K := (((((jR X1 Y1 Z1 X2 Y2 Z2) * (jR X1 Y1 Z1 X2 Y2 Z2)) - (((jH X1 Y1 Z1 X2 Y2 Z2) * (jH X1 Y1 Z1 X2 Y2 Z2)) * (jH X1 Y1 Z1 X2 Y2 Z2))) - ((X1 * (Z2 * Z2)) * ((jH X1 Y1 Z1 X2 Y2 Z2) * (jH X1 Y1 Z1 X2 Y2 Z2)))) - ((X1 * (Z2 * Z2)) * ((jH X1 Y1 Z1 X2 Y2 Z2) * (jH X1 Y1 Z1 X2 Y2 Z2))))
def jXE (X1 Y1 Z1 X2 Y2 Z2 : RE) : RE := (.sub (.sub (.sub (.mul (jRE X1 Y1 Z1 X2 Y2 Z2) (jRE X1 Y1 Z1 X2 Y2 Z2)) (.mul (.mul (jHE X1 Y1 Z1 X2 Y2 Z2) (jHE X1 Y1 Z1 X2 Y2 Z2)) (jHE X1 Y1 Z1 X2 Y2 Z2))) (.mul (.mul X1 (.mul Z2 Z2)) (.mul (jHE X1 Y1 Z1 X2 Y2 Z2) (jHE X1 Y1 Z1 X2 Y2 Z2)))) (.mul (.mul X1 (.mul Z2 Z2)) (.mul (jHE X1 Y1 Z1 X2 Y2 Z2) (jHE X1 Y1 Z1 X2 Y2 Z2))))
theorem ev_jX (ρ : Nat → K) (X1 Y1 Z1 X2 Y2 Z2 : RE) : (jXE X1 Y1 Z1 X2 Y2 Z2).ev ρ = jX (X1.ev ρ) (Y1.ev ρ) (Z1.ev ρ) (X2.ev ρ) (Y2.ev ρ) (Z2.ev ρ) := rfl
def jY (X1 Y1 Z1 X2 Y2 Z2 : K) : K := (((jR X1 Y1 Z1 X2 Y2 Z2) * (((X1 * (Z2 * Z2)) * ((jH X1 Y1 Z1 X2 Y2 Z2) * (jH X1 Y1 Z1 X2 Y2 Z2))) - (jX X1 Y1 Z1 X2 Y2 Z2))) - ((Y1 * ((Z2 * Z2) * Z2)) * (((jH X1 Y1 Z1 X2 Y2 Z2) * (jH X1 Y1 Z1 X2 Y2 Z2)) * (jH X1 Y1 Z1 X2 Y2 Z2))))
def jYE (X1 Y1 Z1 X2 Y2 Z2 : RE) : RE := (.sub (.mul (jRE X1 Y1 Z1 X2 Y2 Z2) (.sub (.mul (.mul X1 (.mul Z2 Z2)) (.mul (jHE X1 Y1 Z1 X2 Y2 Z2) (jHE X1 Y1 Z1 X2 Y2 Z2))) (jXE X1 Y1 Z1 X2 Y2 Z2))) (.mul (.mul Y1 (.mul (.mul Z2 Z2) Z2)) (.mul (.mul (jHE X1 Y1 Z1 X2 Y2 Z2) (jHE X1 Y1 Z1 X2 Y2 Z2)) (jHE X1 Y1 Z1 X2 Y2 Z2))))
theorem ev_jY (ρ : Nat → K) (X1 Y1 Z1 X2 Y2 Z2 : RE) : (jYE X1 Y1 Z1 X2 Y2 Z2).ev ρ = jY (X1.ev ρ) (Y1.ev ρ) (Z1.ev ρ) (X2.ev ρ) (Y2.ev ρ) (Z2.ev ρ) := rfl
def jZ (X1 Y1 Z1 X2 Y2 Z2 : K) : K := ((Z1 * Z2) * (jH X1 Y1 Z1 X2 Y2 Z2))
def jZE (X1 Y1 Z1 X2 Y2 Z2 : RE) : RE := (.mul (.mul Z1 Z2) (jHE X1 Y1 Z1 X2 Y2 Z2))
theorem ev_jZ (ρ : Nat → K) (X1 Y1 Z1 X2 Y2 Z2 : RE) : (jZE X1 Y1 Z1 X2 Y2 Z2).ev ρ = jZ (X1.ev ρ) (Y1.ev ρ) (Z1.ev ρ) (X2.ev ρ) (Y2.ev ρ) (Z2.ev ρ) := rfl
def dR (X1 Y1 Z1 : K) : K := (((X1 * X1) + (X1 * X1)) + (X1 * X1))
def dRE (X1 Y1 Z1 : RE) : RE := (.add (.add (.mul X1 X1) (.mul X1 X1)) (.mul X1 X1))
theorem ev_dR (ρ : Nat → K) (X1 Y1 Z1 : RE) : (dRE X1 Y1 Z1).ev ρ = dR (X1.ev ρ) (Y1.ev ρ) (Z1.ev ρ) := rfl
def dM (X1 Y1 Z1 : K) : K := (((X1 * (Y1 * Y1)) + (X1 * (Y1 * Y1))) + ((X1 * (Y1 * Y1)) + (X1 * (Y1 * Y1))))
def dME (X1 Y1 Z1 : RE) : RE := (.add (.add (.mul X1 (.mul Y1 Y1)) (.mul X1 (.mul Y1 Y1))) (.add (.mul X1 (.mul Y1 Y1)) (.mul X1 (.mul Y1 Y1))))
theorem ev_dM (ρ : Nat → K) (X1 Y1 Z1 : RE) : (dME X1 Y1 Z1).ev ρ = dM (X1.ev ρ) (Y1.ev ρ) (Z1.ev ρ) := rfl
def dX (X1 Y1 Z1 : K) : K := ((((dR X1 Y1 Z1) * (dR X1 Y1 Z1)) - (dM X1 Y1 Z1)) - (dM X1 Y1 Z1))
def dXE (X1 Y1 Z1 : RE) : RE := (.sub (.sub (.mul (dRE X1 Y1 Z1) (dRE X1 Y1 Z1)) (dME X1 Y1 Z1)) (dME X1 Y1 Z1))
theorem ev_dX (ρ : Nat → K) (X1 Y1 Z1 : RE) : (dXE X1 Y1 Z1).ev ρ = dX (X1.ev ρ) (Y1.ev ρ) (Z1.ev ρ) := rfl
def dF (X1 Y1 Z1 : K) : K := ((((Y1 * Y1) * (Y1 * Y1)) + ((Y1 * Y1) * (Y1 * Y1))) + (((Y1 * Y1) * (Y1 * Y1)) + ((Y1 * Y1) * (Y1 * Y1))))
def dFE (X1 Y1 Z1 : RE) : RE := (.add (.add (.mul (.mul Y1 Y1) (.mul Y1 Y1)) (.mul (.mul Y1 Y1) (.mul Y1 Y1))) (.add (.mul (.mul Y1 Y1) (.mul Y1 Y1)) (.mul (.mul Y1 Y1) (.mul Y1 Y1))))
theorem ev_dF (ρ : Nat → K) (X1 Y1 Z1 : RE) : (dFE X1 Y1 Z1).ev ρ = dF (X1.ev ρ) (Y1.ev ρ) (Z1.ev ρ) := rfl
def dY (X1 Y1 Z1 : K) : K := ((((dR X1 Y1 Z1) * ((dM X1 Y1 Z1) - (dX X1 Y1 Z1))) - (dF X1 Y1 Z1)) - (dF X1 Y1 Z1))
def dYE (X1 Y1 Z1 : RE) : RE := (.sub (.sub (.mul (dRE X1 Y1 Z1) (.sub (dME X1 Y1 Z1) (dXE X1 Y1 Z1))) (dFE X1 Y1 Z1)) (dFE X1 Y1 Z1))
theorem ev_dY (ρ : Nat → K) (X1 Y1 Z1 : RE) : (dYE X1 Y1 Z1).ev ρ = dY (X1.ev ρ) (Y1.ev ρ) (Z1.ev ρ) := rfl
def dZ (X1 Y1 Z1 : K) : K := ((Y1 * Z1) + (Y1 * Z1))
def dZE (X1 Y1 Z1 : RE) : RE := (.add (.mul Y1 Z1) (.mul Y1 Z1))
theorem ev_dZ (ρ : Nat → K) (X1 Y1 Z1 : RE) : (dZE X1 Y1 Z1).ev ρ = dZ (X1.ev ρ) (Y1.ev ρ) (Z1.ev ρ) := rfl
set_option maxRecDepth 100000 in
set_option maxHeartbeats 2000000 in
theorem ec_line_x (h : RG K) (s a c Z : K) : ((((s * s) - a) - c) * (Z * Z)) = ((((s * Z) * (s * Z)) - (a * (Z * Z))) - (c * (Z * Z))) := by
  have e := rg_eq h (rgl [s, a, c, Z]) [] (.mul (.sub (.sub (.mul (.v 0) (.v 0)) (.v 1)) (.v 2)) (.mul (.v 3) (.v 3))) (.sub (.sub (.mul (.mul (.v 0) (.v 3)) (.mul (.v 0) (.v 3))) (.mul (.v 1) (.mul (.v 3) (.v 3)))) (.mul (.v 2) (.mul (.v 3) (.v 3)))) (by decide +kernel) (by
    intro x hx
    cases hx)
  simp only [RE.ev, ev_jH, ev_jR, ev_jX, ev_jY, ev_jZ, ev_dR, ev_dM, ev_dX, ev_dF, ev_dY, ev_dZ] at e
  exact e
set_option maxRecDepth 100000 in
set_option maxHeartbeats 2000000 in
theorem ec_line_y (h : RG K) (s a b c Z : K) : (((s * (a - (((s * s) - a) - c))) - b) * ((Z * Z) * Z)) = (((s * Z) * ((a * (Z * Z)) - ((((s * Z) * (s * Z)) - (a * (Z * Z))) - (c * (Z * Z))))) - (b * ((Z * Z) * Z))) := by
  have e := rg_eq h (rgl [s, a, b, c, Z]) [] (.mul (.sub (.mul (.v 0) (.sub (.v 1) (.sub (.sub (.mul (.v 0) (.v 0)) (.v 1)) (.v 3)))) (.v 2)) (.mul (.mul (.v 4) (.v 4)) (.v 4))) (.sub (.mul (.mul (.v 0) (.v 4)) (.sub (.mul (.v 1) (.mul (.v 4) (.v 4))) (.sub (.sub (.mul (.mul (.v 0) (.v 4)) (.mul (.v 0) (.v 4))) (.mul (.v 1) (.mul (.v 4) (.v 4)))) (.mul (.v 3) (.mul (.v 4) (.v 4)))))) (.mul (.v 2) (.mul (.mul (.v 4) (.v 4)) (.v 4)))) (by decide +kernel) (by
    intro x hx
    cases hx)
  simp only [RE.ev, ev_jH, ev_jR, ev_jX, ev_jY, ev_jZ, ev_dR, ev_dM, ev_dX, ev_dF, ev_dY, ev_dZ] at e
  exact e
set_option maxRecDepth 100000 in
set_option maxHeartbeats 2000000 in
theorem ec_j1 (h : RG K) (a b c d Z1 Z2 : K) : (jH (a * (Z1 * Z1)) (b * ((Z1 * Z1) * Z1)) Z1 (c * (Z2 * Z2)) (d * ((Z2 * Z2) * Z2)) Z2) = ((c - a) * ((Z1 * Z2) * (Z1 * Z2))) := by
  have e := rg_eq h (rgl [a, b, c, d, Z1, Z2]) [] (jHE (.mul (.v 0) (.mul (.v 4) (.v 4))) (.mul (.v 1) (.mul (.mul (.v 4) (.v 4)) (.v 4))) (.v 4) (.mul (.v 2) (.mul (.v 5) (.v 5))) (.mul (.v 3) (.mul (.mul (.v 5) (.v 5)) (.v 5))) (.v 5)) (.mul (.sub (.v 2) (.v 0)) (.mul (.mul (.v 4) (.v 5)) (.mul (.v 4) (.v 5)))) (by decide +kernel) (by
    intro x hx
    cases hx)
  simp only [RE.ev, ev_jH, ev_jR, ev_jX, ev_jY, ev_jZ, ev_dR, ev_dM, ev_dX, ev_dF, ev_dY, ev_dZ] at e
  exact e
set_option maxRecDepth 100000 in
set_option maxHeartbeats 2000000 in
theorem ec_j2 (h : RG K) (a b c d Z1 Z2 s : K) : (s * (jZ (a * (Z1 * Z1)) (b * ((Z1 * Z1) * Z1)) Z1 (c * (Z2 * Z2)) (d * ((Z2 * Z2) * Z2)) Z2)) = ((s * (c - a)) * (((Z1 * Z2) * (Z1 * Z2)) * (Z1 * Z2))) := by
  have e := rg_eq h (rgl [a, b, c, d, Z1, Z2, s]) [] (.mul (.v 6) (jZE (.mul (.v 0) (.mul (.v 4) (.v 4))) (.mul (.v 1) (.mul (.mul (.v 4) (.v 4)) (.v 4))) (.v 4) (.mul (.v 2) (.mul (.v 5) (.v 5))) (.mul (.v 3) (.mul (.mul (.v 5) (.v 5)) (.v 5))) (.v 5))) (.mul (.mul (.v 6) (.sub (.v 2) (.v 0))) (.mul (.mul (.mul (.v 4) (.v 5)) (.mul (.v 4) (.v 5))) (.mul (.v 4) (.v 5)))) (by decide +kernel) (by
    intro x hx
    cases hx)
  simp only [RE.ev, ev_jH, ev_jR, ev_jX, ev_jY, ev_jZ, ev_dR, ev_dM, ev_dX, ev_dF, ev_dY, ev_dZ] at e
  exact e
set_option maxRecDepth 100000 in
set_option maxHeartbeats 2000000 in
theorem ec_j3 (h : RG K) (a b c d Z1 Z2 : K) : ((d - b) * (((Z1 * Z2) * (Z1 * Z2)) * (Z1 * Z2))) = (jR (a * (Z1 * Z1)) (b * ((Z1 * Z1) * Z1)) Z1 (c * (Z2 * Z2)) (d * ((Z2 * Z2) * Z2)) Z2) := by
  have e := rg_eq h (rgl [a, b, c, d, Z1, Z2]) [] (.mul (.sub (.v 3) (.v 1)) (.mul (.mul (.mul (.v 4) (.v 5)) (.mul (.v 4) (.v 5))) (.mul (.v 4) (.v 5)))) (jRE (.mul (.v 0) (.mul (.v 4) (.v 4))) (.mul (.v 1) (.mul (.mul (.v 4) (.v 4)) (.v 4))) (.v 4) (.mul (.v 2) (.mul (.v 5) (.v 5))) (.mul (.v 3) (.mul (.mul (.v 5) (.v 5)) (.v 5))) (.v 5)) (by decide +kernel) (by
    intro x hx
    cases hx)
  simp only [RE.ev, ev_jH, ev_jR, ev_jX, ev_jY, ev_jZ, ev_dR, ev_dM, ev_dX, ev_dF, ev_dY, ev_dZ] at e
  exact e
set_option maxRecDepth 100000 in
set_option maxHeartbeats 2000000 in
theorem ec_j4 (h : RG K) (a b c d Z1 Z2 : K) : ((((jR (a * (Z1 * Z1)) (b * ((Z1 * Z1) * Z1)) Z1 (c * (Z2 * Z2)) (d * ((Z2 * Z2) * Z2)) Z2) * (jR (a * (Z1 * Z1)) (b * ((Z1 * Z1) * Z1)) Z1 (c * (Z2 * Z2)) (d * ((Z2 * Z2) * Z2)) Z2)) - (a * ((jZ (a * (Z1 * Z1)) (b * ((Z1 * Z1) * Z1)) Z1 (c * (Z2 * Z2)) (d * ((Z2 * Z2) * Z2)) Z2) * (jZ (a * (Z1 * Z1)) (b * ((Z1 * Z1) * Z1)) Z1 (c * (Z2 * Z2)) (d * ((Z2 * Z2) * Z2)) Z2)))) - (c * ((jZ (a * (Z1 * Z1)) (b * ((Z1 * Z1) * Z1)) Z1 (c * (Z2 * Z2)) (d * ((Z2 * Z2) * Z2)) Z2) * (jZ (a * (Z1 * Z1)) (b * ((Z1 * Z1) * Z1)) Z1 (c * (Z2 * Z2)) (d * ((Z2 * Z2) * Z2)) Z2)))) = (jX (a * (Z1 * Z1)) (b * ((Z1 * Z1) * Z1)) Z1 (c * (Z2 * Z2)) (d * ((Z2 * Z2) * Z2)) Z2) := by
  have e := rg_eq h (rgl [a, b, c, d, Z1, Z2]) [] (.sub (.sub (.mul (jRE (.mul (.v 0) (.mul (.v 4) (.v 4))) (.mul (.v 1) (.mul (.mul (.v 4) (.v 4)) (.v 4))) (.v 4) (.mul (.v 2) (.mul (.v 5) (.v 5))) (.mul (.v 3) (.mul (.mul (.v 5) (.v 5)) (.v 5))) (.v 5)) (jRE (.mul (.v 0) (.mul (.v 4) (.v 4))) (.mul (.v 1) (.mul (.mul (.v 4) (.v 4)) (.v 4))) (.v 4) (.mul (.v 2) (.mul (.v 5) (.v 5))) (.mul (.v 3) (.mul (.mul (.v 5) (.v 5)) (.v 5))) (.v 5))) (.mul (.v 0) (.mul (jZE (.mul (.v 0) (.mul (.v 4) (.v 4))) (.mul (.v 1) (.mul (.mul (.v 4) (.v 4)) (.v 4))) (.v 4) (.mul (.v 2) (.mul (.v 5) (.v 5))) (.mul (.v 3) (.mul (.mul (.v 5) (.v 5)) (.v 5))) (.v 5)) (jZE (.mul (.v 0) (.mul (.v 4) (.v 4))) (.mul (.v 1) (.mul (.mul (.v 4) (.v 4)) (.v 4))) (.v 4) (.mul (.v 2) (.mul (.v 5) (.v 5))) (.mul (.v 3) (.mul (.mul (.v 5) (.v 5)) (.v 5))) (.v 5))))) (.mul (.v 2) (.mul (jZE (.mul (.v 0) (.mul (.v 4) (.v 4))) (.mul (.v 1) (.mul (.mul (.v 4) (.v 4)) (.v 4))) (.v 4) (.mul (.v 2) (.mul (.v 5) (.v 5))) (.mul (.v 3) (.mul (.mul (.v 5) (.v 5)) (.v 5))) (.v 5)) (jZE (.mul (.v 0) (.mul (.v 4) (.v 4))) (.mul (.v 1) (.mul (.mul (.v 4) (.v 4)) (.v 4))) (.v 4) (.mul (.v 2) (.mul (.v 5) (.v 5))) (.mul (.v 3) (.mul (.mul (.v 5) (.v 5)) (.v 5))) (.v 5))))) (jXE (.mul (.v 0) (.mul (.v 4) (.v 4))) (.mul (.v 1) (.mul (.mul (.v 4) (.v 4)) (.v 4))) (.v 4) (.mul (.v 2) (.mul (.v 5) (.v 5))) (.mul (.v 3) (.mul (.mul (.v 5) (.v 5)) (.v 5))) (.v 5)) (by decide +kernel) (by
    intro x hx
    cases hx)
  simp only [RE.ev, ev_jH, ev_jR, ev_jX, ev_jY, ev_jZ, ev_dR, ev_dM, ev_dX, ev_dF, ev_dY, ev_dZ] at e
  exact e
set_option maxRecDepth 100000 in
set_option maxHeartbeats 2000000 in
theorem ec_j5 (h : RG K) (a b c d Z1 Z2 : K) : (((jR (a * (Z1 * Z1)) (b * ((Z1 * Z1) * Z1)) Z1 (c * (Z2 * Z2)) (d * ((Z2 * Z2) * Z2)) Z2) * ((a * ((jZ (a * (Z1 * Z1)) (b * ((Z1 * Z1) * Z1)) Z1 (c * (Z2 * Z2)) (d * ((Z2 * Z2) * Z2)) Z2) * (jZ (a * (Z1 * Z1)) (b * ((Z1 * Z1) * Z1)) Z1 (c * (Z2 * Z2)) (d * ((Z2 * Z2) * Z2)) Z2))) - (jX (a * (Z1 * Z1)) (b * ((Z1 * Z1) * Z1)) Z1 (c * (Z2 * Z2)) (d * ((Z2 * Z2) * Z2)) Z2))) - (b * (((jZ (a * (Z1 * Z1)) (b * ((Z1 * Z1) * Z1)) Z1 (c * (Z2 * Z2)) (d * ((Z2 * Z2) * Z2)) Z2) * (jZ (a * (Z1 * Z1)) (b * ((Z1 * Z1) * Z1)) Z1 (c * (Z2 * Z2)) (d * ((Z2 * Z2) * Z2)) Z2)) * (jZ (a * (Z1 * Z1)) (b * ((Z1 * Z1) * Z1)) Z1 (c * (Z2 * Z2)) (d * ((Z2 * Z2) * Z2)) Z2)))) = (jY (a * (Z1 * Z1)) (b * ((Z1 * Z1) * Z1)) Z1 (c * (Z2 * Z2)) (d * ((Z2 * Z2) * Z2)) Z2) := by
  have e := rg_eq h (rgl [a, b, c, d, Z1, Z2]) [] (.sub (.mul (jRE (.mul (.v 0) (.mul (.v 4) (.v 4))) (.mul (.v 1) (.mul (.mul (.v 4) (.v 4)) (.v 4))) (.v 4) (.mul (.v 2) (.mul (.v 5) (.v 5))) (.mul (.v 3) (.mul (.mul (.v 5) (.v 5)) (.v 5))) (.v 5)) (.sub (.mul (.v 0) (.mul (jZE (.mul (.v 0) (.mul (.v 4) (.v 4))) (.mul (.v 1) (.mul (.mul (.v 4) (.v 4)) (.v 4))) (.v 4) (.mul (.v 2) (.mul (.v 5) (.v 5))) (.mul (.v 3) (.mul (.mul (.v 5) (.v 5)) (.v 5))) (.v 5)) (jZE (.mul (.v 0) (.mul (.v 4) (.v 4))) (.mul (.v 1) (.mul (.mul (.v 4) (.v 4)) (.v 4))) (.v 4) (.mul (.v 2) (.mul (.v 5) (.v 5))) (.mul (.v 3) (.mul (.mul (.v 5) (.v 5)) (.v 5))) (.v 5)))) (jXE (.mul (.v 0) (.mul (.v 4) (.v 4))) (.mul (.v 1) (.mul (.mul (.v 4) (.v 4)) (.v 4))) (.v 4) (.mul (.v 2) (.mul (.v 5) (.v 5))) (.mul (.v 3) (.mul (.mul (.v 5) (.v 5)) (.v 5))) (.v 5)))) (.mul (.v 1) (.mul (.mul (jZE (.mul (.v 0) (.mul (.v 4) (.v 4))) (.mul (.v 1) (.mul (.mul (.v 4) (.v 4)) (.v 4))) (.v 4) (.mul (.v 2) (.mul (.v 5) (.v 5))) (.mul (.v 3) (.mul (.mul (.v 5) (.v 5)) (.v 5))) (.v 5)) (jZE (.mul (.v 0) (.mul (.v 4) (.v 4))) (.mul (.v 1) (.mul (.mul (.v 4) (.v 4)) (.v 4))) (.v 4) (.mul (.v 2) (.mul (.v 5) (.v 5))) (.mul (.v 3) (.mul (.mul (.v 5) (.v 5)) (.v 5))) (.v 5))) (jZE (.mul (.v 0) (.mul (.v 4) (.v 4))) (.mul (.v 1) (.mul (.mul (.v 4) (.v 4)) (.v 4))) (.v 4) (.mul (.v 2) (.mul (.v 5) (.v 5))) (.mul (.v 3) (.mul (.mul (.v 5) (.v 5)) (.v 5))) (.v 5))))) (jYE (.mul (.v 0) (.mul (.v 4) (.v 4))) (.mul (.v 1) (.mul (.mul (.v 4) (.v 4)) (.v 4))) (.v 4) (.mul (.v 2) (.mul (.v 5) (.v 5))) (.mul (.v 3) (.mul (.mul (.v 5) (.v 5)) (.v 5))) (.v 5)) (by decide +kernel) (by
    intro x hx
    cases hx)
  simp only [RE.ev, ev_jH, ev_jR, ev_jX, ev_jY, ev_jZ, ev_dR, ev_dM, ev_dX, ev_dF, ev_dY, ev_dZ] at e
  exact e
set_option maxRecDepth 100000 in
set_option maxHeartbeats 2000000 in
theorem ec_d2 (h : RG K) (a b Z s : K) : (s * (dZ (a * (Z * Z)) (b * ((Z * Z) * Z)) Z)) = ((s * (b + b)) * ((Z * Z) * (Z * Z))) := by
  have e := rg_eq h (rgl [a, b, Z, s]) [] (.mul (.v 3) (dZE (.mul (.v 0) (.mul (.v 2) (.v 2))) (.mul (.v 1) (.mul (.mul (.v 2) (.v 2)) (.v 2))) (.v 2))) (.mul (.mul (.v 3) (.add (.v 1) (.v 1))) (.mul (.mul (.v 2) (.v 2)) (.mul (.v 2) (.v 2)))) (by decide +kernel) (by
    intro x hx
    cases hx)
  simp only [RE.ev, ev_jH, ev_jR, ev_jX, ev_jY, ev_jZ, ev_dR, ev_dM, ev_dX, ev_dF, ev_dY, ev_dZ] at e
  exact e
set_option maxRecDepth 100000 in
set_option maxHeartbeats 2000000 in
theorem ec_d3 (h : RG K) (a b Z : K) : ((((a * a) + (a * a)) + (a * a)) * ((Z * Z) * (Z * Z))) = (dR (a * (Z * Z)) (b * ((Z * Z) * Z)) Z) := by
  have e := rg_eq h (rgl [a, b, Z]) [] (.mul (.add (.add (.mul (.v 0) (.v 0)) (.mul (.v 0) (.v 0))) (.mul (.v 0) (.v 0))) (.mul (.mul (.v 2) (.v 2)) (.mul (.v 2) (.v 2)))) (dRE (.mul (.v 0) (.mul (.v 2) (.v 2))) (.mul (.v 1) (.mul (.mul (.v 2) (.v 2)) (.v 2))) (.v 2)) (by decide +kernel) (by
    intro x hx
    cases hx)
  simp only [RE.ev, ev_jH, ev_jR, ev_jX, ev_jY, ev_jZ, ev_dR, ev_dM, ev_dX, ev_dF, ev_dY, ev_dZ] at e
  exact e
set_option maxRecDepth 100000 in
set_option maxHeartbeats 2000000 in
theorem ec_d1 (h : RG K) (a b Z : K) : (dZ (a * (Z * Z)) (b * ((Z * Z) * Z)) Z) = ((b + b) * ((Z * Z) * (Z * Z))) := by
  have e := rg_eq h (rgl [a, b, Z]) [] (dZE (.mul (.v 0) (.mul (.v 2) (.v 2))) (.mul (.v 1) (.mul (.mul (.v 2) (.v 2)) (.v 2))) (.v 2)) (.mul (.add (.v 1) (.v 1)) (.mul (.mul (.v 2) (.v 2)) (.mul (.v 2) (.v 2)))) (by decide +kernel) (by
    intro x hx
    cases hx)
  simp only [RE.ev, ev_jH, ev_jR, ev_jX, ev_jY, ev_jZ, ev_dR, ev_dM, ev_dX, ev_dF, ev_dY, ev_dZ] at e
  exact e
set_option maxRecDepth 100000 in
set_option maxHeartbeats 2000000 in
theorem ec_d4 (h : RG K) (a b Z : K) : ((((dR (a * (Z * Z)) (b * ((Z * Z) * Z)) Z) * (dR (a * (Z * Z)) (b * ((Z * Z) * Z)) Z)) - (a * ((dZ (a * (Z * Z)) (b * ((Z * Z) * Z)) Z) * (dZ (a * (Z * Z)) (b * ((Z * Z) * Z)) Z)))) - (a * ((dZ (a * (Z * Z)) (b * ((Z * Z) * Z)) Z) * (dZ (a * (Z * Z)) (b * ((Z * Z) * Z)) Z)))) = (dX (a * (Z * Z)) (b * ((Z * Z) * Z)) Z) := by
  have e := rg_eq h (rgl [a, b, Z]) [] (.sub (.sub (.mul (dRE (.mul (.v 0) (.mul (.v 2) (.v 2))) (.mul (.v 1) (.mul (.mul (.v 2) (.v 2)) (.v 2))) (.v 2)) (dRE (.mul (.v 0) (.mul (.v 2) (.v 2))) (.mul (.v 1) (.mul (.mul (.v 2) (.v 2)) (.v 2))) (.v 2))) (.mul (.v 0) (.mul (dZE (.mul (.v 0) (.mul (.v 2) (.v 2))) (.mul (.v 1) (.mul (.mul (.v 2) (.v 2)) (.v 2))) (.v 2)) (dZE (.mul (.v 0) (.mul (.v 2) (.v 2))) (.mul (.v 1) (.mul (.mul (.v 2) (.v 2)) (.v 2))) (.v 2))))) (.mul (.v 0) (.mul (dZE (.mul (.v 0) (.mul (.v 2) (.v 2))) (.mul (.v 1) (.mul (.mul (.v 2) (.v 2)) (.v 2))) (.v 2)) (dZE (.mul (.v 0) (.mul (.v 2) (.v 2))) (.mul (.v 1) (.mul (.mul (.v 2) (.v 2)) (.v 2))) (.v 2))))) (dXE (.mul (.v 0) (.mul (.v 2) (.v 2))) (.mul (.v 1) (.mul (.mul (.v 2) (.v 2)) (.v 2))) (.v 2)) (by decide +kernel) (by
    intro x hx
    cases hx)
  simp only [RE.ev, ev_jH, ev_jR, ev_jX, ev_jY, ev_jZ, ev_dR, ev_dM, ev_dX, ev_dF, ev_dY, ev_dZ] at e
  exact e
set_option maxRecDepth 100000 in
set_option maxHeartbeats 2000000 in
theorem ec_d5 (h : RG K) (a b Z : K) : (((dR (a * (Z * Z)) (b * ((Z * Z) * Z)) Z) * ((a * ((dZ (a * (Z * Z)) (b * ((Z * Z) * Z)) Z) * (dZ (a * (Z * Z)) (b * ((Z * Z) * Z)) Z))) - (dX (a * (Z * Z)) (b * ((Z * Z) * Z)) Z))) - (b * (((dZ (a * (Z * Z)) (b * ((Z * Z) * Z)) Z) * (dZ (a * (Z * Z)) (b * ((Z * Z) * Z)) Z)) * (dZ (a * (Z * Z)) (b * ((Z * Z) * Z)) Z)))) = (dY (a * (Z * Z)) (b * ((Z * Z) * Z)) Z) := by
  have e := rg_eq h (rgl [a, b, Z]) [] (.sub (.mul (dRE (.mul (.v 0) (.mul (.v 2) (.v 2))) (.mul (.v 1) (.mul (.mul (.v 2) (.v 2)) (.v 2))) (.v 2)) (.sub (.mul (.v 0) (.mul (dZE (.mul (.v 0) (.mul (.v 2) (.v 2))) (.mul (.v 1) (.mul (.mul (.v 2) (.v 2)) (.v 2))) (.v 2)) (dZE (.mul (.v 0) (.mul (.v 2) (.v 2))) (.mul (.v 1) (.mul (.mul (.v 2) (.v 2)) (.v 2))) (.v 2)))) (dXE (.mul (.v 0) (.mul (.v 2) (.v 2))) (.mul (.v 1) (.mul (.mul (.v 2) (.v 2)) (.v 2))) (.v 2)))) (.mul (.v 1) (.mul (.mul (dZE (.mul (.v 0) (.mul (.v 2) (.v 2))) (.mul (.v 1) (.mul (.mul (.v 2) (.v 2)) (.v 2))) (.v 2)) (dZE (.mul (.v 0) (.mul (.v 2) (.v 2))) (.mul (.v 1) (.mul (.mul (.v 2) (.v 2)) (.v 2))) (.v 2))) (dZE (.mul (.v 0) (.mul (.v 2) (.v 2))) (.mul (.v 1) (.mul (.mul (.v 2) (.v 2)) (.v 2))) (.v 2))))) (dYE (.mul (.v 0) (.mul (.v 2) (.v 2))) (.mul (.v 1) (.mul (.mul (.v 2) (.v 2)) (.v 2))) (.v 2)) (by decide +kernel) (by
    intro x hx
    cases hx)
  simp only [RE.ev, ev_jH, ev_jR, ev_jX, ev_jY, ev_jZ, ev_dR, ev_dM, ev_dX, ev_dF, ev_dY, ev_dZ] at e
  exact e
set_option maxRecDepth 100000 in
set_option maxHeartbeats 2000000 in
theorem ec_six (h : RG K) (y Z : K) : ((y * ((Z * Z) * Z)) * (y * ((Z * Z) * Z))) = ((y * y) * (((Z * Z) * Z) * ((Z * Z) * Z))) := by
  have e := rg_eq h (rgl [y, Z]) [] (.mul (.mul (.v 0) (.mul (.mul (.v 1) (.v 1)) (.v 1))) (.mul (.v 0) (.mul (.mul (.v 1) (.v 1)) (.v 1)))) (.mul (.mul (.v 0) (.v 0)) (.mul (.mul (.mul (.v 1) (.v 1)) (.v 1)) (.mul (.mul (.v 1) (.v 1)) (.v 1)))) (by decide +kernel) (by
    intro x hx
    cases hx)
  simp only [RE.ev, ev_jH, ev_jR, ev_jX, ev_jY, ev_jZ, ev_dR, ev_dM, ev_dX, ev_dF, ev_dY, ev_dZ] at e
  exact e
set_option maxRecDepth 100000 in
set_option maxHeartbeats 2000000 in
theorem ec_six2 (h : RG K) (x b Z : K) : ((((x * (Z * Z)) * (x * (Z * Z))) * (x * (Z * Z))) + (b * (((Z * Z) * Z) * ((Z * Z) * Z)))) = ((((x * x) * x) + b) * (((Z * Z) * Z) * ((Z * Z) * Z))) := by
  have e := rg_eq h (rgl [x, b, Z]) [] (.add (.mul (.mul (.mul (.v 0) (.mul (.v 2) (.v 2))) (.mul (.v 0) (.mul (.v 2) (.v 2)))) (.mul (.v 0) (.mul (.v 2) (.v 2)))) (.mul (.v 1) (.mul (.mul (.mul (.v 2) (.v 2)) (.v 2)) (.mul (.mul (.v 2) (.v 2)) (.v 2))))) (.mul (.add (.mul (.mul (.v 0) (.v 0)) (.v 0)) (.v 1)) (.mul (.mul (.mul (.v 2) (.v 2)) (.v 2)) (.mul (.mul (.v 2) (.v 2)) (.v 2)))) (by decide +kernel) (by
    intro x hx
    cases hx)
  simp only [RE.ev, ev_jH, ev_jR, ev_jX, ev_jY, ev_jZ, ev_dR, ev_dM, ev_dX, ev_dF, ev_dY, ev_dZ] at e
  exact e
set_option maxRecDepth 100000 in
set_option maxHeartbeats 2000000 in
theorem ec_y2 (h : RG K) (x1 x2 b : K) : (((x2 * x2) * x2) + b) = ((((x2 * x2) * x2) + (((x1 * x1) * x1) + b)) - ((x1 * x1) * x1)) := by
  have e := rg_eq h (rgl [x1, x2, b]) [] (.add (.mul (.mul (.v 1) (.v 1)) (.v 1)) (.v 2)) (.sub (.add (.mul (.mul (.v 1) (.v 1)) (.v 1)) (.add (.mul (.mul (.v 0) (.v 0)) (.v 0)) (.v 2))) (.mul (.mul (.v 0) (.v 0)) (.v 0))) (by decide +kernel) (by
    intro x hx
    cases hx)
  simp only [RE.ev, ev_jH, ev_jR, ev_jX, ev_jY, ev_jZ, ev_dR, ev_dM, ev_dX, ev_dF, ev_dY, ev_dZ] at e
  exact e
set_option maxRecDepth 100000 in
set_option maxHeartbeats 2000000 in
theorem ec_b1 (h : RG K) (x b : K) : ((((x * x) * x) + b) - ((x * x) * x)) = b := by
  have e := rg_eq h (rgl [x, b]) [] (.sub (.add (.mul (.mul (.v 0) (.v 0)) (.v 0)) (.v 1)) (.mul (.mul (.v 0) (.v 0)) (.v 0))) (.v 1) (by decide +kernel) (by
    intro x hx
    cases hx)
  simp only [RE.ev, ev_jH, ev_jR, ev_jX, ev_jY, ev_jZ, ev_dR, ev_dM, ev_dX, ev_dF, ev_dY, ev_dZ] at e
  exact e
set_option maxRecDepth 100000 in
set_option maxHeartbeats 2000000 in
theorem ec_nn (h : RG K) (y : K) : ((-y) * (-y)) = (y * y) := by
  have e := rg_eq h (rgl [y]) [] (.mul (.neg (.v 0)) (.neg (.v 0))) (.mul (.v 0) (.v 0)) (by decide +kernel) (by
    intro x hx
    cases hx)
  simp only [RE.ev, ev_jH, ev_jR, ev_jX, ev_jY, ev_jZ, ev_dR, ev_dM, ev_dX, ev_dF, ev_dY, ev_dZ] at e
  exact e
set_option maxRecDepth 100000 in
set_option maxHeartbeats 2000000 in
theorem ec_two (h : RG K) (y : K) : ((1 + 1) * y) = (y + y) := by
  have e := rg_eq h (rgl [y]) [] (.mul (.add .o .o) (.v 0)) (.add (.v 0) (.v 0)) (by decide +kernel) (by
    intro x hx
    cases hx)
  simp only [RE.ev, ev_jH, ev_jR, ev_jX, ev_jY, ev_jZ, ev_dR, ev_dM, ev_dX, ev_dF, ev_dY, ev_dZ] at e
  exact e
set_option maxRecDepth 100000 in
set_option maxHeartbeats 2000000 in
theorem ec_dif (h : RG K) (a b : K) : ((a - b) * (a + b)) = ((a * a) - (b * b)) := by
  have e := rg_eq h (rgl [a, b]) [] (.mul (.sub (.v 0) (.v 1)) (.add (.v 0) (.v 1))) (.sub (.mul (.v 0) (.v 0)) (.mul (.v 1) (.v 1))) (by decide +kernel) (by
    intro x hx
    cases hx)
  simp only [RE.ev, ev_jH, ev_jR, ev_jX, ev_jY, ev_jZ, ev_dR, ev_dM, ev_dX, ev_dF, ev_dY, ev_dZ] at e
  exact e
set_option maxRecDepth 100000 in
set_option maxHeartbeats 2000000 in
theorem ec_comm4 (h : RG K) (x z w : K) : ((x * z) * w) = ((x * w) * z) := by
  have e := rg_eq h (rgl [x, z, w]) [] (.mul (.mul (.v 0) (.v 1)) (.v 2)) (.mul (.mul (.v 0) (.v 2)) (.v 1)) (by decide +kernel) (by
    intro x hx
    cases hx)
  simp only [RE.ev, ev_jH, ev_jR, ev_jX, ev_jY, ev_jZ, ev_dR, ev_dM, ev_dX, ev_dF, ev_dY, ev_dZ] at e
  exact e
set_option maxRecDepth 100000 in
set_option maxHeartbeats 2000000 in
theorem ec_nx (h : RG K) (X1 Y1 Z1 X2 Y2 Z2 : K) : (jX X1 (-Y1) Z1 X2 (-Y2) Z2) = (jX X1 Y1 Z1 X2 Y2 Z2) := by
  have e := rg_eq h (rgl [X1, Y1, Z1, X2, Y2, Z2]) [] (jXE (.v 0) (.neg (.v 1)) (.v 2) (.v 3) (.neg (.v 4)) (.v 5)) (jXE (.v 0) (.v 1) (.v 2) (.v 3) (.v 4) (.v 5)) (by decide +kernel) (by
    intro x hx
    cases hx)
  simp only [RE.ev, ev_jH, ev_jR, ev_jX, ev_jY, ev_jZ, ev_dR, ev_dM, ev_dX, ev_dF, ev_dY, ev_dZ] at e
  exact e
set_option maxRecDepth 100000 in
set_option maxHeartbeats 2000000 in
theorem ec_ny (h : RG K) (X1 Y1 Z1 X2 Y2 Z2 : K) : (jY X1 (-Y1) Z1 X2 (-Y2) Z2) = (-(jY X1 Y1 Z1 X2 Y2 Z2)) := by
  have e := rg_eq h (rgl [X1, Y1, Z1, X2, Y2, Z2]) [] (jYE (.v 0) (.neg (.v 1)) (.v 2) (.v 3) (.neg (.v 4)) (.v 5)) (.neg (jYE (.v 0) (.v 1) (.v 2) (.v 3) (.v 4) (.v 5))) (by decide +kernel) (by
    intro x hx
    cases hx)
  simp only [RE.ev, ev_jH, ev_jR, ev_jX, ev_jY, ev_jZ, ev_dR, ev_dM, ev_dX, ev_dF, ev_dY, ev_dZ] at e
  exact e
set_option maxRecDepth 100000 in
set_option maxHeartbeats 2000000 in
theorem ec_nz (h : RG K) (X1 Y1 Z1 X2 Y2 Z2 : K) : (jZ X1 (-Y1) Z1 X2 (-Y2) Z2) = (jZ X1 Y1 Z1 X2 Y2 Z2) := by
  have e := rg_eq h (rgl [X1, Y1, Z1, X2, Y2, Z2]) [] (jZE (.v 0) (.neg (.v 1)) (.v 2) (.v 3) (.neg (.v 4)) (.v 5)) (jZE (.v 0) (.v 1) (.v 2) (.v 3) (.v 4) (.v 5)) (by decide +kernel) (by
    intro x hx
    cases hx)
  simp only [RE.ev, ev_jH, ev_jR, ev_jX, ev_jY, ev_jZ, ev_dR, ev_dM, ev_dX, ev_dF, ev_dY, ev_dZ] at e
  exact e
set_option maxRecDepth 100000 in
set_option maxHeartbeats 2000000 in
theorem ec_ndx (h : RG K) (X1 Y1 Z1 : K) : (dX X1 (-Y1) Z1) = (dX X1 Y1 Z1) := by
  have e := rg_eq h (rgl [X1, Y1, Z1]) [] (dXE (.v 0) (.neg (.v 1)) (.v 2)) (dXE (.v 0) (.v 1) (.v 2)) (by decide +kernel) (by
    intro x hx
    cases hx)
  simp only [RE.ev, ev_jH, ev_jR, ev_jX, ev_jY, ev_jZ, ev_dR, ev_dM, ev_dX, ev_dF, ev_dY, ev_dZ] at e
  exact e
set_option maxRecDepth 100000 in
set_option maxHeartbeats 2000000 in
theorem ec_ndy (h : RG K) (X1 Y1 Z1 : K) : (dY X1 (-Y1) Z1) = (dY X1 Y1 Z1) := by
  have e := rg_eq h (rgl [X1, Y1, Z1]) [] (dYE (.v 0) (.neg (.v 1)) (.v 2)) (dYE (.v 0) (.v 1) (.v 2)) (by decide +kernel) (by
    intro x hx
    cases hx)
  simp only [RE.ev, ev_jH, ev_jR, ev_jX, ev_jY, ev_jZ, ev_dR, ev_dM, ev_dX, ev_dF, ev_dY, ev_dZ] at e
  exact e
set_option maxRecDepth 100000 in
set_option maxHeartbeats 2000000 in
theorem ec_ndz (h : RG K) (X1 Y1 Z1 : K) : (dZ X1 (-Y1) Z1) = (-(dZ X1 Y1 Z1)) := by
  have e := rg_eq h (rgl [X1, Y1, Z1]) [] (dZE (.v 0) (.neg (.v 1)) (.v 2)) (.neg (dZE (.v 0) (.v 1) (.v 2))) (by decide +kernel) (by
    intro x hx
    cases hx)
  simp only [RE.ev, ev_jH, ev_jR, ev_jX, ev_jY, ev_jZ, ev_dR, ev_dM, ev_dX, ev_dF, ev_dY, ev_dZ] at e
  exact e
set_option maxRecDepth 100000 in
set_option maxHeartbeats 2000000 in
theorem ec_sg1 (h : RG K) (X Z : K) : (X * ((-Z) * (-Z))) = (X * (Z * Z)) := by
  have e := rg_eq h (rgl [X, Z]) [] (.mul (.v 0) (.mul (.neg (.v 1)) (.neg (.v 1)))) (.mul (.v 0) (.mul (.v 1) (.v 1))) (by decide +kernel) (by
    intro x hx
    cases hx)
  simp only [RE.ev, ev_jH, ev_jR, ev_jX, ev_jY, ev_jZ, ev_dR, ev_dM, ev_dX, ev_dF, ev_dY, ev_dZ] at e
  exact e
set_option maxRecDepth 100000 in
set_option maxHeartbeats 2000000 in
theorem ec_sg2 (h : RG K) (Y Z : K) : (Y * (((-Z) * (-Z)) * (-Z))) = ((-Y) * ((Z * Z) * Z)) := by
  have e := rg_eq h (rgl [Y, Z]) [] (.mul (.v 0) (.mul (.mul (.neg (.v 1)) (.neg (.v 1))) (.neg (.v 1)))) (.mul (.neg (.v 0)) (.mul (.mul (.v 1) (.v 1)) (.v 1))) (by decide +kernel) (by
    intro x hx
    cases hx)
  simp only [RE.ev, ev_jH, ev_jR, ev_jX, ev_jY, ev_jZ, ev_dR, ev_dM, ev_dX, ev_dF, ev_dY, ev_dZ] at e
  exact e
set_option maxRecDepth 100000 in
set_option maxHeartbeats 2000000 in
theorem ec_on_ch (h : RG K) (x1 y1 x2 y2 : K) (hy2 : y2 * y2 = ((((x2 * x2) * x2) + (y1 * y1)) - ((x1 * x1) * x1))) : ((jY x1 y1 1 x2 y2 1) * (jY x1 y1 1 x2 y2 1)) = ((((jX x1 y1 1 x2 y2 1) * (jX x1 y1 1 x2 y2 1)) * (jX x1 y1 1 x2 y2 1)) + (((y1 * y1) - ((x1 * x1) * x1)) * ((((jZ x1 y1 1 x2 y2 1) * (jZ x1 y1 1 x2 y2 1)) * (jZ x1 y1 1 x2 y2 1)) * (((jZ x1 y1 1 x2 y2 1) * (jZ x1 y1 1 x2 y2 1)) * (jZ x1 y1 1 x2 y2 1))))) := by
  have e := rg_eq h (rgl [x1, y1, x2, y2]) [(3, (.sub (.add (.mul (.mul (.v 2) (.v 2)) (.v 2)) (.mul (.v 1) (.v 1))) (.mul (.mul (.v 0) (.v 0)) (.v 0))))] (.mul (jYE (.v 0) (.v 1) .o (.v 2) (.v 3) .o) (jYE (.v 0) (.v 1) .o (.v 2) (.v 3) .o)) (.add (.mul (.mul (jXE (.v 0) (.v 1) .o (.v 2) (.v 3) .o) (jXE (.v 0) (.v 1) .o (.v 2) (.v 3) .o)) (jXE (.v 0) (.v 1) .o (.v 2) (.v 3) .o)) (.mul (.sub (.mul (.v 1) (.v 1)) (.mul (.mul (.v 0) (.v 0)) (.v 0))) (.mul (.mul (.mul (jZE (.v 0) (.v 1) .o (.v 2) (.v 3) .o) (jZE (.v 0) (.v 1) .o (.v 2) (.v 3) .o)) (jZE (.v 0) (.v 1) .o (.v 2) (.v 3) .o)) (.mul (.mul (jZE (.v 0) (.v 1) .o (.v 2) (.v 3) .o) (jZE (.v 0) (.v 1) .o (.v 2) (.v 3) .o)) (jZE (.v 0) (.v 1) .o (.v 2) (.v 3) .o))))) (by decide +kernel) (by
    intro x hx
    simp only [List.mem_cons, List.not_mem_nil, or_false] at hx
    rcases hx with rfl
    · exact hy2
    )
  simp only [RE.ev, ev_jH, ev_jR, ev_jX, ev_jY, ev_jZ, ev_dR, ev_dM, ev_dX, ev_dF, ev_dY, ev_dZ] at e
  exact e
set_option maxRecDepth 100000 in
set_option maxHeartbeats 2000000 in
theorem ec_on_db (h : RG K) (x1 y1 : K) : ((dY x1 y1 1) * (dY x1 y1 1)) = ((((dX x1 y1 1) * (dX x1 y1 1)) * (dX x1 y1 1)) + (((y1 * y1) - ((x1 * x1) * x1)) * ((((dZ x1 y1 1) * (dZ x1 y1 1)) * (dZ x1 y1 1)) * (((dZ x1 y1 1) * (dZ x1 y1 1)) * (dZ x1 y1 1))))) := by
  have e := rg_eq h (rgl [x1, y1]) [] (.mul (dYE (.v 0) (.v 1) .o) (dYE (.v 0) (.v 1) .o)) (.add (.mul (.mul (dXE (.v 0) (.v 1) .o) (dXE (.v 0) (.v 1) .o)) (dXE (.v 0) (.v 1) .o)) (.mul (.sub (.mul (.v 1) (.v 1)) (.mul (.mul (.v 0) (.v 0)) (.v 0))) (.mul (.mul (.mul (dZE (.v 0) (.v 1) .o) (dZE (.v 0) (.v 1) .o)) (dZE (.v 0) (.v 1) .o)) (.mul (.mul (dZE (.v 0) (.v 1) .o) (dZE (.v 0) (.v 1) .o)) (dZE (.v 0) (.v 1) .o))))) (by decide +kernel) (by
    intro x hx
    cases hx)
  simp only [RE.ev, ev_jH, ev_jR, ev_jX, ev_jY, ev_jZ, ev_dR, ev_dM, ev_dX, ev_dF, ev_dY, ev_dZ] at e
  exact e
set_option maxRecDepth 100000 in
set_option maxHeartbeats 2000000 in
theorem ec_comm_x (h : RG K) (x1 y1 x2 y2 : K) : ((jX x1 y1 1 x2 y2 1) * ((jZ x2 y2 1 x1 y1 1) * (jZ x2 y2 1 x1 y1 1))) = ((jX x2 y2 1 x1 y1 1) * ((jZ x1 y1 1 x2 y2 1) * (jZ x1 y1 1 x2 y2 1))) := by
  have e := rg_eq h (rgl [x1, y1, x2, y2]) [] (.mul (jXE (.v 0) (.v 1) .o (.v 2) (.v 3) .o) (.mul (jZE (.v 2) (.v 3) .o (.v 0) (.v 1) .o) (jZE (.v 2) (.v 3) .o (.v 0) (.v 1) .o))) (.mul (jXE (.v 2) (.v 3) .o (.v 0) (.v 1) .o) (.mul (jZE (.v 0) (.v 1) .o (.v 2) (.v 3) .o) (jZE (.v 0) (.v 1) .o (.v 2) (.v 3) .o))) (by decide +kernel) (by
    intro x hx
    cases hx)
  simp only [RE.ev, ev_jH, ev_jR, ev_jX, ev_jY, ev_jZ, ev_dR, ev_dM, ev_dX, ev_dF, ev_dY, ev_dZ] at e
  exact e
set_option maxRecDepth 100000 in
set_option maxHeartbeats 2000000 in
theorem ec_comm_y (h : RG K) (x1 y1 x2 y2 : K) : ((jY x1 y1 1 x2 y2 1) * (((jZ x2 y2 1 x1 y1 1) * (jZ x2 y2 1 x1 y1 1)) * (jZ x2 y2 1 x1 y1 1))) = ((jY x2 y2 1 x1 y1 1) * (((jZ x1 y1 1 x2 y2 1) * (jZ x1 y1 1 x2 y2 1)) * (jZ x1 y1 1 x2 y2 1))) := by
  have e := rg_eq h (rgl [x1, y1, x2, y2]) [] (.mul (jYE (.v 0) (.v 1) .o (.v 2) (.v 3) .o) (.mul (.mul (jZE (.v 2) (.v 3) .o (.v 0) (.v 1) .o) (jZE (.v 2) (.v 3) .o (.v 0) (.v 1) .o)) (jZE (.v 2) (.v 3) .o (.v 0) (.v 1) .o))) (.mul (jYE (.v 2) (.v 3) .o (.v 0) (.v 1) .o) (.mul (.mul (jZE (.v 0) (.v 1) .o (.v 2) (.v 3) .o) (jZE (.v 0) (.v 1) .o (.v 2) (.v 3) .o)) (jZE (.v 0) (.v 1) .o (.v 2) (.v 3) .o))) (by decide +kernel) (by
    intro x hx
    cases hx)
  simp only [RE.ev, ev_jH, ev_jR, ev_jX, ev_jY, ev_jZ, ev_dR, ev_dM, ev_dX, ev_dF, ev_dY, ev_dZ] at e
  exact e
end
end Go.Proofs.YtifnnckbcjafgabGreatDoor
