/-
  Points by place and scale as they are added up: what stands for which point. Plain mathematics.
-/
import Derived.Test.YtifnnckbcjafgabGreatDoorUEcB
namespace Go.Proofs.YtifnnckbcjafgabGreatDoor
set_option linter.unusedSimpArgs false
set_option linter.unusedVariables false
set_option linter.unusedSectionVars false
section
variable {K : Type} [Add K] [Sub K] [Neg K] [Mul K] [Zero K] [One K]
end

/-- A point by place and scale, as it is added up; with z nought it is the point at infinity. -/
structure J3 (K : Type) where
  x : K
  y : K
  z : K
theorem J3.same {K : Type} {p q : J3 K} (h : p.x = q.x) (k : p.y = q.y) (l : p.z = q.z) : p = q := by cases p; cases q; simp_all
instance {K : Type} [Zero K] : Zero (J3 K) := ⟨⟨0, 0, 0⟩⟩
section
variable {K : Type} [Add K] [Sub K] [Neg K] [Mul K] [Zero K] [One K]
/-- The slopes' parts of p + q. -/
def J3.wide (p q : J3 K) : K := ((q.x * (p.z * p.z)) - (p.x * (q.z * q.z)))
def J3.high (p q : J3 K) : K := (((q.y * (p.z * p.z)) * p.z) - ((p.y * (q.z * q.z)) * q.z))
def J3.ch (p q : J3 K) : J3 K := ⟨(((((((q.y * (p.z * p.z)) * p.z) - ((p.y * (q.z * q.z)) * q.z)) * (((q.y * (p.z * p.z)) * p.z) - ((p.y * (q.z * q.z)) * q.z))) - ((((q.x * (p.z * p.z)) - (p.x * (q.z * q.z))) * ((q.x * (p.z * p.z)) - (p.x * (q.z * q.z)))) * ((q.x * (p.z * p.z)) - (p.x * (q.z * q.z))))) - ((p.x * (q.z * q.z)) * (((q.x * (p.z * p.z)) - (p.x * (q.z * q.z))) * ((q.x * (p.z * p.z)) - (p.x * (q.z * q.z)))))) - ((p.x * (q.z * q.z)) * (((q.x * (p.z * p.z)) - (p.x * (q.z * q.z))) * ((q.x * (p.z * p.z)) - (p.x * (q.z * q.z)))))), (((((q.y * (p.z * p.z)) * p.z) - ((p.y * (q.z * q.z)) * q.z)) * (((p.x * (q.z * q.z)) * (((q.x * (p.z * p.z)) - (p.x * (q.z * q.z))) * ((q.x * (p.z * p.z)) - (p.x * (q.z * q.z))))) - (((((((q.y * (p.z * p.z)) * p.z) - ((p.y * (q.z * q.z)) * q.z)) * (((q.y * (p.z * p.z)) * p.z) - ((p.y * (q.z * q.z)) * q.z))) - ((((q.x * (p.z * p.z)) - (p.x * (q.z * q.z))) * ((q.x * (p.z * p.z)) - (p.x * (q.z * q.z)))) * ((q.x * (p.z * p.z)) - (p.x * (q.z * q.z))))) - ((p.x * (q.z * q.z)) * (((q.x * (p.z * p.z)) - (p.x * (q.z * q.z))) * ((q.x * (p.z * p.z)) - (p.x * (q.z * q.z)))))) - ((p.x * (q.z * q.z)) * (((q.x * (p.z * p.z)) - (p.x * (q.z * q.z))) * ((q.x * (p.z * p.z)) - (p.x * (q.z * q.z)))))))) - (((p.y * (q.z * q.z)) * q.z) * ((((q.x * (p.z * p.z)) - (p.x * (q.z * q.z))) * ((q.x * (p.z * p.z)) - (p.x * (q.z * q.z)))) * ((q.x * (p.z * p.z)) - (p.x * (q.z * q.z)))))), p.z * q.z * ((q.x * (p.z * p.z)) - (p.x * (q.z * q.z)))⟩
def J3.tn (p : J3 K) : J3 K := ⟨((((((p.x * p.x) + (p.x * p.x)) + (p.x * p.x)) * (((p.x * p.x) + (p.x * p.x)) + (p.x * p.x))) - (((p.x * (p.y * p.y)) + (p.x * (p.y * p.y))) + ((p.x * (p.y * p.y)) + (p.x * (p.y * p.y))))) - (((p.x * (p.y * p.y)) + (p.x * (p.y * p.y))) + ((p.x * (p.y * p.y)) + (p.x * (p.y * p.y))))), ((((((p.x * p.x) + (p.x * p.x)) + (p.x * p.x)) * ((((p.x * (p.y * p.y)) + (p.x * (p.y * p.y))) + ((p.x * (p.y * p.y)) + (p.x * (p.y * p.y)))) - ((((((p.x * p.x) + (p.x * p.x)) + (p.x * p.x)) * (((p.x * p.x) + (p.x * p.x)) + (p.x * p.x))) - (((p.x * (p.y * p.y)) + (p.x * (p.y * p.y))) + ((p.x * (p.y * p.y)) + (p.x * (p.y * p.y))))) - (((p.x * (p.y * p.y)) + (p.x * (p.y * p.y))) + ((p.x * (p.y * p.y)) + (p.x * (p.y * p.y))))))) - ((((p.y * p.y) * (p.y * p.y)) + ((p.y * p.y) * (p.y * p.y))) + (((p.y * p.y) * (p.y * p.y)) + ((p.y * p.y) * (p.y * p.y))))) - ((((p.y * p.y) * (p.y * p.y)) + ((p.y * p.y) * (p.y * p.y))) + (((p.y * p.y) * (p.y * p.y)) + ((p.y * p.y) * (p.y * p.y))))), p.y * p.z + p.y * p.z⟩
variable [DecidableEq K]
def J3.dbl (p : J3 K) : J3 K := if p.z = 0 then p else p.tn
def J3.add (p q : J3 K) : J3 K := if p.z = 0 then q else if q.z = 0 then p else if J3.wide p q = 0 then (if J3.high p q = 0 then p.dbl else 0) else J3.ch p q
variable {inv : K → K} {b : K}
namespace EC
end EC
/-- Where it lies. -/
def J3.at_ (inv : K → K) (p : J3 K) : Pt K := ⟨p.x * (inv p.z * inv p.z), p.y * (inv p.z * inv p.z) * inv p.z⟩
def J3.of (P : Pt K) : J3 K := if P = 0 then 0 else ⟨P.x, P.y, 1⟩
namespace EC
end EC
/-- So many times a point. -/
def ecN (inv : K → K) : Nat → Pt K → Pt K
  | 0, _ => 0
  | n + 1, P => ecAdd inv (ecN inv n P) P
namespace EC
theorem on_n (E : EC inv b) {P : Pt K} (h : OnC b P) : ∀ n, OnC b (ecN inv n P)
  | 0 => .inl rfl
  | n + 1 => E.on_add (E.on_n h n) h
theorem n_one (P : Pt K) : ecN inv 1 P = P := zero_add P
theorem n_zero (E : EC inv b) : ∀ n, ecN inv n (0 : Pt K) = 0
  | 0 => rfl
  | n + 1 => by
    show ecAdd inv (ecN inv n 0) 0 = 0
    rw [E.n_zero n, add_zero]
theorem n_neg (E : EC inv b) {P : Pt K} (h : OnC b P) : ∀ n, ecN inv n (-P) = -ecN inv n P
  | 0 => E.neg_zero.symm
  | n + 1 => by
    show ecAdd inv (ecN inv n (-P)) (-P) = -ecAdd inv (ecN inv n P) P
    rw [E.n_neg h n, E.neg_sum (E.on_n h n) h]
end EC
/-- i times T, one by one; sixteen times; a number's bytes times. -/
def J3.few (T : J3 K) : Nat → J3 K
  | 0 => 0
  | n + 1 => J3.add (J3.few T n) T
def J3.sixteen (T : J3 K) : J3 K := T.dbl.dbl.dbl.dbl
def J3.byte (T : J3 K) (s : J3 K) (v : Nat) : J3 K := J3.add (J3.add s.sixteen (T.few (v / 16))).sixteen (T.few (v % 16))
def J3.times (T : J3 K) (l : List Nat) : J3 K := l.foldl (J3.byte T) 0
namespace EC
end EC
end
end Go.Proofs.YtifnnckbcjafgabGreatDoor
