/-
  The sum of points of a curve y squared = x cubed + b over a field where 2 is not nought and on which no y is nought: a commutative group. Plain mathematics.
-/
import Derived.Test.YtifnnckbcjafgabGreatDoorUEcA
namespace Go.Proofs.YtifnnckbcjafgabGreatDoor
set_option linter.unusedSimpArgs false
set_option linter.unusedVariables false
set_option linter.unusedSectionVars false
/-- A point; the one with both nought stands for the point at infinity. -/
structure Pt (K : Type) where
  x : K
  y : K
theorem Pt.same {K : Type} {p q : Pt K} (h : p.x = q.x) (k : p.y = q.y) : p = q := by cases p; cases q; simp_all
theorem Pt.eq_iff {K : Type} {p q : Pt K} : p = q ↔ p.x = q.x ∧ p.y = q.y := ⟨fun h => by rw [h]; exact ⟨rfl, rfl⟩, fun h => Pt.same h.1 h.2⟩
instance {K : Type} [DecidableEq K] : DecidableEq (Pt K) := fun _ _ => decidable_of_iff _ Pt.eq_iff.symm
instance {K : Type} [Zero K] : Zero (Pt K) := ⟨⟨0, 0⟩⟩
instance {K : Type} [Neg K] : Neg (Pt K) := ⟨fun p => ⟨p.x, -p.y⟩⟩
section
variable {K : Type} [Add K] [Sub K] [Neg K] [Mul K] [Zero K] [One K]
/-- The field and the curve. -/
structure EC (inv : K → K) (b : K) : Prop where
  rg : RG K
  iv : ∀ x : K, x ≠ 0 → x * inv x = 1
  one : (1 : K) ≠ 0
  two : (1 + 1 : K) ≠ 0
  no2 : ∀ x : K, x * x * x + b ≠ 0
/-- A point of the curve that is not nought. -/
def Aff (b : K) (p : Pt K) : Prop := p.y * p.y = p.x * p.x * p.x + b
def OnC (b : K) (p : Pt K) : Prop := p = 0 ∨ Aff b p
/-- The third point of a line of slope s through p, whose other point is at c, its negative. -/
def ecLine (s : K) (p : Pt K) (c : K) : Pt K := ⟨s * s - p.x - c, s * (p.x - (s * s - p.x - c)) - p.y⟩
def slCh (inv : K → K) (p q : Pt K) : K := (q.y - p.y) * inv (q.x - p.x)
def slDb (inv : K → K) (p : Pt K) : K := (p.x * p.x + p.x * p.x + p.x * p.x) * inv (p.y + p.y)
def ecCh (inv : K → K) (p q : Pt K) : Pt K := ecLine (slCh inv p q) p q.x
def ecDb (inv : K → K) (p : Pt K) : Pt K := ecLine (slDb inv p) p p.x
/-- p is at X / Z^2 and Y / Z^3. -/
def Jp (p : Pt K) (X Y Z : K) : Prop := Z ≠ 0 ∧ p.x * (Z * Z) = X ∧ p.y * (Z * Z * Z) = Y
variable {inv : K → K} {b : K}
namespace EC
theorem prime (E : EC inv b) {x y : K} (e : x * y = 0) : x = 0 ∨ y = 0 := by
  rcases Classical.em (x = 0) with h | h
  · exact .inl h
  · right
    have h1 : inv x * (x * y) = 0 := by rw [e, E.rg.mz]
    rwa [← E.rg.ma, E.rg.mc (inv x), E.iv x h, E.rg.om] at h1
theorem mul_ne (E : EC inv b) {x y : K} (hx : x ≠ 0) (hy : y ≠ 0) : x * y ≠ 0 := fun e => by
  rcases E.prime e with h | h
  · exact hx h
  · exact hy h
theorem cancel (E : EC inv b) {x y z : K} (hz : z ≠ 0) (e : x * z = y * z) : x = y := by
  have h1 : x * z * inv z = y * z * inv z := by rw [e]
  rwa [E.rg.ma, E.rg.ma, E.iv z hz, E.rg.mo, E.rg.mo] at h1
theorem sub_ne (E : EC inv b) {x y : K} (h : x ≠ y) : y - x ≠ 0 := fun e => h (E.rg.eq_of_sub e).symm
theorem slope (E : EC inv b) {e d : K} (hd : d ≠ 0) : e * inv d * d = e := by rw [E.rg.ma, E.rg.mc (inv d), E.iv d hd, E.rg.mo]
theorem neg_eq (E : EC inv b) {x y : K} (h : -x = -y) : x = y := by rw [← E.rg.nn x, h, E.rg.nn]
theorem neg_neg (E : EC inv b) (p : Pt K) : - -p = p := Pt.same rfl (E.rg.nn _)
theorem neg_zero (E : EC inv b) : -(0 : Pt K) = 0 := Pt.same rfl E.rg.nz
theorem twice_ne (E : EC inv b) {y : K} (h : y ≠ 0) : y + y ≠ 0 := by
  rw [← ec_two E.rg y]
  exact E.mul_ne E.two h
theorem ne_neg (E : EC inv b) {y : K} (h : y ≠ 0) : y ≠ -y := fun e => E.twice_ne h (by
  conv => lhs; rhs; rw [e]
  exact E.rg.an y)
theorem y0 (E : EC inv b) {p : Pt K} (h : Aff b p) : p.y ≠ 0 := fun e => E.no2 p.x (by rw [← h, e, E.rg.mz])
theorem aff_ne (E : EC inv b) {p : Pt K} (h : Aff b p) : p ≠ 0 := fun e => E.y0 h (by rw [e]; rfl)
theorem aff_neg (E : EC inv b) {p : Pt K} (h : Aff b p) : Aff b (-p) := by
  show -p.y * -p.y = _
  rw [ec_nn E.rg]
  exact h
theorem b_of (E : EC inv b) {p : Pt K} (h : Aff b p) : p.y * p.y - p.x * p.x * p.x = b := by
  rw [h]; exact ec_b1 E.rg _ _
theorem y2_of (E : EC inv b) {p q : Pt K} (hp : Aff b p) (hq : Aff b q) : q.y * q.y = q.x * q.x * q.x + p.y * p.y - p.x * p.x * p.x := by
  rw [hp, hq]; exact ec_y2 E.rg _ _ _
theorem xeq (E : EC inv b) {p q : Pt K} (hp : Aff b p) (hq : Aff b q) (h : p.x = q.x) : p = q ∨ p = -q := by
  have e : (p.y - q.y) * (p.y + q.y) = 0 := by
    rw [ec_dif E.rg, hp, hq, h, E.rg.sub_self]
  rcases E.prime e with e | e
  · exact .inl (Pt.same h (E.rg.eq_of_sub e))
  · refine .inr (Pt.same h ?_)
    show p.y = -q.y
    have := E.rg.neg_of e
    rw [this, E.rg.nn]
/-! places and scales -/
theorem jp_one (E : EC inv b) (p : Pt K) : Jp p p.x p.y 1 := ⟨E.one, by rw [E.rg.mo, E.rg.mo], by rw [E.rg.mo, E.rg.mo, E.rg.mo]⟩
theorem jp_neg (E : EC inv b) {p : Pt K} {X Y Z : K} (h : Jp p X Y Z) : Jp (-p) X (-Y) Z := ⟨h.1, h.2.1, by rw [← h.2.2, E.rg.nmul]; rfl⟩
theorem jp_eq (E : EC inv b) {p q : Pt K} {X Y Z X' Y' Z' : K} (h : Jp p X Y Z) (k : Jp q X' Y' Z') (hx : X * (Z' * Z') = X' * (Z * Z)) (hy : Y * (Z' * Z' * Z') = Y' * (Z * Z * Z)) : p = q := by
  obtain ⟨hz, rfl, rfl⟩ := h
  obtain ⟨kz, rfl, rfl⟩ := k
  refine Pt.same ?_ ?_
  · rw [ec_comm4 E.rg] at hx
    exact E.cancel (E.mul_ne hz hz) (E.cancel (E.mul_ne kz kz) (by rw [ec_comm4 E.rg p.x, hx, ec_comm4 E.rg q.x]))
  · rw [ec_comm4 E.rg] at hy
    exact E.cancel (E.mul_ne (E.mul_ne hz hz) hz) (E.cancel (E.mul_ne (E.mul_ne kz kz) kz) (by rw [ec_comm4 E.rg p.y, hy, ec_comm4 E.rg q.y]))
theorem jp_line (E : EC inv b) {p : Pt K} {c s Z R : K} (hz : Z ≠ 0) (hR : s * Z = R) :
    Jp (ecLine s p c) (R * R - p.x * (Z * Z) - c * (Z * Z)) (R * (p.x * (Z * Z) - (R * R - p.x * (Z * Z) - c * (Z * Z))) - p.y * (Z * Z * Z)) Z := by
  subst hR
  exact ⟨hz, ec_line_x E.rg _ _ _ _, ec_line_y E.rg _ _ _ _ _⟩
theorem jp_ch (E : EC inv b) {p q : Pt K} {X1 Y1 Z1 X2 Y2 Z2 : K} (h : Jp p X1 Y1 Z1) (k : Jp q X2 Y2 Z2) (hx : p.x ≠ q.x) :
    Jp (ecCh inv p q) (jX X1 Y1 Z1 X2 Y2 Z2) (jY X1 Y1 Z1 X2 Y2 Z2) (jZ X1 Y1 Z1 X2 Y2 Z2) ∧ slCh inv p q * jZ X1 Y1 Z1 X2 Y2 Z2 = jR X1 Y1 Z1 X2 Y2 Z2 := by
  obtain ⟨hz, rfl, rfl⟩ := h
  obtain ⟨kz, rfl, rfl⟩ := k
  have hs : slCh inv p q * (q.x - p.x) = q.y - p.y := E.slope (E.sub_ne hx)
  have hR := ec_j2 E.rg p.x p.y q.x q.y Z1 Z2 (slCh inv p q)
  rw [hs, ec_j3 E.rg] at hR
  have hH : jZ (p.x * (Z1 * Z1)) (p.y * (Z1 * Z1 * Z1)) Z1 (q.x * (Z2 * Z2)) (q.y * (Z2 * Z2 * Z2)) Z2 ≠ 0 := by
    unfold jZ
    rw [ec_j1 E.rg]
    exact E.mul_ne (E.mul_ne hz kz) (E.mul_ne (E.sub_ne hx) (E.mul_ne (E.mul_ne hz kz) (E.mul_ne hz kz)))
  have := jp_line E (p := p) (c := q.x) hH hR
  rw [ec_j4 E.rg, ec_j5 E.rg] at this
  exact ⟨this, hR⟩
theorem jp_db (E : EC inv b) {p : Pt K} {X1 Y1 Z1 : K} (h : Jp p X1 Y1 Z1) (hy : p.y ≠ 0) :
    Jp (ecDb inv p) (dX X1 Y1 Z1) (dY X1 Y1 Z1) (dZ X1 Y1 Z1) := by
  obtain ⟨hz, rfl, rfl⟩ := h
  have hs : slDb inv p * (p.y + p.y) = p.x * p.x + p.x * p.x + p.x * p.x := E.slope (E.twice_ne hy)
  have hR := ec_d2 E.rg p.x p.y Z1 (slDb inv p)
  rw [hs, ec_d3 E.rg p.x p.y Z1] at hR
  have hH : dZ (p.x * (Z1 * Z1)) (p.y * (Z1 * Z1 * Z1)) Z1 ≠ 0 := by
    rw [ec_d1 E.rg]
    exact E.mul_ne (E.twice_ne hy) (E.mul_ne (E.mul_ne hz hz) (E.mul_ne hz hz))
  have := jp_line E (p := p) (c := p.x) hH hR
  rw [ec_d4 E.rg, ec_d5 E.rg] at this
  exact this
/-- On the curve, by place and scale. -/
theorem jp_aff (E : EC inv b) {p : Pt K} {X Y Z : K} (h : Jp p X Y Z) (e : Y * Y = X * X * X + b * (Z * Z * Z * (Z * Z * Z))) : Aff b p := by
  obtain ⟨hz, rfl, rfl⟩ := h
  rw [ec_six E.rg, ec_six2 E.rg] at e
  exact E.cancel (E.mul_ne (E.mul_ne (E.mul_ne hz hz) hz) (E.mul_ne (E.mul_ne hz hz) hz)) e
theorem on_ch (E : EC inv b) {p q : Pt K} (hp : Aff b p) (hq : Aff b q) (hx : p.x ≠ q.x) : Aff b (ecCh inv p q) := by
  refine E.jp_aff (E.jp_ch (E.jp_one p) (E.jp_one q) hx).1 ?_
  have := ec_on_ch E.rg p.x p.y q.x q.y (E.y2_of hp hq)
  rwa [E.b_of hp] at this
theorem on_db (E : EC inv b) {p : Pt K} (hp : Aff b p) : Aff b (ecDb inv p) := by
  refine E.jp_aff (E.jp_db (E.jp_one p) (E.y0 hp)) ?_
  have := ec_on_db E.rg p.x p.y
  rwa [E.b_of hp] at this
theorem ch_comm (E : EC inv b) {p q : Pt K} (hx : p.x ≠ q.x) : ecCh inv p q = ecCh inv q p :=
  E.jp_eq (E.jp_ch (E.jp_one p) (E.jp_one q) hx).1 (E.jp_ch (E.jp_one q) (E.jp_one p) (Ne.symm hx)).1 (ec_comm_x E.rg _ _ _ _) (ec_comm_y E.rg _ _ _ _)
theorem ch_neg (E : EC inv b) {p q : Pt K} (hx : p.x ≠ q.x) : ecCh inv (-p) (-q) = -ecCh inv p q := by
  have h := E.jp_neg (E.jp_ch (E.jp_one p) (E.jp_one q) hx).1
  have k := (E.jp_ch (E.jp_neg (E.jp_one p)) (E.jp_neg (E.jp_one q)) hx).1
  rw [ec_nx E.rg, ec_ny E.rg, ec_nz E.rg] at k
  exact E.jp_eq k h rfl rfl
theorem db_neg (E : EC inv b) {p : Pt K} (hp : p.y ≠ 0) : ecDb inv (-p) = -ecDb inv p := by
  have h := E.jp_neg (E.jp_db (E.jp_one p) hp)
  have k := E.jp_db (E.jp_neg (E.jp_one p)) (fun e => hp (E.neg_eq (show -p.y = -0 by rw [E.rg.nz]; exact e)))
  rw [ec_ndx E.rg, ec_ndy E.rg, ec_ndz E.rg] at k
  refine E.jp_eq k h ?_ ?_
  · exact (ec_sg1 E.rg _ _).symm
  · rw [ec_sg2 E.rg, E.rg.nn]
end EC
variable [DecidableEq K]
/-- The sum of two points of the curve. -/
def ecAdd (inv : K → K) (p q : Pt K) : Pt K :=
  if p = 0 then q else if q = 0 then p else if p.x = q.x then (if p.y = q.y then ecDb inv p else 0) else ecCh inv p q
namespace EC
theorem zero_add (p : Pt K) : ecAdd inv 0 p = p := if_pos rfl
theorem add_zero (p : Pt K) : ecAdd inv p 0 = p := by
  unfold ecAdd
  split
  · rename_i h; exact h.symm
  · exact if_pos rfl
theorem add_ch {p q : Pt K} (hp : p ≠ 0) (hq : q ≠ 0) (hx : p.x ≠ q.x) : ecAdd inv p q = ecCh inv p q := by
  unfold ecAdd
  rw [if_neg hp, if_neg hq, if_neg hx]
theorem add_db {p : Pt K} (hp : p ≠ 0) : ecAdd inv p p = ecDb inv p := by
  unfold ecAdd
  rw [if_neg hp, if_neg hp, if_pos rfl, if_pos rfl]
theorem add_neg (E : EC inv b) {p : Pt K} (hp : OnC b p) : ecAdd inv p (-p) = 0 := by
  rcases hp with rfl | hp
  · rw [zero_add, E.neg_zero]
  · unfold ecAdd
    rw [if_neg (E.aff_ne hp), if_neg (E.aff_ne (E.aff_neg hp)), if_pos (show p.x = (-p).x from rfl), if_neg (show p.y ≠ (-p).y from E.ne_neg (E.y0 hp))]
/-- The ways of a sum of two that are not nought. -/
theorem ways (E : EC inv b) {p q : Pt K} (hp : Aff b p) (hq : Aff b q) :
    p = q ∨ p = -q ∨ p.x ≠ q.x := by
  rcases Classical.em (p.x = q.x) with h | h
  · rcases E.xeq hp hq h with e | e
    · exact .inl e
    · exact .inr (.inl e)
  · exact .inr (.inr h)
theorem neg_add_self (E : EC inv b) {p : Pt K} (hp : OnC b p) : ecAdd inv (-p) p = 0 := by
  rcases hp with rfl | hp
  · rw [add_zero, E.neg_zero]
  · have := E.add_neg (.inr (E.aff_neg hp))
    rwa [E.neg_neg] at this
theorem on_add (E : EC inv b) {p q : Pt K} (hp : OnC b p) (hq : OnC b q) : OnC b (ecAdd inv p q) := by
  rcases hp with rfl | hp
  · rwa [zero_add]
  · rcases hq with rfl | hq
    · rw [add_zero]; exact .inr hp
    · rcases E.ways hp hq with rfl | rfl | h
      · rw [add_db (E.aff_ne hp)]; exact .inr (E.on_db hp)
      · rw [E.neg_add_self (.inr hq)]; exact .inl rfl
      · rw [add_ch (E.aff_ne hp) (E.aff_ne hq) h]; exact .inr (E.on_ch hp hq h)
theorem add_comm (E : EC inv b) {p q : Pt K} (hp : OnC b p) (hq : OnC b q) : ecAdd inv p q = ecAdd inv q p := by
  rcases hp with rfl | hp
  · rw [zero_add, add_zero]
  · rcases hq with rfl | hq
    · rw [zero_add, add_zero]
    · rcases E.ways hp hq with rfl | rfl | h
      · rfl
      · rw [E.neg_add_self (.inr hq), E.add_neg (.inr hq)]
      · rw [add_ch (E.aff_ne hp) (E.aff_ne hq) h, add_ch (E.aff_ne hq) (E.aff_ne hp) (Ne.symm h), E.ch_comm h]
theorem neg_sum (E : EC inv b) {p q : Pt K} (hp : OnC b p) (hq : OnC b q) : -ecAdd inv p q = ecAdd inv (-p) (-q) := by
  rcases hp with rfl | hp
  · rw [zero_add, E.neg_zero, zero_add]
  · rcases hq with rfl | hq
    · rw [add_zero, E.neg_zero, add_zero]
    · rcases E.ways hp hq with rfl | rfl | h
      · rw [add_db (E.aff_ne hp), add_db (E.aff_ne (E.aff_neg hp)), E.db_neg (E.y0 hp)]
      · rw [E.neg_add_self (.inr hq), E.neg_neg, E.add_neg (.inr hq), E.neg_zero]
      · rw [add_ch (E.aff_ne hp) (E.aff_ne hq) h, add_ch (E.aff_ne (E.aff_neg hp)) (E.aff_ne (E.aff_neg hq)) h, E.ch_neg h]
end EC
end
end Go.Proofs.YtifnnckbcjafgabGreatDoor
