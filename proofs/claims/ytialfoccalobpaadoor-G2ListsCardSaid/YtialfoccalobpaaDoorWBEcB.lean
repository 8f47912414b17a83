/-
  The sum of points of a curve y squared = x cubed + b over a field where 2 is not nought and on which no y is nought: a commutative group. Plain mathematics.
-/
import Derived.Test.YtialfoccalobpaaDoorWBEcA
namespace Go.Proofs.YtialfoccalobpaaDoor
set_option linter.unusedSimpArgs false
set_option linter.unusedVariables false
set_option linter.unusedSectionVars false
/-- A point; the one with both nought stands for the point at infinity. -/
structure Pt (K : Type) where
  x : K
  y : K
theorem Pt.same {K : Type} {p q : Pt K} (h : p.x = q.x) (k : p.y = q.y) : p = q := by cases p; cases q; simp_all
theorem Pt.eq_iff {K : Type} {p q : Pt K} : p = q ↔ p.x = q.x ∧ p.y = q.y := ⟨fun h => by rw [h]; exact ⟨rfl, rfl⟩, fun h => Pt.same h.1 h.2⟩
instance {K : Type} [DecidableEq K] : DecidableEq (Pt K) := fun _ _ => decidable_of_iff _ Pt.eq_iff.symm
instance {K : Type} [Zero K] : Zero (Pt K) := ⟨⟨0, 0⟩⟩
instance {K : Type} [Neg K] : Neg (Pt K) := ⟨fun p => ⟨p.x, -p.y⟩⟩
section
variable {K : Type} [Add K] [Sub K] [Neg K] [Mul K] [Zero K] [One K]
/-- The field and the curve. -/
structure EC (inv : K → K) (b : K) : Prop where
  rg : RG K
  iv : ∀ x : K, x ≠ 0 → x * inv x = 1
  one : (1 : K) ≠ 0
  two : (1 + 1 : K) ≠ 0
  no2 : ∀ x : K, x * x * x + b ≠ 0
/-- A point of the curve that is not nought. -/
def Aff (b : K) (p : Pt K) : Prop := p.y * p.y = p.x * p.x * p.x + b
def OnC (b : K) (p : Pt K) : Prop := p = 0 ∨ Aff b p
/-- The third point of a line of slope s through p, whose other point is at c, its negative. -/
def ecLine (s : K) (p : Pt K) (c : K) : Pt K := ⟨s * s - p.x - c, s * (p.x - (s * s - p.x - c)) - p.y⟩
def slCh (inv : K → K) (p q : Pt K) : K := (q.y - p.y) * inv (q.x - p.x)
def slDb (inv : K → K) (p : Pt K) : K := (p.x * p.x + p.x * p.x + p.x * p.x) * inv (p.y + p.y)
def ecCh (inv : K → K) (p q : Pt K) : Pt K := ecLine (slCh inv p q) p q.x
def ecDb (inv : K → K) (p : Pt K) : Pt K := ecLine (slDb inv p) p p.x
/-- p is at X / Z^2 and Y / Z^3. -/
def Jp (p : Pt K) (X Y Z : K) : Prop := Z ≠ 0 ∧ p.x * (Z * Z) = X ∧ p.y * (Z * Z * Z) = Y
variable {inv : K → K} {b : K}
namespace EC
theorem prime (E : EC inv b) {x y : K} (e : x * y = 0) : x = 0 ∨ y = 0 := by
  rcases Classical.em (x = 0) with h | h
  · exact .inl h
  · right
    have h1 : inv x * (x * y) = 0 := by rw [e, E.rg.mz]
    rwa [← E.rg.ma, E.rg.mc (inv x), E.iv x h, E.rg.om] at h1
theorem mul_ne (E : EC inv b) {x y : K} (hx : x ≠ 0) (hy : y ≠ 0) : x * y ≠ 0 := fun e => by
  rcases E.prime e with h | h
  · exact hx h
  · exact hy h
theorem cancel (E : EC inv b) {x y z : K} (hz : z ≠ 0) (e : x * z = y * z) : x = y := by
  have h1 : x * z * inv z = y * z * inv z := by rw [e]
  rwa [E.rg.ma, E.rg.ma, E.iv z hz, E.rg.mo, E.rg.mo] at h1
theorem sub_ne (E : EC inv b) {x y : K} (h : x ≠ y) : y - x ≠ 0 := fun e => h (E.rg.eq_of_sub e).symm
theorem slope (E : EC inv b) {e d : K} (hd : d ≠ 0) : e * inv d * d = e := by rw [E.rg.ma, E.rg.mc (inv d), E.iv d hd, E.rg.mo]
theorem neg_eq (E : EC inv b) {x y : K} (h : -x = -y) : x = y := by rw [← E.rg.nn x, h, E.rg.nn]
theorem neg_neg (E : EC inv b) (p : Pt K) : - -p = p := Pt.same rfl (E.rg.nn _)
theorem neg_zero (E : EC inv b) : -(0 : Pt K) = 0 := Pt.same rfl E.rg.nz
theorem twice_ne (E : EC inv b) {y : K} (h : y ≠ 0) : y + y ≠ 0 := by
  rw [← ec_two E.rg y]
  exact E.mul_ne E.two h
theorem ne_neg (E : EC inv b) {y : K} (h : y ≠ 0) : y ≠ -y := fun e => E.twice_ne h (by
  conv => lhs; rhs; rw [e]
  exact E.rg.an y)
theorem y0 (E : EC inv b) {p : Pt K} (h : Aff b p) : p.y ≠ 0 := fun e => E.no2 p.x (by rw [← h, e, E.rg.mz])
theorem aff_ne (E : EC inv b) {p : Pt K} (h : Aff b p) : p ≠ 0 := fun e => E.y0 h (by rw [e]; rfl)
theorem aff_neg (E : EC inv b) {p : Pt K} (h : Aff b p) : Aff b (-p) := by
  show -p.y * -p.y = _
  rw [ec_nn E.rg]
  exact h
theorem b_of (E : EC inv b) {p : Pt K} (h : Aff b p) : p.y * p.y - p.x * p.x * p.x = b := by
  rw [h]; exact ec_b1 E.rg _ _
theorem y2_of (E : EC inv b) {p q : Pt K} (hp : Aff b p) (hq : Aff b q) : q.y * q.y = q.x * q.x * q.x + p.y * p.y - p.x * p.x * p.x := by
  rw [hp, hq]; exact ec_y2 E.rg _ _ _
theorem xeq (E : EC inv b) {p q : Pt K} (hp : Aff b p) (hq : Aff b q) (h : p.x = q.x) : p = q ∨ p = -q := by
  have e : (p.y - q.y) * (p.y + q.y) = 0 := by
    rw [ec_dif E.rg, hp, hq, h, E.rg.sub_self]
  rcases E.prime e with e | e
  · exact .inl (Pt.same h (E.rg.eq_of_sub e))
  · refine .inr (Pt.same h ?_)
    show p.y = -q.y
    have := E.rg.neg_of e
    rw [this, E.rg.nn]
/-! places and scales -/
theorem jp_one (E : EC inv b) (p : Pt K) : Jp p p.x p.y 1 := ⟨E.one, by rw [E.rg.mo, E.rg.mo], by rw [E.rg.mo, E.rg.mo, E.rg.mo]⟩
theorem jp_neg (E : EC inv b) {p : Pt K} {X Y Z : K} (h : Jp p X Y Z) : Jp (-p) X (-Y) Z := ⟨h.1, h.2.1, by rw [← h.2.2, E.rg.nmul]; rfl⟩
theorem jp_eq (E : EC inv b) {p q : Pt K} {X Y Z X' Y' Z' : K} (h : Jp p X Y Z) (k : Jp q X' Y' Z') (hx : X * (Z' * Z') = X' * (Z * Z)) (hy : Y * (Z' * Z' * Z') = Y' * (Z * Z * Z)) : p = q := by
  obtain ⟨hz, rfl, rfl⟩ := h
  obtain ⟨kz, rfl, rfl⟩ := k
  refine Pt.same ?_ ?_
  · rw [ec_comm4 E.rg] at hx
    exact E.cancel (E.mul_ne hz hz) (E.cancel (E.mul_ne kz kz) (by rw [ec_comm4 E.rg p.x, hx, ec_comm4 E.rg q.x]))
  · rw [ec_comm4 E.rg] at hy
    exact E.cancel (E.mul_ne (E.mul_ne hz hz) hz) (E.cancel (E.mul_ne (E.mul_ne kz kz) kz) (by rw [ec_comm4 E.rg p.y, hy, ec_comm4 E.rg q.y]))
theorem jp_x (E : EC inv b) {p q : Pt K} {X Y Z X' Y' Z' : K} (h : Jp p X Y Z) (k : Jp q X' Y' Z') (hx : X * (Z' * Z') = X' * (Z * Z)) : p.x = q.x := by
  obtain ⟨hz, rfl, rfl⟩ := h
  obtain ⟨kz, rfl, rfl⟩ := k
  rw [ec_comm4 E.rg] at hx
  exact E.cancel (E.mul_ne hz hz) (E.cancel (E.mul_ne kz kz) (by rw [ec_comm4 E.rg p.x, hx, ec_comm4 E.rg q.x]))
theorem jp_line (E : EC inv b) {p : Pt K} {c s Z R : K} (hz : Z ≠ 0) (hR : s * Z = R) :
    Jp (ecLine s p c) (R * R - p.x * (Z * Z) - c * (Z * Z)) (R * (p.x * (Z * Z) - (R * R - p.x * (Z * Z) - c * (Z * Z))) - p.y * (Z * Z * Z)) Z := by
  subst hR
  exact ⟨hz, ec_line_x E.rg _ _ _ _, ec_line_y E.rg _ _ _ _ _⟩
theorem jp_ch (E : EC inv b) {p q : Pt K} {X1 Y1 Z1 X2 Y2 Z2 : K} (h : Jp p X1 Y1 Z1) (k : Jp q X2 Y2 Z2) (hx : p.x ≠ q.x) :
    Jp (ecCh inv p q) (jX X1 Y1 Z1 X2 Y2 Z2) (jY X1 Y1 Z1 X2 Y2 Z2) (jZ X1 Y1 Z1 X2 Y2 Z2) ∧ slCh inv p q * jZ X1 Y1 Z1 X2 Y2 Z2 = jR X1 Y1 Z1 X2 Y2 Z2 := by
  obtain ⟨hz, rfl, rfl⟩ := h
  obtain ⟨kz, rfl, rfl⟩ := k
  have hs : slCh inv p q * (q.x - p.x) = q.y - p.y := E.slope (E.sub_ne hx)
  have hR := ec_j2 E.rg p.x p.y q.x q.y Z1 Z2 (slCh inv p q)
  rw [hs, ec_j3 E.rg] at hR
  have hH : jZ (p.x * (Z1 * Z1)) (p.y * (Z1 * Z1 * Z1)) Z1 (q.x * (Z2 * Z2)) (q.y * (Z2 * Z2 * Z2)) Z2 ≠ 0 := by
    unfold jZ
    rw [ec_j1 E.rg]
    exact E.mul_ne (E.mul_ne hz kz) (E.mul_ne (E.sub_ne hx) (E.mul_ne (E.mul_ne hz kz) (E.mul_ne hz kz)))
  have := jp_line E (p := p) (c := q.x) hH hR
  rw [ec_j4 E.rg, ec_j5 E.rg] at this
  exact ⟨this, hR⟩
theorem jp_db (E : EC inv b) {p : Pt K} {X1 Y1 Z1 : K} (h : Jp p X1 Y1 Z1) (hy : p.y ≠ 0) :
    Jp (ecDb inv p) (dX X1 Y1 Z1) (dY X1 Y1 Z1) (dZ X1 Y1 Z1) := by
  obtain ⟨hz, rfl, rfl⟩ := h
  have hs : slDb inv p * (p.y + p.y) = p.x * p.x + p.x * p.x + p.x * p.x := E.slope (E.twice_ne hy)
  have hR := ec_d2 E.rg p.x p.y Z1 (slDb inv p)
  rw [hs, ec_d3 E.rg p.x p.y Z1] at hR
  have hH : dZ (p.x * (Z1 * Z1)) (p.y * (Z1 * Z1 * Z1)) Z1 ≠ 0 := by
    rw [ec_d1 E.rg]
    exact E.mul_ne (E.twice_ne hy) (E.mul_ne (E.mul_ne hz hz) (E.mul_ne hz hz))
  have := jp_line E (p := p) (c := p.x) hH hR
  rw [ec_d4 E.rg, ec_d5 E.rg] at this
  exact this
/-- On the curve, by place and scale. -/
theorem jp_aff (E : EC inv b) {p : Pt K} {X Y Z : K} (h : Jp p X Y Z) (e : Y * Y = X * X * X + b * (Z * Z * Z * (Z * Z * Z))) : Aff b p := by
  obtain ⟨hz, rfl, rfl⟩ := h
  rw [ec_six E.rg, ec_six2 E.rg] at e
  exact E.cancel (E.mul_ne (E.mul_ne (E.mul_ne hz hz) hz) (E.mul_ne (E.mul_ne hz hz) hz)) e
theorem on_ch (E : EC inv b) {p q : Pt K} (hp : Aff b p) (hq : Aff b q) (hx : p.x ≠ q.x) : Aff b (ecCh inv p q) := by
  refine E.jp_aff (E.jp_ch (E.jp_one p) (E.jp_one q) hx).1 ?_
  have := ec_on_ch E.rg p.x p.y q.x q.y (E.y2_of hp hq)
  rwa [E.b_of hp] at this
theorem on_db (E : EC inv b) {p : Pt K} (hp : Aff b p) : Aff b (ecDb inv p) := by
  refine E.jp_aff (E.jp_db (E.jp_one p) (E.y0 hp)) ?_
  have := ec_on_db E.rg p.x p.y
  rwa [E.b_of hp] at this
theorem ch_comm (E : EC inv b) {p q : Pt K} (hx : p.x ≠ q.x) : ecCh inv p q = ecCh inv q p :=
  E.jp_eq (E.jp_ch (E.jp_one p) (E.jp_one q) hx).1 (E.jp_ch (E.jp_one q) (E.jp_one p) (Ne.symm hx)).1 (ec_comm_x E.rg _ _ _ _) (ec_comm_y E.rg _ _ _ _)
theorem ch_neg (E : EC inv b) {p q : Pt K} (hx : p.x ≠ q.x) : ecCh inv (-p) (-q) = -ecCh inv p q := by
  have h := E.jp_neg (E.jp_ch (E.jp_one p) (E.jp_one q) hx).1
  have k := (E.jp_ch (E.jp_neg (E.jp_one p)) (E.jp_neg (E.jp_one q)) hx).1
  rw [ec_nx E.rg, ec_ny E.rg, ec_nz E.rg] at k
  exact E.jp_eq k h rfl rfl
theorem db_neg (E : EC inv b) {p : Pt K} (hp : p.y ≠ 0) : ecDb inv (-p) = -ecDb inv p := by
  have h := E.jp_neg (E.jp_db (E.jp_one p) hp)
  have k := E.jp_db (E.jp_neg (E.jp_one p)) (fun e => hp (E.neg_eq (show -p.y = -0 by rw [E.rg.nz]; exact e)))
  rw [ec_ndx E.rg, ec_ndy E.rg, ec_ndz E.rg] at k
  refine E.jp_eq k h ?_ ?_
  · exact (ec_sg1 E.rg _ _).symm
  · rw [ec_sg2 E.rg, E.rg.nn]
end EC
variable [DecidableEq K]
/-- The sum of two points of the curve. -/
def ecAdd (inv : K → K) (p q : Pt K) : Pt K :=
  if p = 0 then q else if q = 0 then p else if p.x = q.x then (if p.y = q.y then ecDb inv p else 0) else ecCh inv p q
namespace EC
theorem zero_add (p : Pt K) : ecAdd inv 0 p = p := if_pos rfl
theorem add_zero (p : Pt K) : ecAdd inv p 0 = p := by
  unfold ecAdd
  split
  · rename_i h; exact h.symm
  · exact if_pos rfl
theorem add_ch {p q : Pt K} (hp : p ≠ 0) (hq : q ≠ 0) (hx : p.x ≠ q.x) : ecAdd inv p q = ecCh inv p q := by
  unfold ecAdd
  rw [if_neg hp, if_neg hq, if_neg hx]
theorem add_db {p : Pt K} (hp : p ≠ 0) : ecAdd inv p p = ecDb inv p := by
  unfold ecAdd
  rw [if_neg hp, if_neg hp, if_pos rfl, if_pos rfl]
theorem add_neg (E : EC inv b) {p : Pt K} (hp : OnC b p) : ecAdd inv p (-p) = 0 := by
  rcases hp with rfl | hp
  · rw [zero_add, E.neg_zero]
  · unfold ecAdd
    rw [if_neg (E.aff_ne hp), if_neg (E.aff_ne (E.aff_neg hp)), if_pos (show p.x = (-p).x from rfl), if_neg (show p.y ≠ (-p).y from E.ne_neg (E.y0 hp))]
/-- The ways of a sum of two that are not nought. -/
theorem ways (E : EC inv b) {p q : Pt K} (hp : Aff b p) (hq : Aff b q) :
    p = q ∨ p = -q ∨ p.x ≠ q.x := by
  rcases Classical.em (p.x = q.x) with h | h
  · rcases E.xeq hp hq h with e | e
    · exact .inl e
    · exact .inr (.inl e)
  · exact .inr (.inr h)
theorem neg_add_self (E : EC inv b) {p : Pt K} (hp : OnC b p) : ecAdd inv (-p) p = 0 := by
  rcases hp with rfl | hp
  · rw [add_zero, E.neg_zero]
  · have := E.add_neg (.inr (E.aff_neg hp))
    rwa [E.neg_neg] at this
theorem on_neg (E : EC inv b) {p : Pt K} (hp : OnC b p) : OnC b (-p) := by
  rcases hp with rfl | hp
  · exact .inl E.neg_zero
  · exact .inr (E.aff_neg hp)
theorem on_add (E : EC inv b) {p q : Pt K} (hp : OnC b p) (hq : OnC b q) : OnC b (ecAdd inv p q) := by
  rcases hp with rfl | hp
  · rwa [zero_add]
  · rcases hq with rfl | hq
    · rw [add_zero]; exact .inr hp
    · rcases E.ways hp hq with rfl | rfl | h
      · rw [add_db (E.aff_ne hp)]; exact .inr (E.on_db hp)
      · rw [E.neg_add_self (.inr hq)]; exact .inl rfl
      · rw [add_ch (E.aff_ne hp) (E.aff_ne hq) h]; exact .inr (E.on_ch hp hq h)
theorem add_comm (E : EC inv b) {p q : Pt K} (hp : OnC b p) (hq : OnC b q) : ecAdd inv p q = ecAdd inv q p := by
  rcases hp with rfl | hp
  · rw [zero_add, add_zero]
  · rcases hq with rfl | hq
    · rw [zero_add, add_zero]
    · rcases E.ways hp hq with rfl | rfl | h
      · rfl
      · rw [E.neg_add_self (.inr hq), E.add_neg (.inr hq)]
      · rw [add_ch (E.aff_ne hp) (E.aff_ne hq) h, add_ch (E.aff_ne hq) (E.aff_ne hp) (Ne.symm h), E.ch_comm h]
theorem neg_sum (E : EC inv b) {p q : Pt K} (hp : OnC b p) (hq : OnC b q) : -ecAdd inv p q = ecAdd inv (-p) (-q) := by
  rcases hp with rfl | hp
  · rw [zero_add, E.neg_zero, zero_add]
  · rcases hq with rfl | hq
    · rw [add_zero, E.neg_zero, add_zero]
    · rcases E.ways hp hq with rfl | rfl | h
      · rw [add_db (E.aff_ne hp), add_db (E.aff_ne (E.aff_neg hp)), E.db_neg (E.y0 hp)]
      · rw [E.neg_add_self (.inr hq), E.neg_neg, E.add_neg (.inr hq), E.neg_zero]
      · rw [add_ch (E.aff_ne hp) (E.aff_ne hq) h, add_ch (E.aff_ne (E.aff_neg hp)) (E.aff_ne (E.aff_neg hq)) h, E.ch_neg h]
/-- A line's third point that lies upright of its first is the negative's. -/
theorem line_at (E : EC inv b) {p : Pt K} {s c : K} (h : (ecLine s p c).x = p.x) : (ecLine s p c).y = -p.y := by
  show s * (p.x - (ecLine s p c).x) - p.y = -p.y
  rw [h, E.rg.sub_self, E.rg.mz, E.rg.sn, E.rg.za]
theorem back (E : EC inv b) {p q : Pt K} (hp : OnC b p) (hq : OnC b q) : ecAdd inv (ecAdd inv p q) (-q) = p := by
  rcases hq with rfl | hq
  · rw [add_zero, E.neg_zero, add_zero]
  · rcases hp with rfl | hp
    · rw [zero_add, E.add_neg (.inr hq)]
    · have hnq := E.aff_neg hq
      rcases E.ways hp hq with rfl | rfl | h
      · rw [add_db (E.aff_ne hp)]
        have hD := E.on_db hp
        rcases Classical.em ((ecDb inv p).x = p.x) with e | e
        · have hDn : ecDb inv p = -p := Pt.same e (E.line_at e)
          rw [hDn, add_db (E.aff_ne hnq), E.db_neg (E.y0 hp), hDn, E.neg_neg]
        · rw [add_ch (E.aff_ne hD) (E.aff_ne hnq) e]
          exact E.jp_eq (E.jp_ch (E.jp_db (E.jp_one p) (E.y0 hp)) (E.jp_neg (E.jp_one p)) e).1 (E.jp_one p) (ec_back_db_x E.rg _ _) (ec_back_db_y E.rg _ _)
      · rw [E.neg_add_self (.inr hq), zero_add]
      · rw [add_ch (E.aff_ne hp) (E.aff_ne hq) h]
        have hC := E.on_ch hp hq h
        rcases Classical.em ((ecCh inv p q).x = q.x) with e | e
        · have hs : slCh inv p q * (q.x - p.x) = q.y - p.y := E.slope (E.sub_ne h)
          obtain ⟨s, hsd⟩ : ∃ s, s = slCh inv p q := ⟨_, rfl⟩
          have e0 : (ecCh inv q p).x = q.x := by rw [← E.ch_comm h]; exact e
          have hCn : ecCh inv p q = -q := by
            rw [E.ch_comm h]
            exact Pt.same e0 (E.line_at e0)
          rw [hCn, add_db (E.aff_ne hnq)]
          have ex : s * s - p.x - q.x = q.x := by rw [hsd]; exact e
          rw [← hsd] at hs
          -- the tangent at q has the chord's slope
          have t1 : s * (q.y + p.y) = q.x * q.x + p.x * q.x + p.x * p.x := by
            refine E.cancel (E.sub_ne h) ?_
            rw [ec_t1 E.rg p.x q.x p.y q.y s, hs, ec_t2 E.rg p.x q.x, hp, hq, ec_t3 E.rg]
          have hpy : p.y = q.y - s * (q.x - p.x) := by rw [hs, ec_t10 E.rg]
          have hss : s * s = q.x + p.x + q.x := by rw [ec_t6 E.rg p.x q.x s, ex]
          have t2 : s * (q.y + q.y) = q.x * q.x + q.x * q.x + q.x * q.x := by
            rw [ec_t4 E.rg p.x q.x q.y s, ← hpy, t1, hss, E.rg.ac q.x p.x, ec_t5 E.rg]
          have t3 : slDb inv (-q) = -s := by
            refine E.cancel (E.twice_ne (E.y0 hnq)) ?_
            rw [show slDb inv (-q) * ((-q).y + (-q).y) = _ from E.slope (E.twice_ne (E.y0 hnq))]
            show q.x * q.x + q.x * q.x + q.x * q.x = -s * (-q.y + -q.y)
            rw [ec_t9 E.rg, t2]
          have hx : (ecDb inv (-q)).x = p.x := by
            show slDb inv (-q) * slDb inv (-q) - q.x - q.x = p.x
            rw [t3, ec_nn E.rg, hss, E.rg.ac q.x p.x, ec_t7 E.rg]
          refine Pt.same hx ?_
          show slDb inv (-q) * (q.x - (ecDb inv (-q)).x) - -q.y = p.y
          rw [hx, t3, ec_t8 E.rg, ← hpy]
        · rw [add_ch (E.aff_ne hC) (E.aff_ne hnq) e]
          exact E.jp_eq (E.jp_ch (E.jp_ch (E.jp_one p) (E.jp_one q) h).1 (E.jp_neg (E.jp_one q)) e).1 (E.jp_one p) (ec_back_x E.rg _ _ _ _ (E.y2_of hp hq)) (ec_back_y E.rg _ _ _ _ (E.y2_of hp hq))
theorem right_cancel (E : EC inv b) {p q r : Pt K} (hp : OnC b p) (hq : OnC b q) (hr : OnC b r) (h : ecAdd inv p q = ecAdd inv r q) : p = r := by
  rw [← E.back hp hq, h, E.back hr hq]
theorem move (E : EC inv b) {p q r : Pt K} (hp : OnC b p) (hq : OnC b q) (h : ecAdd inv p q = r) : p = ecAdd inv r (-q) := by
  rw [← h, E.back hp hq]
theorem sum_zero (E : EC inv b) {p q : Pt K} (hp : OnC b p) (hq : OnC b q) (h : ecAdd inv p q = 0) : p = -q := by
  rw [E.move hp hq h, zero_add]
/-- y of a sum along a chord from its first point. -/
theorem ch_y (E : EC inv b) {p q : Pt K} {X2 Y2 Z2 : K} (k : Jp q X2 Y2 Z2) (hx : p.x ≠ q.x) :
    (ecCh inv p q).y * jZ p.x p.y 1 X2 Y2 Z2 = jR p.x p.y 1 X2 Y2 Z2 * (p.x - (ecCh inv p q).x) - p.y * jZ p.x p.y 1 X2 Y2 Z2 := by
  have hR := (E.jp_ch (E.jp_one p) k hx).2
  have := ec_j6 E.rg (slCh inv p q) p.x p.y (ecCh inv p q).x 0 (jZ p.x p.y 1 X2 Y2 Z2)
  rw [hR] at this
  exact this
theorem same_y (E : EC inv b) {p q r : Pt K} {X Y Z Z' R : K} (h : Jp p X Y Z) (hz : Z' ≠ 0) (hx : p.x = q.x) (hq : q.y * Z' = R * (r.x - q.x) - r.y * Z')
    (e : Y * Z' = Z * (R * (r.x * (Z * Z) - X) - r.y * Z' * (Z * Z))) : p = q := by
  refine Pt.same hx ?_
  obtain ⟨kz, rfl, rfl⟩ := h
  refine E.cancel hz (E.cancel (E.mul_ne (E.mul_ne kz kz) kz) ?_)
  rw [hq, ec_j7 E.rg, ec_j8 E.rg, e, hx]
/-- Three points of which neither two that are added meet or are upright of one another. -/
theorem assoc_cc (E : EC inv b) {p q r : Pt K} (hp : Aff b p) (hq : Aff b q) (hr : Aff b r) (h1 : p.x ≠ q.x) (h2 : q.x ≠ r.x) (h3 : (ecCh inv p q).x ≠ r.x) (h4 : p.x ≠ (ecCh inv q r).x) :
    ecCh inv (ecCh inv p q) r = ecCh inv p (ecCh inv q r) := by
  have y2 := E.y2_of hp hq
  have y3 := E.y2_of hp hr
  have jl := (E.jp_ch (E.jp_ch (E.jp_one p) (E.jp_one q) h1).1 (E.jp_one r) h3).1
  have jq := (E.jp_ch (E.jp_one q) (E.jp_one r) h2).1
  have jr := (E.jp_ch (E.jp_one p) jq h4).1
  have hy := E.ch_y jq h4
  have hz := jr.1
  rw [ec_AX E.rg _ _ _ _ _ _ y2 y3, ec_AY E.rg _ _ _ _ _ _ y2 y3, ec_AZ E.rg _ _ _ _ _ _ y2 y3] at jl
  rw [ec_BX E.rg _ _ _ _ _ _ y2 y3, ec_BZ E.rg _ _ _ _ _ _ y2 y3] at jr
  rw [ec_BZ E.rg _ _ _ _ _ _ y2 y3] at hy hz
  exact E.same_y jl hz (E.jp_x jl jr (ec_cc_x E.rg _ _ _ _ _ _ y2 y3)) hy (ec_cc_y E.rg _ _ _ _ _ _ y2 y3)
theorem assoc_tc (E : EC inv b) {p q : Pt K} (hp : Aff b p) (hq : Aff b q) (h1 : p.x ≠ q.x) (h3 : (ecDb inv p).x ≠ q.x) (h4 : p.x ≠ (ecCh inv p q).x) :
    ecCh inv (ecDb inv p) q = ecCh inv p (ecCh inv p q) :=
  E.jp_eq (E.jp_ch (E.jp_db (E.jp_one p) (E.y0 hp)) (E.jp_one q) h3).1 (E.jp_ch (E.jp_one p) (E.jp_ch (E.jp_one p) (E.jp_one q) h1).1 h4).1
    (ec_tc_x E.rg _ _ _ _ (E.y2_of hp hq)) (ec_tc_y E.rg _ _ _ _ (E.y2_of hp hq))
theorem assoc_ct (E : EC inv b) {p q : Pt K} (hp : Aff b p) (hq : Aff b q) (h1 : p.x ≠ q.x) (h2 : q.x ≠ (ecCh inv p q).x) (h4 : p.x ≠ (ecCh inv q (ecCh inv p q)).x) :
    ecDb inv (ecCh inv p q) = ecCh inv p (ecCh inv q (ecCh inv p q)) := by
  have y2 := E.y2_of hp hq
  have jc := (E.jp_ch (E.jp_one p) (E.jp_one q) h1).1
  rw [ec_CX E.rg _ _ _ _ y2, ec_CY E.rg _ _ _ _ y2, ec_CZ E.rg _ _ _ _ y2] at jc
  have jl := E.jp_db jc (E.y0 (E.on_ch hp hq h1))
  have jd := (E.jp_ch (E.jp_one q) jc h2).1
  rw [ec_DX E.rg _ _ _ _ y2, ec_DY E.rg _ _ _ _ y2, ec_DZ E.rg _ _ _ _ y2] at jd
  have jr := (E.jp_ch (E.jp_one p) jd h4).1
  have hy := E.ch_y jd h4
  have hz := jr.1
  rw [ec_GX E.rg _ _ _ _ y2, ec_GY E.rg _ _ _ _ y2, ec_GZ E.rg _ _ _ _ y2] at jl
  rw [ec_EX E.rg _ _ _ _ y2, ec_EZ E.rg _ _ _ _ y2] at jr
  rw [ec_EZ E.rg _ _ _ _ y2] at hy hz
  exact E.same_y jl hz (E.jp_x jl jr (ec_ct_x E.rg _ _ _ _ y2)) hy (ec_ct_y E.rg _ _ _ _ y2)
theorem assoc_tt (E : EC inv b) {p : Pt K} (hp : Aff b p) (h2 : p.x ≠ (ecDb inv p).x) (h4 : p.x ≠ (ecCh inv p (ecDb inv p)).x) :
    ecDb inv (ecDb inv p) = ecCh inv p (ecCh inv p (ecDb inv p)) :=
  E.jp_eq (E.jp_db (E.jp_db (E.jp_one p) (E.y0 hp)) (E.y0 (E.on_db hp))) (E.jp_ch (E.jp_one p) (E.jp_ch (E.jp_one p) (E.jp_db (E.jp_one p) (E.y0 hp)) h2).1 h4).1
    (ec_tt_x E.rg _ _) (ec_tt_y E.rg _ _)
/-- p + q = r, where p is none of nought, q and -q: sums that are q + (p + q). -/
theorem assoc_mid (E : EC inv b) {p q : Pt K} (hp : Aff b p) (hq : Aff b q) (hs : Aff b (ecAdd inv p q))
    (ht : Aff b (ecAdd inv q (ecAdd inv p q))) (hne : p ≠ ecAdd inv q (ecAdd inv p q)) (hne' : p ≠ -ecAdd inv q (ecAdd inv p q)) :
    ecAdd inv (ecAdd inv p q) (ecAdd inv p q) = ecAdd inv p (ecAdd inv q (ecAdd inv p q)) := by
  have hon : OnC b p := .inr hp
  have hoq : OnC b q := .inr hq
  have hos : OnC b (ecAdd inv p q) := .inr hs
  have h4 : p.x ≠ (ecAdd inv q (ecAdd inv p q)).x := by
    rcases E.ways hp ht with e | e | e
    · exact absurd e hne
    · exact absurd e hne'
    · exact e
  -- q is not p + q, as p is not nought; nor is it the negative, where the sum would be nought
  have h2 : q.x ≠ (ecAdd inv p q).x := by
    rcases E.ways hq hs with e | e | e
    · have : ecAdd inv p q = ecAdd inv 0 q := by rw [zero_add]; exact e.symm
      exact absurd (E.right_cancel hon hoq (.inl rfl) this) (E.aff_ne hp)
    · have : ecAdd inv q (ecAdd inv p q) = 0 := by
        conv => lhs; lhs; rw [e]
        exact E.neg_add_self hos
      exact absurd this (E.aff_ne ht)
    · exact e
  rcases E.ways hp hq with rfl | rfl | h1
  · rw [add_db (E.aff_ne hp)] at *
    rw [add_db (E.aff_ne hs), add_ch (E.aff_ne hp) (E.aff_ne ht) h4]
    rw [add_ch (E.aff_ne hp) (E.aff_ne hs) h2] at h4 ⊢
    exact E.assoc_tt hp h2 h4
  · rw [E.neg_add_self hoq] at hs
    exact absurd rfl (E.aff_ne hs)
  · rw [add_ch (E.aff_ne hp) (E.aff_ne hq) h1] at *
    rw [add_db (E.aff_ne hs), add_ch (E.aff_ne hp) (E.aff_ne ht) h4]
    rw [add_ch (E.aff_ne hq) (E.aff_ne hs) h2] at h4 ⊢
    exact E.assoc_ct hp hq h1 h2 h4
theorem assoc (E : EC inv b) {p q r : Pt K} (hp : OnC b p) (hq : OnC b q) (hr : OnC b r) : ecAdd inv (ecAdd inv p q) r = ecAdd inv p (ecAdd inv q r) := by
  have hpq := E.on_add hp hq
  have hqr := E.on_add hq hr
  rcases Classical.em (p = 0) with rfl | p0
  · rw [zero_add, zero_add]
  rcases Classical.em (q = 0) with rfl | q0
  · rw [zero_add, add_zero]
  rcases Classical.em (r = 0) with rfl | r0
  · rw [add_zero, add_zero]
  have ap := hp.resolve_left p0
  have aq := hq.resolve_left q0
  have ar := hr.resolve_left r0
  -- p + q = 0
  rcases Classical.em (ecAdd inv p q = 0) with e | hpq0
  · rw [e, zero_add]
    obtain rfl := E.sum_zero hp hq e
    have := E.back hr hq
    rw [E.add_comm hr hq] at this
    rw [E.add_comm (E.on_neg hq) hqr]
    exact this.symm
  rcases Classical.em (ecAdd inv q r = 0) with e | hqr0
  · rw [e, add_zero]
    have : r = -q := E.sum_zero hr hq (by rw [E.add_comm hr hq]; exact e)
    rw [this]
    exact E.back hp hq
  have apq := hpq.resolve_left hpq0
  have aqr := hqr.resolve_left hqr0
  -- (p + q) + r = 0
  rcases Classical.em (ecAdd inv p q = -r) with e | hl0
  · rw [e, E.neg_add_self hr]
    have h1 : p = -ecAdd inv q r := by
      have h2 := E.move hp hq e
      rw [h2, E.neg_sum hq hr, E.add_comm (E.on_neg hr) (E.on_neg hq)]
    rw [h1, E.neg_add_self hqr]
  rcases Classical.em (p = -ecAdd inv q r) with e | hr0
  · exfalso
    apply hl0
    have h2 : ecAdd inv p q = ecAdd inv (-r) 0 := by
      rw [add_zero, e, E.neg_sum hq hr, E.add_comm (E.on_neg hq) (E.on_neg hr)]
      have := E.back (E.on_neg hr) (E.on_neg hq)
      rwa [E.neg_neg] at this
    rw [h2, add_zero]
  -- the outer ends alike
  rcases Classical.em (p = r) with rfl | hprn
  · rw [E.add_comm hpq hp, E.add_comm hp hq]
  -- p + q meets r
  rcases Classical.em (ecAdd inv p q = r) with rfl | hlr
  · rcases Classical.em (p = ecAdd inv q (ecAdd inv p q)) with e | hne
    · exfalso
      have h1 : ecAdd inv p (-q) = ecAdd inv p q := by
        have := E.move hpq hq (r := p) (by rw [E.add_comm hpq hq]; exact e.symm)
        exact this.symm
      have h2 : -q = q := by
        refine E.right_cancel (E.on_neg hq) hp hq ?_
        rw [E.add_comm (E.on_neg hq) hp, h1, E.add_comm hp hq]
      exact E.ne_neg (E.y0 aq) (congrArg Pt.y h2).symm
    · exact E.assoc_mid ap aq apq aqr hne hr0
  rcases Classical.em (p = ecAdd inv q r) with e | hrp
  · -- the same from the other end
    have hrq : ecAdd inv r q = p := by rw [E.add_comm hr hq]; exact e.symm
    have hqp : ecAdd inv q (ecAdd inv r q) = ecAdd inv p q := by rw [hrq, E.add_comm hq hp]
    have key := E.assoc_mid (p := r) (q := q) ar aq (by rw [hrq]; exact ap) (by rw [hqp]; exact apq) (by rw [hqp]; exact fun x => hlr x.symm)
      (by rw [hqp]; intro x; apply hl0; rw [x, E.neg_neg])
    rw [hqp, hrq] at key
    rw [← e, key, E.add_comm hr hpq]
  -- all four are chords or the inner ones tangents
  have h3 : (ecAdd inv p q).x ≠ r.x := by
    rcases E.ways apq ar with x | x | x
    · exact absurd x hlr
    · exact absurd x hl0
    · exact x
  have h4 : p.x ≠ (ecAdd inv q r).x := by
    rcases E.ways ap aqr with x | x | x
    · exact absurd x hrp
    · exact absurd x hr0
    · exact x
  rw [add_ch hpq0 r0 h3, add_ch p0 hqr0 h4]
  rcases E.ways ap aq with rfl | rfl | h1
  · rcases E.ways aq ar with rfl | rfl | h2
    · exact absurd rfl hprn
    · exact absurd (E.neg_add_self hr) hqr0
    · rw [add_db p0, add_ch p0 r0 h2] at *
      exact E.assoc_tc ap ar h2 h3 h4
  · exact absurd (E.neg_add_self hq) hpq0
  · rcases E.ways aq ar with rfl | rfl | h2
    · rw [add_db q0, add_ch p0 q0 h1] at *
      have h1' : q.x ≠ p.x := Ne.symm h1
      have := E.assoc_tc aq ap h1' (Ne.symm h4) (by rw [← E.ch_comm h1]; exact Ne.symm h3)
      rw [E.ch_comm h3, E.ch_comm h1, ← this, E.ch_comm h4]
    · exact absurd (E.neg_add_self hr) hqr0
    · rw [add_ch p0 q0 h1, add_ch q0 r0 h2] at *
      exact E.assoc_cc ap aq ar h1 h2 h3 h4
end EC
end
end Go.Proofs.YtialfoccalobpaaDoor
