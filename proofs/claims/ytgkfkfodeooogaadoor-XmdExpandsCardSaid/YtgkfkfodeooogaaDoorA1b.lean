/-
  FpS, FpBased, FpR, FpQ, in one text.
-/
import Derived.Test.YtgkfkfodeooogaaDoorA1
import Derived.Test.YtgkfkfodeooogaaDoorA0
/-! ## FpS -/
namespace Go.Proofs.YtgkfkfodeooogaaDoor
open Go.RowKit
theorem pv_same (x y : Int) (h : x % Mp = y % Mp) (w : World) : (Op.equalIn 9999 55 (.agg #[.int .u64 (wd (fe Mp (Wd ^ 6) x) 0), .int .u64 (wd (fe Mp (Wd ^ 6) x) 1), .int .u64 (wd (fe Mp (Wd ^ 6) x) 2), .int .u64 (wd (fe Mp (Wd ^ 6) x) 3), .int .u64 (wd (fe Mp (Wd ^ 6) x) 4), .int .u64 (wd (fe Mp (Wd ^ 6) x) 5)]) (.agg #[.int .u64 (wd (fe Mp (Wd ^ 6) y) 0), .int .u64 (wd (fe Mp (Wd ^ 6) y) 1), .int .u64 (wd (fe Mp (Wd ^ 6) y) 2), .int .u64 (wd (fe Mp (Wd ^ 6) y) 3), .int .u64 (wd (fe Mp (Wd ^ 6) y) 4), .int .u64 (wd (fe Mp (Wd ^ 6) y) 5)])).run Tryd.prog w = .ok true w := by
  have e := pv_eq x y w
  rw [decide_eq_true h] at e
  exact e
theorem pv_unlike (x y : Int) (h : ¬ x % Mp = y % Mp) (w : World) : (Op.equalIn 9999 55 (.agg #[.int .u64 (wd (fe Mp (Wd ^ 6) x) 0), .int .u64 (wd (fe Mp (Wd ^ 6) x) 1), .int .u64 (wd (fe Mp (Wd ^ 6) x) 2), .int .u64 (wd (fe Mp (Wd ^ 6) x) 3), .int .u64 (wd (fe Mp (Wd ^ 6) x) 4), .int .u64 (wd (fe Mp (Wd ^ 6) x) 5)]) (.agg #[.int .u64 (wd (fe Mp (Wd ^ 6) y) 0), .int .u64 (wd (fe Mp (Wd ^ 6) y) 1), .int .u64 (wd (fe Mp (Wd ^ 6) y) 2), .int .u64 (wd (fe Mp (Wd ^ 6) y) 3), .int .u64 (wd (fe Mp (Wd ^ 6) y) 4), .int .u64 (wd (fe Mp (Wd ^ 6) y) 5)])).run Tryd.prog w = .ok false w := by
  have e := pv_eq x y w
  rw [decide_eq_false h] at e
  exact e
theorem pv_nought (x : Int) (h : ¬ x % Mp = 0) (w : World) : (Op.equalIn 9999 55 (.agg #[.int .u64 (wd (fe Mp (Wd ^ 6) x) 0), .int .u64 (wd (fe Mp (Wd ^ 6) x) 1), .int .u64 (wd (fe Mp (Wd ^ 6) x) 2), .int .u64 (wd (fe Mp (Wd ^ 6) x) 3), .int .u64 (wd (fe Mp (Wd ^ 6) x) 4), .int .u64 (wd (fe Mp (Wd ^ 6) x) 5)]) (.agg #[.int .u64 0, .int .u64 0, .int .u64 0, .int .u64 0, .int .u64 0, .int .u64 0])).run Tryd.prog w = .ok false w := by
  have e := pv_eq x 0 w
  rw [decide_eq_false (by simpa using h)] at e
  unfold pv at e
  rw [pe_zero] at e
  exact e
theorem pv_isNought (x : Int) (h : x % Mp = 0) (w : World) : (Op.equalIn 9999 55 (.agg #[.int .u64 (wd (fe Mp (Wd ^ 6) x) 0), .int .u64 (wd (fe Mp (Wd ^ 6) x) 1), .int .u64 (wd (fe Mp (Wd ^ 6) x) 2), .int .u64 (wd (fe Mp (Wd ^ 6) x) 3), .int .u64 (wd (fe Mp (Wd ^ 6) x) 4), .int .u64 (wd (fe Mp (Wd ^ 6) x) 5)]) (.agg #[.int .u64 0, .int .u64 0, .int .u64 0, .int .u64 0, .int .u64 0, .int .u64 0])).run Tryd.prog w = .ok true w := by
  have e := pv_eq x 0 w
  rw [decide_eq_true (by simpa using h)] at e
  unfold pv at e
  rw [pe_zero] at e
  exact e
theorem invp_ok (x : Int) (hx : x % Mp ≠ 0) : x * x ^ Ep % Mp = 1 % Mp := by
  have h := little_int pr_p x hx
  have e : x * x ^ Ep = x ^ (Ep + 1) := by rw [Int.pow_succ, Int.mul_comm]
  rw [e]
  have e2 : Ep + 1 = 4002409555221667393417789825735904156556882819939007885332058136124031650490837864442687629129015664037894272559787 - 1 := by simp [Ep]
  rw [e2]
  exact h.trans (by decide)
theorem invp_unit (x : Int) (hx : x % Mp ≠ 0) : x ^ Ep % Mp ≠ 0 := by
  intro h
  have h1 := invp_ok x hx
  rw [← mem', h, Int.mul_zero, Int.zero_emod] at h1
  exact absurd h1 (by decide)
theorem invp_inv (x : Int) (hx : x % Mp ≠ 0) : (x ^ Ep) ^ Ep % Mp = x % Mp := by
  have h1 := invp_ok x hx
  have h2 := invp_ok (x ^ Ep) (invp_unit x hx)
  generalize (x ^ Ep) ^ Ep = b at *
  generalize x ^ Ep = a at *
  have h3 : x * (a * b) % Mp = x % Mp := by rw [← mem', h2, mem', Int.mul_one]
  rw [← Int.mul_assoc, ← emm, h1, emm, Int.one_mul] at h3
  exact h3
/-- (p + 1) / 4, and (p + 1) / 2. -/
def Qp : Nat := 1000602388805416848354447456433976039139220704984751971333014534031007912622709466110671907282253916009473568139947
def Up : Int := 2001204777610833696708894912867952078278441409969503942666029068062015825245418932221343814564507832018947136279894
end Go.Proofs.YtgkfkfodeooogaaDoor

/-! ## FpBased -/
namespace Go.Proofs.YtgkfkfodeooogaaDoor
open Go.RowKit
theorem pv_zero : arr6 0 = pv 0 := by unfold pv; rw [pe_zero]
theorem qp_four : 4 * Qp = Ep + 3 := by decide +kernel
theorem four_root : (4 : Int) ^ Qp * 4 ^ Qp % Mp = 4 % Mp := by
  have h := invp_ok 2 (by decide)
  have e : (4 : Int) ^ Qp * 4 ^ Qp = 2 * 2 ^ Ep * 4 := by
    rw [show (4 : Int) = 2 ^ 2 from rfl, ← Int.pow_mul, ← Int.pow_add, show 2 * Qp + 2 * Qp = (Ep + 1) + 2 by have := qp_four; omega]
    rw [Int.pow_add, Int.pow_succ 2 Ep, Int.mul_comm (2 ^ Ep) 2]
  rw [e, ← emm, h, emm, Int.one_mul]
theorem minus_root : ¬ (-1 : Int) ^ Qp * (-1) ^ Qp % Mp = -1 % Mp := by
  rw [← Int.mul_pow, show (-1 : Int) * -1 = 1 from rfl, Int.one_pow]
  decide
end Go.Proofs.YtgkfkfodeooogaaDoor

/-! ## FpR -/
namespace Go.Proofs.YtgkfkfodeooogaaDoor
open Go.RowKit
theorem num_six (bs : List Int) (h : bs.length = 48) : num ((bs.drop 40).take 8) + Wd * (num ((bs.drop 32).take 8) + Wd * (num ((bs.drop 24).take 8) + Wd * (num ((bs.drop 16).take 8) + Wd * (num ((bs.drop 8).take 8) + Wd * num ((bs.drop 0).take 8))))) = num bs := by
  have hw : (256 : Int) ^ 8 = Wd := by simp [Wd]
  have p : ∀ k, bs.drop k = (bs.drop k).take 8 ++ bs.drop (k + 8) := fun k => by rw [← List.drop_drop, List.take_append_drop]
  have f5 : num (bs.drop 40) = num ((bs.drop 40).take 8) := congrArg num (List.take_of_length_le (by simp; omega)).symm
  have f4 : num (bs.drop 32) = num ((bs.drop 32).take 8) * Wd + num (bs.drop 40) := by
    have := congrArg num (p 32)
    rw [num_app] at this
    rw [this, show (bs.drop (32 + 8)).length = 8 by simp; omega, hw]
  have f3 : num (bs.drop 24) = num ((bs.drop 24).take 8) * Wd ^ 2 + num (bs.drop 32) := by
    have := congrArg num (p 24)
    rw [num_app] at this
    rw [this, show (bs.drop (24 + 8)).length = 8 * 2 by simp; omega, Int.pow_mul, hw]
  have f2 : num (bs.drop 16) = num ((bs.drop 16).take 8) * Wd ^ 3 + num (bs.drop 24) := by
    have := congrArg num (p 16)
    rw [num_app] at this
    rw [this, show (bs.drop (16 + 8)).length = 8 * 3 by simp; omega, Int.pow_mul, hw]
  have f1 : num (bs.drop 8) = num ((bs.drop 8).take 8) * Wd ^ 4 + num (bs.drop 16) := by
    have := congrArg num (p 8)
    rw [num_app] at this
    rw [this, show (bs.drop (8 + 8)).length = 8 * 4 by simp; omega, Int.pow_mul, hw]
  have f0 : num (bs.drop 0) = num ((bs.drop 0).take 8) * Wd ^ 5 + num (bs.drop 8) := by
    have := congrArg num (p 0)
    rw [num_app] at this
    rw [this, show (bs.drop (0 + 8)).length = 8 * 5 by simp; omega, Int.pow_mul, hw]
  rw [show num bs = num (bs.drop 0) from rfl, f0, f1, f2, f3, f4, f5]
  grind
end Go.Proofs.YtgkfkfodeooogaaDoor

/-! ## FpQ -/
namespace Go.Proofs.YtgkfkfodeooogaaDoor
open Go.RowKit
def Hp : Nat := 2001204777610833696708894912867952078278441409969503942666029068062015825245418932221343814564507832018947136279893
theorem hp_two : 2 * Hp = Ep + 1 := by decide +kernel
theorem qp_two : 2 * Qp = Hp + 1 := by decide +kernel
def Hh : Nat := 1000602388805416848354447456433976039139220704984751971333014534031007912622709466110671907282253916009473568139946
theorem hp_odd : Hp = 2 * Hh + 1 := by decide +kernel
theorem emod_sub_iff {a b : Int} : a % Mp = b % Mp ↔ (a - b) % Mp = 0 := Int.emod_eq_emod_iff_emod_sub_eq_zero
theorem prime_int {a b : Int} (h : a * b % Mp = 0) : a % Mp = 0 ∨ b % Mp = 0 := by
  by_cases ha : a % Mp = 0
  · exact .inl ha
  · right
    have h1 := invp_ok a ha
    generalize a ^ Ep = c at h1
    have h2 : a * c * b % Mp = b % Mp := by rw [← emm, h1, emm, Int.one_mul]
    have e : a * c * b = c * (a * b) := by grind
    rw [e, ← mem', h, Int.mul_zero, Int.zero_emod] at h2
    exact h2.symm
theorem pow_ep (x : Int) (hx : x % Mp ≠ 0) : x ^ (Ep + 1) % Mp = 1 % Mp := by
  rw [Int.pow_succ, Int.mul_comm]
  exact invp_ok x hx
theorem euler (x : Int) (hx : x % Mp ≠ 0) : x ^ Hp % Mp = 1 % Mp ∨ x ^ Hp % Mp = -1 % Mp := by
  have h1 := pow_ep x hx
  rw [← hp_two, Nat.two_mul, Int.pow_add] at h1
  generalize x ^ Hp = a at *
  have e : (a - 1) * (a + 1) = a * a - 1 := by grind
  have h : (a - 1) * (a + 1) % Mp = 0 := by rw [e]; exact emod_sub_iff.1 h1
  rcases prime_int h with h | h
  · exact .inl (emod_sub_iff.2 h)
  · right
    exact emod_sub_iff.2 (by rw [show a - -1 = a + 1 by omega]; exact h)
theorem root_pow (x : Int) : x ^ Qp * x ^ Qp = x ^ Hp * x := by rw [← Int.pow_add, ← Nat.two_mul, qp_two, Int.pow_succ]
theorem sq_iff (x : Int) (hx : x % Mp ≠ 0) : x ^ Qp * x ^ Qp % Mp = x % Mp ↔ x ^ Hp % Mp = 1 % Mp := by
  rw [root_pow]
  generalize x ^ Hp = a
  constructor
  · intro h
    have h1 : (a - 1) * x % Mp = 0 := by rw [Int.sub_mul, Int.one_mul]; exact emod_sub_iff.1 h
    rcases prime_int h1 with h2 | h2
    · exact emod_sub_iff.2 h2
    · exact absurd h2 hx
  · intro h; rw [← emm, h, emm, Int.one_mul]
theorem zero_root (x : Int) (hx : x % Mp = 0) : x ^ Qp * x ^ Qp % Mp = x % Mp := by
  rw [root_pow, ← mem', hx, Int.mul_zero, Int.zero_emod]
theorem mul_unit {x y : Int} (hx : x % Mp ≠ 0) (hy : y % Mp ≠ 0) : x * y % Mp ≠ 0 := fun h => by
  rcases prime_int h with h | h
  · exact hx h
  · exact hy h
theorem mul_sq (x y : Int) (hx : x % Mp ≠ 0) (hy : y % Mp ≠ 0) : (x * y) ^ Qp * (x * y) ^ Qp % Mp = x * y % Mp ↔ (x ^ Qp * x ^ Qp % Mp = x % Mp ↔ y ^ Qp * y ^ Qp % Mp = y % Mp) := by
  rw [sq_iff _ (mul_unit hx hy), sq_iff x hx, sq_iff y hy, Int.mul_pow, Int.mul_emod]
  have h1 := euler x hx
  have h2 := euler y hy
  generalize x ^ Hp % Mp = a at *
  generalize y ^ Hp % Mp = b at *
  rcases h1 with rfl | rfl <;> rcases h2 with rfl | rfl <;> decide
theorem neg_unit {x : Int} (hx : x % Mp ≠ 0) : -x % Mp ≠ 0 := fun h => hx (by
  have := Int.dvd_of_emod_eq_zero h
  exact Int.emod_eq_zero_of_dvd (Int.dvd_neg.1 this))
theorem neg_pow_hp (x : Int) : (-x) ^ Hp = -1 * x ^ Hp := by
  rw [show -x = -1 * x by omega, Int.mul_pow, hp_odd, Int.pow_succ (-1), Int.pow_mul, show (-1 : Int) ^ 2 = 1 from rfl, Int.one_pow, Int.one_mul]
theorem neg_sq (x : Int) (hx : x % Mp ≠ 0) : (-x) ^ Qp * (-x) ^ Qp % Mp = -x % Mp ↔ ¬ x ^ Qp * x ^ Qp % Mp = x % Mp := by
  rw [sq_iff _ (neg_unit hx), sq_iff x hx, neg_pow_hp, ← mem']
  have h1 := euler x hx
  generalize x ^ Hp % Mp = a at *
  rcases h1 with rfl | rfl <;> decide
theorem root_square (x : Int) : (x * x) ^ Qp % Mp = x % Mp ∨ (x * x) ^ Qp % Mp = -x % Mp := by
  rw [Int.mul_pow, root_pow]
  by_cases hx : x % Mp = 0
  · left; rw [← mem', hx, Int.mul_zero, Int.zero_emod]
  · have h1 := euler x hx
    generalize x ^ Hp = a at *
    rcases h1 with h | h
    · left; rw [← emm, h, emm, Int.one_mul]
    · right; rw [← emm, h, emm, Int.neg_mul, Int.one_mul]
theorem square_sq (x : Int) : (x * x) ^ Qp * (x * x) ^ Qp % Mp = x * x % Mp := by
  have h := root_square x
  generalize (x * x) ^ Qp = R at *
  rcases h with h | h
  · rw [Int.mul_emod, h, ← Int.mul_emod]
  · rw [Int.mul_emod, h, ← Int.mul_emod, Int.neg_mul_neg]
theorem neg_mod (x : Int) (hx : x % Mp ≠ 0) : -x % Mp = Mp - x % Mp ∧ 0 < x % Mp ∧ x % Mp < Mp := by
  have h0 := Int.emod_nonneg x (by simp [Mp] : Mp ≠ 0)
  have h1 := Int.emod_lt_of_pos x (by simp [Mp] : 0 < Mp)
  have h2 := Int.emod_add_mul_ediv x Mp
  refine ⟨?_, by omega, h1⟩
  have e : -x % Mp = (Mp - x % Mp) % Mp := emod_sub_iff.2 (Int.emod_eq_zero_of_dvd ⟨-(x / Mp) - 1, by grind⟩)
  rw [e, Int.emod_eq_of_lt (by omega) (by omega)]
theorem odd_neg (x : Int) (hx : x % Mp ≠ 0) : -x % Mp % 2 = 1 ↔ ¬ x % Mp % 2 = 1 := by
  have h := neg_mod x hx
  rw [h.1]
  unfold Mp at *
  omega
theorem large_neg (x : Int) (hx : x % Mp ≠ 0) : Up ≤ -x % Mp ↔ x % Mp < Up := by
  have h := neg_mod x hx
  rw [h.1]
  unfold Mp Up at *
  omega
end Go.Proofs.YtgkfkfodeooogaaDoor
