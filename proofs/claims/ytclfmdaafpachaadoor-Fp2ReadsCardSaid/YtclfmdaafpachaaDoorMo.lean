/-
  Montgomery's form and words, as plain numbers: no program stands here.
-/
import Init
namespace Go.Proofs.YtclfmdaafpachaaDoor
theorem dvd_sub_of_emod {M a b : Int} (h : a % M = b % M) : M ∣ a - b := Int.dvd_of_emod_eq_zero (Int.emod_eq_emod_iff_emod_sub_eq_zero.1 h)
theorem emod_of_dvd_sub {M a b : Int} (h : M ∣ a - b) : a % M = b % M := Int.emod_eq_emod_iff_emod_sub_eq_zero.2 (Int.emod_eq_zero_of_dvd h)
theorem mont_fin (M R Ri a b z : Int) (hR : R * Ri % M = 1) (h0 : 0 ≤ z) (hz : z < M) (h : M ∣ z * R - a * b) : z = a * b * Ri % M := by
  have e : z * R * Ri % M = a * b * Ri % M := emod_of_dvd_sub (by rw [← Int.sub_mul]; exact Int.dvd_mul_of_dvd_left h)
  rw [← e, Int.mul_assoc, Int.mul_emod, hR, Int.mul_one, Int.emod_emod, Int.emod_eq_of_lt h0 hz]
/-- One step: a word v of x, the sum s, t times the modulus. -/
theorem mont_bound (M W s v b t s' : Int) (hW : 0 < W) (hs : 0 ≤ s) (hs2 : s < 2 * M) (hv : 0 ≤ v) (hvW : v < W) (hb : 0 ≤ b) (hbM : b < M) (ht : 0 ≤ t) (htW : t < W) (he : s' * W = s + v * b + t * M) : 0 ≤ s' ∧ s' < 2 * M := by
  have h1 : 0 ≤ v * b := Int.mul_nonneg hv hb
  have h2 : 0 ≤ t * M := Int.mul_nonneg ht (by omega)
  have h3 : v * b ≤ (W - 1) * (M - 1) := Int.mul_le_mul (by omega) (by omega) hb (by omega)
  have h4 : t * M ≤ (W - 1) * M := Int.mul_le_mul_of_nonneg_right (by omega) (by omega)
  have e3 : (W - 1) * (M - 1) = W * M - W - M + 1 := by grind
  have e4 : (W - 1) * M = W * M - M := by grind
  constructor
  · rcases Int.lt_or_le s' 0 with h | h
    · have : s' * W ≤ -1 * W := Int.mul_le_mul_of_nonneg_right (by omega) (by omega)
      omega
    · exact h
  · rcases Int.lt_or_le s' (2 * M) with h | h
    · exact h
    · have : 2 * M * W ≤ s' * W := Int.mul_le_mul_of_nonneg_right h (by omega)
      have e5 : 2 * M * W = 2 * (W * M) := by grind
      omega
theorem emm (a b M : Int) : a % M * b % M = a * b % M := by rw [Int.mul_emod, Int.emod_emod, ← Int.mul_emod]
theorem mem' (a b M : Int) : a * (b % M) % M = a * b % M := by rw [Int.mul_emod, Int.emod_emod, ← Int.mul_emod]
/-- A number times R, below the modulus. -/
def fe (M R x : Int) : Int := x * R % M
section
variable {M R Ri : Int}
theorem fe_lo (hM : 0 < M) (x : Int) : 0 ≤ fe M R x ∧ fe M R x < M := ⟨Int.emod_nonneg _ (by omega), Int.emod_lt_of_pos _ hM⟩
theorem fe_add (x y : Int) : (fe M R x + fe M R y) % M = fe M R (x + y) := by unfold fe; rw [← Int.add_emod, Int.add_mul]
theorem fe_sub (x y : Int) : (fe M R x - fe M R y) % M = fe M R (x - y) := by unfold fe; rw [← Int.sub_emod, Int.sub_mul]
theorem fe_plain (hR : R * Ri % M = 1) (x : Int) : fe M R x * Ri % M = x % M := by
  unfold fe
  rw [emm, Int.mul_assoc, Int.mul_emod, hR, Int.mul_one, Int.emod_emod]
theorem fe_mul (hR : R * Ri % M = 1) (x y : Int) : fe M R x * fe M R y * Ri % M = fe M R (x * y) := by
  rw [Int.mul_assoc, ← mem', fe_plain hR, mem']
  unfold fe
  rw [emm]
  congr 1
  grind
theorem fe_of (hR : R * Ri % M = 1) (a : Int) : a * fe M R R * Ri % M = fe M R a := by
  rw [Int.mul_assoc, ← mem', fe_plain hR, mem']
  rfl
theorem fe_inj (hR : R * Ri % M = 1) {x y : Int} : fe M R x = fe M R y ↔ x % M = y % M := by
  constructor
  · intro h
    rw [← fe_plain hR x, ← fe_plain hR y, h]
  · intro h
    unfold fe
    rw [Int.mul_emod, h, ← Int.mul_emod]
theorem fe_onto (hR : R * Ri % M = 1) {a : Int} (h0 : 0 ≤ a) (h1 : a < M) : fe M R (a * Ri) = a := by
  unfold fe
  rw [Int.mul_assoc, Int.mul_emod, Int.mul_comm Ri R, hR, Int.mul_one, Int.emod_emod, Int.emod_eq_of_lt h0 h1]
theorem fe_shift (hR : R * Ri % M = 1) (t w : Int) : t * fe M R w * Ri % M = t * w % M := by
  rw [Int.mul_assoc, ← mem', fe_plain hR, mem']
end
def Wd : Int := 18446744073709551616
/-- The i-th word. -/
def wd (x : Int) : Nat → Int
  | 0 => x % Wd
  | i + 1 => wd (x / Wd) i
theorem wd_lo (x : Int) (i : Nat) : 0 ≤ wd x i ∧ wd x i < Wd := by
  induction i generalizing x with
  | zero => simp only [wd, Wd]; omega
  | succ i ih => exact ih _
/-- The number of a list of words. -/
def nu : List Int → Int
  | [] => 0
  | d :: t => d + Wd * nu t
def wds (x : Int) : Nat → List Int
  | 0 => []
  | n + 1 => x % Wd :: wds (x / Wd) n
theorem wds_nu (l : List Int) (h : ∀ d ∈ l, 0 ≤ d ∧ d < Wd) : wds (nu l) l.length = l := by
  induction l with
  | nil => rfl
  | cons d t ih =>
    have hd := h d (by simp)
    have e1 : (d + Wd * nu t) % Wd = d := by rw [Int.add_mul_emod_self_left]; exact Int.emod_eq_of_lt hd.1 hd.2
    have e2 : (d + Wd * nu t) / Wd = nu t := by
      rw [Int.add_mul_ediv_left _ _ (by simp [Wd]), Int.ediv_eq_zero_of_lt hd.1 hd.2, Int.zero_add]
    simp only [nu, List.length_cons, wds, e1, e2]
    rw [ih fun x hx => h x (by simp [hx])]
theorem nu_wds (n : Nat) : ∀ x, nu (wds x n) = x % Wd ^ n := by
  induction n with
  | zero => intro x; simp [wds, nu, Int.emod_one]
  | succ n ih =>
    intro x
    rw [wds, nu, ih, Int.pow_succ]
    have hp : 0 < Wd ^ n := Int.pow_pos (by simp [Wd])
    generalize Wd ^ n = P at hp
    have hW : (0 : Int) < Wd := by simp [Wd]
    have h1 := Int.emod_nonneg x (by omega : Wd ≠ 0)
    have h2 := Int.emod_lt_of_pos x hW
    have h3 := Int.emod_nonneg (x / Wd) (by omega : P ≠ 0)
    have h4 := Int.emod_lt_of_pos (x / Wd) hp
    have h5 : Wd * (x / Wd % P) ≤ Wd * (P - 1) := Int.mul_le_mul_of_nonneg_left (by omega) (by omega)
    have h6 : 0 ≤ Wd * (x / Wd % P) := Int.mul_nonneg (by omega) h3
    have h7 : Wd * (P - 1) = P * Wd - Wd := by grind
    have h8 : x % Wd + Wd * (x / Wd % P) = (x % Wd + Wd * (x / Wd % P)) % (P * Wd) := (Int.emod_eq_of_lt (by omega) (by omega)).symm
    rw [h8]
    refine Int.emod_eq_emod_iff_emod_sub_eq_zero.2 (Int.emod_eq_zero_of_dvd ⟨-(x / Wd / P), ?_⟩)
    have e1 := Int.emod_add_mul_ediv x Wd
    have e2 := Int.emod_add_mul_ediv (x / Wd) P
    grind
theorem wds_lo (n : Nat) : ∀ x, ∀ d ∈ wds x n, 0 ≤ d ∧ d < Wd := by
  induction n with
  | zero => intro x d hd; simp [wds] at hd
  | succ n ih =>
    intro x d hd
    simp only [wds, List.mem_cons] at hd
    rcases hd with rfl | hd
    · exact wd_lo x 0
    · exact ih _ d hd
end Go.Proofs.YtclfmdaafpachaaDoor
