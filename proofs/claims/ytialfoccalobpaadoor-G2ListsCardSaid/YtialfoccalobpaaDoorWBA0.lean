/-
  Pr, Mo, Mem, MemB, Word, FrA, FrB, FrC, FrD, Eqn, FrE, FrM, FrF, FrG, FrH, FrI, FrJ, FrK, FrL, Copy, FrBased, FrR, in one text.
-/
import Init
import Derived.WalkKit
import Derived.WalkSpells
import Derived.WalkLawsBesides
import Derived.Below
import Derived.Laws.OwnMore
import Derived.Deep.AppendLies
import Derived.Deep.Draws
import Derived.Laws.Rows
import Derived.Lib.Hide
import Derived.Deep.QuietTactic
import Derived.BigQuiet
import Derived.Deep.OwnRows
import Derived.Laws.CopyOwn
import Derived.Deep.RegionLaw
import Derived.Deep.RegionHeld3
import Derived.StillTailTactics
import Derived.BigRegion
import Derived.Laws.BitsAllLaws
import Derived.Deep.DeepFit
import Derived.Maps.RangeWalk
import Derived.Lib.SlBytesConst
import Derived.IntWalk
import Derived.Deep.RegionWith
import Derived.Maps.AppendAt
import Derived.Test.YtialfoccalobpaaDoorProg
import Derived.Laws.Externs
import Derived.Laws.MathBits
import Derived.Shelf.Bits.Mul64
import Derived.Shelf.Spec.BitsCarry
import Derived.LoopN
import Derived.Deep.Cut
import Derived.Deep.CutRange
/-! ## Pr -/
namespace Go.Proofs.YtialfoccalobpaaDoor
/-- A prime. -/
def Pr (p : Nat) : Prop := 2 ≤ p ∧ ∀ d, d ∣ p → d = 1 ∨ d = p
theorem Pr.cop {p a : Nat} (h : Pr p) (ha : ¬ p ∣ a) : Nat.Coprime p a := by
  rcases h.2 _ (Nat.gcd_dvd_left p a) with e | e
  · exact e
  · exact absurd (e ▸ Nat.gcd_dvd_right p a) ha
theorem Pr.dvd_mul {p a b : Nat} (h : Pr p) (hd : p ∣ a * b) : p ∣ a ∨ p ∣ b := by
  by_cases ha : p ∣ a
  · exact .inl ha
  · exact .inr ((h.cop ha).dvd_of_dvd_mul_left hd)
def bch : Nat → Nat → Nat
  | _, 0 => 1
  | 0, _ + 1 => 0
  | n + 1, k + 1 => bch n k + bch n (k + 1)
theorem bch_big (n : Nat) : ∀ k, n < k → bch n k = 0 := by
  induction n with
  | zero => intro k h; cases k with
    | zero => omega
    | succ k => rfl
  | succ n ih => intro k h; cases k with
    | zero => omega
    | succ k => simp only [bch]; rw [ih k (by omega), ih (k + 1) (by omega)]
theorem bch_self (n : Nat) : bch n n = 1 := by
  induction n with
  | zero => rfl
  | succ n ih => simp only [bch]; rw [ih, bch_big n (n + 1) (by omega)]
theorem bch_zero (n : Nat) : bch n 0 = 1 := by cases n <;> rfl
theorem bch_mul (n : Nat) : ∀ k, (k + 1) * bch (n + 1) (k + 1) = (n + 1) * bch n k := by
  induction n with
  | zero => intro k; cases k with
    | zero => rfl
    | succ k => simp [bch]
  | succ n ih => intro k; cases k with
    | zero =>
      have := ih 0
      simp only [bch, bch_zero] at this ⊢
      omega
    | succ k =>
      have h1 := ih k
      have h2 := ih (k + 1)
      have e : bch (n + 1 + 1) (k + 1 + 1) = bch (n + 1) (k + 1) + bch (n + 1) (k + 1 + 1) := rfl
      have e2 : bch (n + 1) (k + 1) = bch n k + bch n (k + 1) := rfl
      rw [e]
      have e3 : (k + 1 + 1) * (bch (n + 1) (k + 1) + bch (n + 1) (k + 1 + 1)) = (k + 1) * bch (n + 1) (k + 1) + bch (n + 1) (k + 1) + (k + 1 + 1) * bch (n + 1) (k + 1 + 1) := by grind
      rw [e3, h1, h2, e2]
      grind
def su (f : Nat → Nat) : Nat → Nat
  | 0 => 0
  | n + 1 => su f n + f n
theorem bin_step (a n : Nat) (m : Nat) : su (fun k => bch (n + 1) k * a ^ k) (m + 1) = su (fun k => bch n k * a ^ k) (m + 1) + a * su (fun k => bch n k * a ^ k) m := by
  induction m with
  | zero => simp [su, bch_zero]
  | succ m ih =>
    rw [su, ih]
    simp only [su, bch, Nat.pow_succ]
    grind
theorem binom (a n : Nat) : (a + 1) ^ n = su (fun k => bch n k * a ^ k) (n + 1) := by
  induction n with
  | zero => simp [su, bch_zero]
  | succ n ih =>
    rw [bin_step, Nat.pow_succ, ih]
    have : su (fun k => bch n k * a ^ k) (n + 1 + 1) = su (fun k => bch n k * a ^ k) (n + 1) := by
      rw [su, bch_big n (n + 1) (by omega)]; simp
    rw [this]
    grind
theorem Pr.ch {p : Nat} (h : Pr p) (k : Nat) (h1 : k + 1 < p) : p ∣ bch p (k + 1) := by
  obtain ⟨n, rfl⟩ : ∃ n, p = n + 1 := ⟨p - 1, by have := h.1; omega⟩
  have hd : (n + 1) ∣ (k + 1) * bch (n + 1) (k + 1) := by rw [bch_mul]; exact Nat.dvd_mul_right _ _
  rcases h.dvd_mul hd with h2 | h2
  · have := Nat.le_of_dvd (by omega) h2; omega
  · exact h2
theorem Pr.mid {p : Nat} (h : Pr p) (a : Nat) (m : Nat) (hm : m < p) : su (fun k => bch p k * a ^ k) (m + 1) % p = 1 % p := by
  induction m with
  | zero => simp [su, bch_zero]
  | succ m ih =>
    rw [su, Nat.add_mod, ih (by omega)]
    have : bch p (m + 1) * a ^ (m + 1) % p = 0 := Nat.mod_eq_zero_of_dvd (Nat.dvd_trans (h.ch m hm) (Nat.dvd_mul_right _ _))
    rw [this]
    simp
/-- Fermat. -/
theorem Pr.fermat {p : Nat} (h : Pr p) (a : Nat) : a ^ p % p = a % p := by
  induction a with
  | zero => rw [Nat.zero_pow (by have := h.1; omega)]
  | succ a ih =>
    obtain ⟨n, rfl⟩ : ∃ n, p = n + 1 := ⟨p - 1, by have := h.1; omega⟩
    rw [binom, su, Nat.add_mod, h.mid a n (by omega), bch_self, Nat.one_mul, ih, ← Nat.add_mod, Nat.add_comm]
theorem Pr.little {p : Nat} (h : Pr p) (a : Nat) (ha : ¬ p ∣ a) : a ^ (p - 1) % p = 1 := by
  obtain ⟨n, rfl⟩ : ∃ n, p = n + 1 := ⟨p - 1, by have := h.1; omega⟩
  have hf := h.fermat a
  have hp := h.1
  rw [Nat.add_sub_cancel]
  have h1 : 1 ≤ a ^ n := by
    rcases Nat.eq_zero_or_pos a with rfl | h0
    · exact absurd (Nat.dvd_zero _) ha
    · exact Nat.one_le_pow _ _ h0
  obtain ⟨t, ht⟩ : ∃ t, a ^ n = t + 1 := ⟨a ^ n - 1, by omega⟩
  have hd : (n + 1) ∣ a * t := by
    have e : a ^ (n + 1) = a * t + a := by rw [Nat.pow_succ, ht]; grind
    rw [e] at hf
    apply Nat.dvd_of_mod_eq_zero
    have := Nat.sub_mod_eq_zero_of_mod_eq hf
    rwa [Nat.add_sub_cancel] at this
  rcases h.dvd_mul hd with h2 | h2
  · exact absurd h2 ha
  · rw [ht, Nat.add_mod, Nat.mod_eq_zero_of_dvd h2, Nat.zero_add, Nat.mod_mod, Nat.mod_eq_of_lt (by omega)]
theorem pow_one_mul {b d m : Nat} (h : b ^ m % d = 1 % d) (k : Nat) : b ^ (m * k) % d = 1 % d := by
  rw [Nat.pow_mul, Nat.pow_mod, h, ← Nat.pow_mod, Nat.one_pow]
theorem pow_gcd (b d : Nat) (m n : Nat) : b ^ m % d = 1 % d → b ^ n % d = 1 % d → b ^ (Nat.gcd m n) % d = 1 % d := by
  induction m, n using Nat.gcd.induction with
  | H0 n => intro _ h; rwa [Nat.gcd_zero_left]
  | H1 m n hm ih =>
    intro h1 h2
    rw [Nat.gcd_rec]
    refine ih ?_ h1
    have e : b ^ n = b ^ (m * (n / m)) * b ^ (n % m) := by rw [← Nat.pow_add, Nat.div_add_mod]
    rw [e, Nat.mul_mod, pow_one_mul h1, ← Nat.mul_mod, Nat.one_mul] at h2
    exact h2
theorem Pr.pow_dvd {q : Nat} (hq : Pr q) (e g : Nat) (hg : g ∣ q ^ (e + 1)) (hn : ¬ g ∣ q ^ e) : g = q ^ (e + 1) := by
  obtain ⟨h, hh⟩ := hg
  have q0 : 0 < q := by have := hq.1; omega
  by_cases hd : q ∣ h
  · obtain ⟨h', rfl⟩ := hd
    refine absurd ⟨h', ?_⟩ hn
    have : q * q ^ e = q * (g * h') := by rw [← Nat.pow_succ', hh]; grind
    exact Nat.eq_of_mul_eq_mul_left q0 this
  · have hc : Nat.Coprime (q ^ (e + 1)) h := (hq.cop hd).pow_left _
    have : h = 1 := Nat.Coprime.eq_one_of_dvd hc.symm ⟨g, by rw [hh, Nat.mul_comm]⟩
    rw [hh, this, Nat.mul_one]
theorem pock_step (N a q e d : Nat) (hN : 2 ≤ N) (hq : Pr q) (hd : Pr d) (hdN : d ∣ N) (hqe : q ^ (e + 1) ∣ N - 1) (h1 : a ^ (N - 1) % N = 1)
    (h2 : Nat.gcd (a ^ ((N - 1) / q) % N + (N - 1)) N = 1) : q ^ (e + 1) ∣ d - 1 := by
  obtain ⟨c, hc⟩ := hqe
  have q0 : 0 < q := by have := hq.1; omega
  have hdq : (N - 1) / q = c * q ^ e := by
    rw [hc, show q ^ (e + 1) * c = q * (c * q ^ e) by rw [Nat.pow_succ]; grind]
    exact Nat.mul_div_cancel_left _ q0
  have hm : ∀ x, x % N % d = x % d := fun x => Nat.mod_mod_of_dvd x hdN
  have d2 := hd.1
  have hb1 : (a ^ c) ^ (q ^ (e + 1)) % d = 1 % d := by
    rw [← Nat.pow_mul, Nat.mul_comm, ← hc, ← hm, h1]
  have hb2 : ¬ (a ^ c) ^ (q ^ e) % d = 1 % d := by
    intro h
    rw [← Nat.pow_mul, ← hdq, ← hm] at h
    have hdd : d ∣ a ^ ((N - 1) / q) % N + (N - 1) := by
      apply Nat.dvd_of_mod_eq_zero
      rw [Nat.add_mod, h, ← Nat.add_mod, show 1 + (N - 1) = N by omega]
      exact Nat.mod_eq_zero_of_dvd hdN
    have := Nat.dvd_gcd hdd hdN
    rw [h2] at this
    have := Nat.le_of_dvd (by omega) this
    omega
  have hnd : ¬ d ∣ a ^ c := by
    intro h
    have h0 : a ^ c % d = 0 := Nat.mod_eq_zero_of_dvd h
    rw [Nat.pow_mod, h0, Nat.zero_pow (Nat.pow_pos q0), Nat.zero_mod, Nat.mod_eq_of_lt (by omega)] at hb1
    omega
  have hb3 : (a ^ c) ^ (d - 1) % d = 1 % d := by rw [hd.little _ hnd, Nat.mod_eq_of_lt (by omega)]
  have hg := pow_gcd _ _ _ _ hb1 hb3
  have : Nat.gcd (q ^ (e + 1)) (d - 1) = q ^ (e + 1) := by
    refine hq.pow_dvd e _ (Nat.gcd_dvd_left _ _) ?_
    rintro ⟨k, hk⟩
    exact hb2 (by rw [hk]; exact pow_one_mul hg k)
  rw [← this]
  exact Nat.gcd_dvd_right _ _
theorem exists_pr (n : Nat) : 2 ≤ n → ∃ d, Pr d ∧ d ∣ n := by
  induction n using Nat.strongRecOn with
  | ind n ih =>
    intro h
    by_cases hp : Pr n
    · exact ⟨n, hp, Nat.dvd_refl _⟩
    · have : ∃ d, d ∣ n ∧ d ≠ 1 ∧ d ≠ n := by
        refine Classical.byContradiction fun hc => hp ⟨h, fun d hd => Classical.byContradiction fun hh => hc ⟨d, hd, ?_, ?_⟩⟩
        · exact fun e => hh (.inl e)
        · exact fun e => hh (.inr e)
      obtain ⟨d, hd, h1, h2⟩ := this
      have hle := Nat.le_of_dvd (by omega) hd
      have h0 : d ≠ 0 := by rintro rfl; have := Nat.eq_zero_of_zero_dvd hd; omega
      obtain ⟨k, hk, hkd⟩ := ih d (by omega) (by omega)
      exact ⟨k, hk, Nat.dvd_trans hkd hd⟩
theorem pr_of_small (n : Nat) (h : 2 ≤ n) (hs : ∀ d, Pr d → d ∣ n → n < d * d) : Pr n := by
  refine ⟨h, fun d hd => Classical.byContradiction fun hh => ?_⟩
  have h1 : d ≠ 1 := fun e => hh (.inl e)
  have h2 : d ≠ n := fun e => hh (.inr e)
  obtain ⟨k, hk⟩ := hd
  have h0 : d ≠ 0 := by rintro rfl; omega
  have k0 : k ≠ 0 := by rintro rfl; omega
  have k1 : k ≠ 1 := by rintro rfl; omega
  have hmin : ∀ x y, n = x * y → 2 ≤ x → 2 ≤ y → x ≤ y → False := by
    intro x y hxy hx hy hle
    obtain ⟨u, hu, hux⟩ := exists_pr x hx
    have := hs u hu (Nat.dvd_trans hux ⟨y, hxy⟩)
    have hux' := Nat.le_of_dvd (by omega) hux
    have : u * u ≤ x * y := Nat.mul_le_mul hux' (Nat.le_trans hux' hle)
    omega
  rcases Nat.le_total d k with hle | hle
  · exact hmin d k hk (by omega) (by omega) hle
  · exact hmin k d (by rw [hk, Nat.mul_comm]) (by omega) (by omega) hle
def powL : List (Nat × Nat) → Nat
  | [] => 1
  | (q, e) :: t => q ^ (e + 1) * powL t
/-- a ^ e modulo N, by halves; fuel bits. -/
def pm (a N : Nat) : Nat → Nat → Nat
  | 0, _ => 1 % N
  | f + 1, e => pm a N f (e / 2) ^ 2 * a ^ (e % 2) % N
theorem pm_eq (a N : Nat) (f : Nat) : ∀ e, e < 2 ^ f → pm a N f e = a ^ e % N := by
  induction f with
  | zero => intro e h; obtain rfl : e = 0 := by simp at h; omega
            rfl
  | succ f ih =>
    intro e h
    rw [pm, ih (e / 2) (by rw [Nat.pow_succ] at h; omega)]
    rw [Nat.mul_mod, ← Nat.pow_mod, ← Nat.pow_mul, ← Nat.mul_mod, ← Nat.pow_add, Nat.div_mul_self_eq_mod_sub_self]
    congr 2
    omega
def pk (N a f : Nat) : List (Nat × Nat) → Bool
  | [] => true
  | (q, e) :: t => (N - 1) % q ^ (e + 1) == 0 && Nat.gcd (pm a N f ((N - 1) / q) + (N - 1)) N == 1 && Nat.gcd (q ^ (e + 1)) (powL t) == 1 && pk N a f t
theorem pk_dvd (N a f d : Nat) (hN : 2 ≤ N) (hf : N < 2 ^ f) (h1 : a ^ (N - 1) % N = 1) (hd : Pr d) (hdN : d ∣ N) : ∀ l : List (Nat × Nat), (∀ x ∈ l, Pr x.1) → pk N a f l = true → powL l ∣ d - 1 := by
  intro l
  induction l with
  | nil => intro _ _; exact Nat.one_dvd _
  | cons x t ih =>
    obtain ⟨q, e⟩ := x
    intro hp hk
    simp only [pk, Bool.and_eq_true, beq_iff_eq] at hk
    obtain ⟨⟨⟨k1, k2⟩, k3⟩, k4⟩ := hk
    rw [pm_eq a N f _ (Nat.lt_of_le_of_lt (Nat.div_le_self _ _) (by omega))] at k2
    exact Nat.Coprime.mul_dvd_of_dvd_of_dvd k3 (pock_step N a q e d hN (hp (q, e) (by simp)) hd hdN (Nat.dvd_of_mod_eq_zero k1) h1 k2) (ih (fun x hx => hp x (by simp [hx])) k4)
/-- Pocklington. -/
theorem pock (N a f : Nat) (l : List (Nat × Nat)) (hp : ∀ x ∈ l, Pr x.1) (hc : (decide (2 ≤ N) && decide (N < 2 ^ f) && pm a N f (N - 1) == 1 && pk N a f l && decide (N < (powL l + 1) * (powL l + 1))) = true) : Pr N := by
  simp only [Bool.and_eq_true, decide_eq_true_eq, beq_iff_eq] at hc
  obtain ⟨⟨⟨⟨h2, hf⟩, h1⟩, hk⟩, hF⟩ := hc
  rw [pm_eq a N f _ (by omega)] at h1
  refine pr_of_small N h2 fun d hd hdN => ?_
  have hdv := pk_dvd N a f d h2 hf h1 hd hdN l hp hk
  have := hd.1
  have hle := Nat.le_of_dvd (by omega) hdv
  exact Nat.lt_of_lt_of_le hF (Nat.mul_le_mul (by omega) (by omega))
/-- No divisor from k on, fuel steps by two. -/
def noDiv (n : Nat) : Nat → Nat → Bool
  | 0, _ => true
  | f + 1, k => n % k != 0 && noDiv n f (k + 1)
theorem noDiv_spec (n : Nat) (f : Nat) : ∀ k, noDiv n f k = true → ∀ d, k ≤ d → d < k + f → ¬ d ∣ n := by
  induction f with
  | zero => intro k _ d h1 h2; omega
  | succ f ih =>
    intro k h d h1 h2
    simp only [noDiv, Bool.and_eq_true, bne_iff_ne] at h
    rcases Nat.eq_or_lt_of_le h1 with rfl | h3
    · exact fun hd => h.1 (Nat.mod_eq_zero_of_dvd hd)
    · exact ih (k + 1) h.2 d (by omega) (by omega)
theorem trial (n f : Nat) (h : (decide (2 ≤ n) && noDiv n f 2 && decide (n < (f + 2) * (f + 2))) = true) : Pr n := by
  simp only [Bool.and_eq_true, decide_eq_true_eq] at h
  obtain ⟨⟨h1, h2⟩, h3⟩ := h
  refine pr_of_small n h1 fun d hd hdn => ?_
  have := hd.1
  rcases Nat.lt_or_ge d (2 + f) with h4 | h4
  · exact absurd hdn (noDiv_spec n f 2 h2 d this h4)
  · exact Nat.lt_of_lt_of_le h3 (Nat.mul_le_mul (by omega) (by omega))
theorem pr_421987 : Pr 421987 := trial _ 648 (by decide +kernel)
theorem pr_13090036741 : Pr 13090036741 := pock _ 2 34 [(421987, 0)] (by
  intro x hx
  simp only [List.mem_cons, List.not_mem_nil, or_false] at hx
  rcases hx with rfl
  · exact pr_421987) (by decide +kernel)
theorem pr_755057 : Pr 755057 := trial _ 867 (by decide +kernel)
theorem pr_x18131021 : Pr 3819663927398918131021 := pock _ 2 72 [(13090036741, 0), (755057, 0)] (by
  intro x hx
  simp only [List.mem_cons, List.not_mem_nil, or_false] at hx
  rcases hx with rfl | rfl
  · exact pr_13090036741
  · exact pr_755057) (by decide +kernel)
theorem pr_x86709967 : Pr 1125266252156850182658904441386709967 := pock _ 2 120 [(3819663927398918131021, 0)] (by
  intro x hx
  simp only [List.mem_cons, List.not_mem_nil, or_false] at hx
  rcases hx with rfl
  · exact pr_x18131021) (by decide +kernel)
theorem pr_x27714659 : Pr 15778400344354997994418419698270088123916926905054652752758194827714659 := pock _ 2 234 [(1125266252156850182658904441386709967, 0)] (by
  intro x hx
  simp only [List.mem_cons, List.not_mem_nil, or_false] at hx
  rcases hx with rfl
  · exact pr_x86709967) (by decide +kernel)
theorem pr_p : Pr 4002409555221667393417789825735904156556882819939007885332058136124031650490837864442687629129015664037894272559787 := pock _ 2 381 [(15778400344354997994418419698270088123916926905054652752758194827714659, 0)] (by
  intro x hx
  simp only [List.mem_cons, List.not_mem_nil, or_false] at hx
  rcases hx with rfl
  · exact pr_x27714659) (by decide +kernel)
end Go.Proofs.YtialfoccalobpaaDoor

/-! ## Mo -/
namespace Go.Proofs.YtialfoccalobpaaDoor
theorem emod_of_dvd_sub {M a b : Int} (h : M ∣ a - b) : a % M = b % M := Int.emod_eq_emod_iff_emod_sub_eq_zero.2 (Int.emod_eq_zero_of_dvd h)
theorem mont_fin (M R Ri a b z : Int) (hR : R * Ri % M = 1) (h0 : 0 ≤ z) (hz : z < M) (h : M ∣ z * R - a * b) : z = a * b * Ri % M := by
  have e : z * R * Ri % M = a * b * Ri % M := emod_of_dvd_sub (by rw [← Int.sub_mul]; exact Int.dvd_mul_of_dvd_left h)
  rw [← e, Int.mul_assoc, Int.mul_emod, hR, Int.mul_one, Int.emod_emod, Int.emod_eq_of_lt h0 hz]
/-- One step: a word v of x, the sum s, t times the modulus. -/
theorem mont_bound (M W s v b t s' : Int) (hW : 0 < W) (hs : 0 ≤ s) (hs2 : s < 2 * M) (hv : 0 ≤ v) (hvW : v < W) (hb : 0 ≤ b) (hbM : b < M) (ht : 0 ≤ t) (htW : t < W) (he : s' * W = s + v * b + t * M) : 0 ≤ s' ∧ s' < 2 * M := by
  have h1 : 0 ≤ v * b := Int.mul_nonneg hv hb
  have h2 : 0 ≤ t * M := Int.mul_nonneg ht (by omega)
  have h3 : v * b ≤ (W - 1) * (M - 1) := Int.mul_le_mul (by omega) (by omega) hb (by omega)
  have h4 : t * M ≤ (W - 1) * M := Int.mul_le_mul_of_nonneg_right (by omega) (by omega)
  have e3 : (W - 1) * (M - 1) = W * M - W - M + 1 := by grind
  have e4 : (W - 1) * M = W * M - M := by grind
  constructor
  · rcases Int.lt_or_le s' 0 with h | h
    · have : s' * W ≤ -1 * W := Int.mul_le_mul_of_nonneg_right (by omega) (by omega)
      omega
    · exact h
  · rcases Int.lt_or_le s' (2 * M) with h | h
    · exact h
    · have : 2 * M * W ≤ s' * W := Int.mul_le_mul_of_nonneg_right h (by omega)
      have e5 : 2 * M * W = 2 * (W * M) := by grind
      omega
theorem emm (a b M : Int) : a % M * b % M = a * b % M := by rw [Int.mul_emod, Int.emod_emod, ← Int.mul_emod]
theorem mem' (a b M : Int) : a * (b % M) % M = a * b % M := by rw [Int.mul_emod, Int.emod_emod, ← Int.mul_emod]
/-- A number times R, below the modulus. -/
def fe (M R x : Int) : Int := x * R % M
section
variable {M R Ri : Int}
theorem fe_lo (hM : 0 < M) (x : Int) : 0 ≤ fe M R x ∧ fe M R x < M := ⟨Int.emod_nonneg _ (by omega), Int.emod_lt_of_pos _ hM⟩
theorem fe_add (x y : Int) : (fe M R x + fe M R y) % M = fe M R (x + y) := by unfold fe; rw [← Int.add_emod, Int.add_mul]
theorem fe_sub (x y : Int) : (fe M R x - fe M R y) % M = fe M R (x - y) := by unfold fe; rw [← Int.sub_emod, Int.sub_mul]
theorem fe_plain (hR : R * Ri % M = 1) (x : Int) : fe M R x * Ri % M = x % M := by
  unfold fe
  rw [emm, Int.mul_assoc, Int.mul_emod, hR, Int.mul_one, Int.emod_emod]
theorem fe_mul (hR : R * Ri % M = 1) (x y : Int) : fe M R x * fe M R y * Ri % M = fe M R (x * y) := by
  rw [Int.mul_assoc, ← mem', fe_plain hR, mem']
  unfold fe
  rw [emm]
  congr 1
  grind
theorem fe_of (hR : R * Ri % M = 1) (a : Int) : a * fe M R R * Ri % M = fe M R a := by
  rw [Int.mul_assoc, ← mem', fe_plain hR, mem']
  rfl
theorem fe_inj (hR : R * Ri % M = 1) {x y : Int} : fe M R x = fe M R y ↔ x % M = y % M := by
  constructor
  · intro h
    rw [← fe_plain hR x, ← fe_plain hR y, h]
  · intro h
    unfold fe
    rw [Int.mul_emod, h, ← Int.mul_emod]
theorem fe_shift (hR : R * Ri % M = 1) (t w : Int) : t * fe M R w * Ri % M = t * w % M := by
  rw [Int.mul_assoc, ← mem', fe_plain hR, mem']
end
def Wd : Int := 18446744073709551616
/-- The i-th word. -/
def wd (x : Int) : Nat → Int
  | 0 => x % Wd
  | i + 1 => wd (x / Wd) i
theorem wd_lo (x : Int) (i : Nat) : 0 ≤ wd x i ∧ wd x i < Wd := by
  induction i generalizing x with
  | zero => simp only [wd, Wd]; omega
  | succ i ih => exact ih _
/-- The number of a list of words. -/
def nu : List Int → Int
  | [] => 0
  | d :: t => d + Wd * nu t
def wds (x : Int) : Nat → List Int
  | 0 => []
  | n + 1 => x % Wd :: wds (x / Wd) n
theorem wds_nu (l : List Int) (h : ∀ d ∈ l, 0 ≤ d ∧ d < Wd) : wds (nu l) l.length = l := by
  induction l with
  | nil => rfl
  | cons d t ih =>
    have hd := h d (by simp)
    have e1 : (d + Wd * nu t) % Wd = d := by rw [Int.add_mul_emod_self_left]; exact Int.emod_eq_of_lt hd.1 hd.2
    have e2 : (d + Wd * nu t) / Wd = nu t := by
      rw [Int.add_mul_ediv_left _ _ (by simp [Wd]), Int.ediv_eq_zero_of_lt hd.1 hd.2, Int.zero_add]
    simp only [nu, List.length_cons, wds, e1, e2]
    rw [ih fun x hx => h x (by simp [hx])]
theorem nu_wds (n : Nat) : ∀ x, nu (wds x n) = x % Wd ^ n := by
  induction n with
  | zero => intro x; simp [wds, nu, Int.emod_one]
  | succ n ih =>
    intro x
    rw [wds, nu, ih, Int.pow_succ]
    have hp : 0 < Wd ^ n := Int.pow_pos (by simp [Wd])
    generalize Wd ^ n = P at hp
    have hW : (0 : Int) < Wd := by simp [Wd]
    have h1 := Int.emod_nonneg x (by omega : Wd ≠ 0)
    have h2 := Int.emod_lt_of_pos x hW
    have h3 := Int.emod_nonneg (x / Wd) (by omega : P ≠ 0)
    have h4 := Int.emod_lt_of_pos (x / Wd) hp
    have h5 : Wd * (x / Wd % P) ≤ Wd * (P - 1) := Int.mul_le_mul_of_nonneg_left (by omega) (by omega)
    have h6 : 0 ≤ Wd * (x / Wd % P) := Int.mul_nonneg (by omega) h3
    have h7 : Wd * (P - 1) = P * Wd - Wd := by grind
    have h8 : x % Wd + Wd * (x / Wd % P) = (x % Wd + Wd * (x / Wd % P)) % (P * Wd) := (Int.emod_eq_of_lt (by omega) (by omega)).symm
    rw [h8]
    refine Int.emod_eq_emod_iff_emod_sub_eq_zero.2 (Int.emod_eq_zero_of_dvd ⟨-(x / Wd / P), ?_⟩)
    have e1 := Int.emod_add_mul_ediv x Wd
    have e2 := Int.emod_add_mul_ediv (x / Wd) P
    grind
end Go.Proofs.YtialfoccalobpaaDoor

/-! ## Mem -/
namespace Go.Proofs.YtialfoccalobpaaDoor
open Go.RowKit

theorem block_of_add (a : Addr) (n : Nat) : (a.add n).block = a.block := by unfold Addr.add; split <;> rfl
theorem add_plain (g o i : Nat) : (⟨g, o, none⟩ : Addr).add i = ⟨g, o + i, none⟩ := by
  unfold Addr.add; split <;> simp_all

/-- Block g is just the cells cs of element type t, none frozen. -/
def Blk (w : World) (g : Nat) (t : TypeId) (cs : Array Value) : Prop := w.heap[g]? = some (.cells cs t (0, 0))
section
variable {w w' : World} {g : Nat} {t : TypeId} {cs : Array Value}
theorem Blk.lt (h : Blk w g t cs) : g < w.heap.size := by
  rcases Nat.lt_or_ge g w.heap.size with hlt | hge
  · exact hlt
  · unfold Blk at h; rw [Array.getElem?_eq_none hge] at h; cases h
theorem Blk.cell (h : Blk w g t cs) (i : Nat) : w.cell? ⟨g, i, none⟩ = cs[i]? := cell_of_row w g i cs t (0, 0) h
theorem Blk.frozen (h : Blk w g t cs) (i : Nat) : w.frozen? ⟨g, i, none⟩ = false := by
  unfold Blk at h
  simp [World.frozen?, h]
theorem Blk.new (w : World) (t : TypeId) (cs : Array Value) : Blk (w.alloc (.cells cs t)) w.heap.size t cs := heap_alloc_new w _
theorem Blk.drew (h : Blk w g t cs) : Blk w.drew g t cs := h
theorem Blk.drewN (h : Blk w g t cs) (n : Nat) : Blk (w.drewN n) g t cs := h
theorem Blk.alloc (h : Blk w g t cs) (o : Obj) : Blk (w.alloc o) g t cs := (Below.heap_alloc w o g h.lt).trans h
theorem Blk.set_ (h : Blk w g t cs) (i : Nat) (u : Value) : Blk (w.setCell ⟨g, i, none⟩ u) g t (cs.setIfInBounds i u) := by
  unfold Blk at h ⊢
  simp [World.setCell, Array.getElem?_modify, h]
theorem Blk.far (h : Blk w g t cs) {p : Addr} (hp : g ≠ p.block) (u : Value) : Blk (w.setCell p u) g t cs := (Below.heap_setCell w p u g hp).trans h
theorem Blk.below {B : Nat} (h : Blk w g t cs) (hb : Below B w w') (hg : g < B) : Blk w' g t cs := (hb.block g hg).trans h
theorem Blk.keep (h : Blk w g t cs) (hb : Below w.heap.size w w') : Blk w' g t cs := (hb.block g h.lt).trans h
theorem Blk.grown {row : Option Nat} (h : Blk w g t cs) (hb : w.grownBy w' row) (hg : some g ≠ row) : Blk w' g t cs := (hb.block g h.lt hg).trans h
theorem Blk.some_ (h : Blk w g t cs) {i : Nat} (hi : i < cs.size) : ∃ v, w.cell? ⟨g, i, none⟩ = some v := ⟨cs[i], by rw [h.cell]; exact Array.getElem?_eq_getElem hi⟩
theorem Blk.at_ (h : Blk w g t cs) {i : Nat} {v : Value} (hi : cs[i]? = some v) : w.cell? ⟨g, i, none⟩ = some v := by rw [h.cell]; exact hi
theorem Blk.cast {cs' : Array Value} (h : Blk w g t cs) (e : cs = cs') : Blk w g t cs' := e ▸ h
end

theorem below_drewN {B : Nat} {a w : World} (h : Below B a w) (n : Nat) : Below B a (w.drewN n) := ⟨h.os, h.tape, h.output, h.size, h.block⟩
theorem quiet_left {P : Program} {f : FuncId} {args : Array Value} {w : World} {n : Nat} {v : Value}
    (h : Calls P f args (w.drewN n) fun e w' => e = .returned v ∧ w.drewN n = w') : Calls P f args (w.drewN n) fun e w'' => e = .returned v ∧ ∃ m, w'' = w.drewN m :=
  h.mono fun _ _ ⟨he, hm⟩ => ⟨he, n, hm.symm⟩

/-- The slice value '.slice A n c' holds the one-cell values xs, in blocks below B. -/
def Reads (w : World) (B : Nat) (A : Option Addr) (n : Nat) (xs : List Value) : Prop :=
  xs.length = n ∧ (0 < n → ∃ b o, A = some ⟨b, o, none⟩ ∧ b < B ∧ ∀ j u, xs[j]? = some u → w.cell? ⟨b, o + j, none⟩ = some u)
section
variable {w w' : World} {B B' n : Nat} {A : Option Addr} {xs : List Value}
theorem Reads.nil_ : Reads w B A 0 [] := ⟨by simp, fun h => absurd h (by omega)⟩
theorem Reads.keep (h : Reads w B A n xs) (hk : ∀ p : Addr, p.block < B → w'.cell? p = w.cell? p) : Reads w' B A n xs :=
  ⟨h.1, fun hn => by
    obtain ⟨b, o, e, hb, hc⟩ := h.2 hn
    exact ⟨b, o, e, hb, fun j u hu => (hk _ hb).trans (hc j u hu)⟩⟩
theorem Reads.more (h : Reads w B A n xs) (hB : B ≤ B') : Reads w B' A n xs :=
  ⟨h.1, fun hn => by
    obtain ⟨b, o, e, hb, hc⟩ := h.2 hn
    exact ⟨b, o, e, by omega, hc⟩⟩
theorem Reads.below (h : Reads w B A n xs) (hb : Below B w w') : Reads w' B A n xs := h.keep fun _ hp => hb.cell hp
theorem Reads.drew (h : Reads w B A n xs) : Reads w.drew B A n xs := h
theorem Reads.drewN (h : Reads w B A n xs) (k : Nat) : Reads (w.drewN k) B A n xs := h
theorem Reads.grown (h : Reads w B A n xs) {g : Nat} (hg : w.grownBy w' (some g)) (hB : B ≤ w.heap.size) (hr : B ≤ g) : Reads w' B A n xs :=
  h.keep fun p hp => World.cell?_of_block (hg.block p.block (by omega) (fun e => by cases e; omega))
theorem Reads.cut (h : Reads w B A n xs) {k cap : Nat} (hk : k ≤ n) (hc : n ≤ cap) :
    Reads w B (if cap = k then A else A.map (·.add k)) (n - k) (xs.drop k) := by
  refine ⟨by rw [List.length_drop, h.1], fun hn => ?_⟩
  obtain ⟨b, o, rfl, hb, hcell⟩ := h.2 (by omega)
  rw [if_neg (by omega)]
  refine ⟨b, o + k, by simp [add_plain], hb, fun j u hu => ?_⟩
  rw [Nat.add_assoc]
  exact hcell _ u (by rw [← hu, List.getElem?_drop])
theorem Reads.front (h : Reads w B A n xs) {k : Nat} (hk : k ≤ n) : Reads w B A k (xs.take k) := by
  refine ⟨by rw [List.length_take, h.1]; omega, fun hn => ?_⟩
  obtain ⟨b, o, rfl, hb, hcell⟩ := h.2 (by omega)
  refine ⟨b, o, rfl, hb, fun j u hu => hcell j u ?_⟩
  rw [List.getElem?_take] at hu
  split at hu
  · exact hu
  · cases hu
theorem Blk.reads {g : Nat} {t : TypeId} {cs : Array Value} (h : Blk w g t cs) (hg : g < B) (o n : Nat) (hn : o + n ≤ cs.size) :
    Reads w B (some ⟨g, o, none⟩) n ((cs.toList.drop o).take n) := by
  refine ⟨by simp; omega, fun _ => ⟨g, o, rfl, hg, fun j u hu => ?_⟩⟩
  rw [h.cell]
  rw [List.getElem?_take] at hu
  split at hu
  · rw [List.getElem?_drop] at hu
    simpa using hu
  · cases hu
end

/-- The slice value '.slice A n c' holds the values xs, in a block other than g. -/
def Src (w : World) (g : Nat) (A : Option Addr) (n : Nat) (xs : List Value) : Prop :=
  xs.length = n ∧ (0 < n → ∃ b o, A = some ⟨b, o, none⟩ ∧ b ≠ g ∧ b < w.heap.size ∧ ∀ j u, xs[j]? = some u → w.cell? ⟨b, o + j, none⟩ = some u)
section
variable {w w' : World} {B g n : Nat} {A : Option Addr} {xs : List Value}
theorem Src.only (h : Src w g A n xs) (hk : w.grownBy w' (some g)) : Src w' g A n xs :=
  ⟨h.1, fun hn => by
    obtain ⟨b, o, e, hb, hl, hc⟩ := h.2 hn
    exact ⟨b, o, e, hb, Nat.lt_of_lt_of_le hl hk.size, fun j u hu => (World.cell?_of_block (hk.block b hl (fun e => hb (by cases e; rfl)))).trans (hc j u hu)⟩⟩
theorem Src.drewN (h : Src w g A n xs) (k : Nat) : Src (w.drewN k) g A n xs := h
theorem Src.cut (h : Src w g A n xs) {k cap : Nat} (hk : k ≤ n) (hc : n ≤ cap) : Src w g (if cap = k then A else A.map (·.add k)) (n - k) (xs.drop k) := by
  refine ⟨by rw [List.length_drop, h.1], fun hn => ?_⟩
  obtain ⟨b, o, rfl, hb, hl, hcell⟩ := h.2 (by omega)
  rw [if_neg (by omega)]
  refine ⟨b, o + k, by simp [add_plain], hb, hl, fun j u hu => ?_⟩
  rw [Nat.add_assoc]
  exact hcell _ u (by rw [← hu, List.getElem?_drop])
theorem Reads.src (h : Reads w B A n xs) (hB : B ≤ g) (hl : B ≤ w.heap.size) : Src w g A n xs :=
  ⟨h.1, fun hn => by
    obtain ⟨b, o, e, hb, hc⟩ := h.2 hn
    exact ⟨b, o, e, by omega, by omega, hc⟩⟩
theorem Blk.src {b : Nat} {t : TypeId} {cs : Array Value} (h : Blk w b t cs) (hg : b ≠ g) (o n : Nat) (hn : o + n ≤ cs.size) :
    Src w g (some ⟨b, o, none⟩) n ((cs.toList.drop o).take n) := by
  refine ⟨by simp; omega, fun _ => ⟨b, o, rfl, hg, h.lt, fun j u hu => ?_⟩⟩
  rw [h.cell]
  rw [List.getElem?_take] at hu
  split at hu
  · rw [List.getElem?_drop] at hu
    simpa using hu
  · cases hu
end
/-- 'b[q:]', the address behind it under one name. -/
theorem run_cut1 {P : Program} (t : TypeId) (hu : P.underlying t = some (.slice (P.elem t))) (hsz : ∀ w, (sizeOf (P.elem t)).run P w = .ok 1 w) (A : Option Addr) (n c q : Nat) (hq : q ≤ n) (_hn : n ≤ c) :
    ∃ A2, A2 = (if c = q then A else A.map (·.add q)) ∧ ∀ w : World, (Instr.slice t (.slice A n c) (some (.int .i64 (q : Int))) none none).run P w = .ok (.slice A2 (n - q) (c - q)) w := by
  refine ⟨_, rfl, fun w => ?_⟩
  rw [run_slice_l w t A n c hu .i64 (q : Int) (by omega) (by omega), hsz]
  simp [sliced]
theorem madeCells_one (z : Value) (n : Nat) : madeCells #[z] n = Array.replicate n z := by
  apply Array.ext
  · simp [madeCells]
  · intro i h1 h2
    simp [madeCells, Nat.mod_one]

/-- 'make([]T, n)', elements of one cell, the size known by an equation; the world behind it is a variable. -/
theorem wpList_make_new {P : Program} (w : World) {ops : Array Oper} {rest : List Oper} {o : Oper} {a : Act} {Q : Exit → Act → World → Prop}
    (hg : o.guard = none) (l c : Operand) (t : TypeId) (hop : o.op = Op.makeSlice t l c)
    (e : TypeId) (z : Value) (bytes : Nat) (ht : P.underlying t = some (.slice e)) (hinfo : (P.info? e).map (fun i => (i.zero, i.size, i.bytes)) = some (some z, 1, bytes)) (hz1 : z.cells = #[z])
    (kl kc : IntKind) (v : Int) (n : Nat) (hl : a.eval l = .int kl v) (hc : a.eval c = .int kc v) (hv : v = (n : Int)) (hbytes : bytes * n ≤ 281474976710656) (h63 : n ≤ 9223372036854775807)
    (hK : ∀ w', Below w.heap.size w w' → w.heap.size < w'.heap.size → Blk w' w.heap.size e (Array.replicate n z) → wpList P ops Q rest (a.put o.dst (.slice (some ⟨w.heap.size, 0, none⟩) n n)) w') :
    wpList P ops Q (o :: rest) a w := by
  subst hv
  refine wpList_plain hg fun K hK' => ?_
  have hrun := run_make_row' (P := P) t e z bytes ht hinfo hz1 kl kc n hbytes h63 w
  rw [madeCells_one] at hrun
  unfold Oper.wp
  simp [execOp, hop, hl, hc, hrun, Result.andThen]
  exact hK' _ _ (hK _ ((Below.refl _ _).alloc (Nat.le_refl _) _) (by simp) (Blk.new _ _ _))

theorem setRow_only {w : World} {g : Nat} (cs : Array Value) : w.grownBy (w.setRow g cs) (some g) :=
  ⟨rfl, rfl, rfl, by simp [World.setRow], fun k _ hne => setRow_other w g k cs (fun e => hne (by rw [e]))⟩

/-- A store of an array or a struct value into the middle of a block that is known whole: nothing else turns. -/
theorem run_storeVar_only {P : Program} (w : World) (g o : Nat) (t ty : TypeId) (old cells : Array Value) (hg : Blk w g t old) (hi : (P.info? ty).map (·.size) = some cells.size)
    (ho : o + cells.size ≤ old.size) (h1 : cells.all (·.oneCell') = true) :
    (storeVar ty ⟨g, o, none⟩ (.agg cells)).run P w = .ok () (w.setRow g (splice old.toList o cells.toList).toArray) := by
  have := run_storeCells_at (P := P) g o t cells.toList 0 old w hg (by simpa using ho) (fun v hv => (Array.all_eq_true_iff_forall_mem.1 h1) v (by simpa using hv))
  cases hq : P.info? ty with
  | none => simp [hq] at hi
  | some i =>
    have hs : cells.size = i.size := by simp [hq] at hi; omega
    simp [storeVar, sizeOf, typeInfo, hq, Value.cells, hs, this, splice, List.append_assoc]
theorem wpList_store_only {P : Program} {ops : Array Oper} {rest : List Oper} {op : Oper} {a : Act} {w : World} {Q : Exit → Act → World → Prop} (hgd : op.guard = none) (ty : TypeId) (x y : Operand) (ho : op.op = .store ty x y)
    (g o : Nat) (t : TypeId) (old cells : Array Value) (hx : a.eval x = .pointer (some ⟨g, o, none⟩)) (hy : a.eval y = .agg cells)
    (hg : Blk w g t old) (hi : (P.info? ty).map (·.size) = some cells.size) (hfit : o + cells.size ≤ old.size) (h1 : cells.all (·.oneCell') = true)
    (h : ∀ w', Hid (Blk w' g t (splice old.toList o cells.toList).toArray) → Hid (w.grownBy w' (some g)) → wpList P ops Q rest (a.put op.dst undef) w') : wpList P ops Q (op :: rest) a w :=
  wpList_plain hgd fun _ hK => by
    unfold Oper.wp execOp
    simp only [ho, hx, hy, Instr.storeAt, Instr.sureAddr, Sem.run_bind, Sem.run_pure, Result.andThen_ok, run_storeVar_only w g o t ty old cells hg hi hfit h1]
    exact hK _ _ (h _ (setRow_heap w g _ _ t _ hg) (setRow_only _))
theorem splice_all {α : Type} (L cs : List α) (h : cs.length = L.length) : splice L 0 cs = cs := by simp [splice, h]
/-- An array read out of a row of cells. -/
theorem wpList_load_range {P : Program} {ops : Array Oper} {rest : List Oper} {op : Oper} {a : Act} {w : World} {Q : Exit → Act → World → Prop} (hgd : op.guard = none) (ty : TypeId) (x : Operand) (ho : op.op = .load ty x)
    (g o : Nat) (hx : a.eval x = .pointer (some ⟨g, o, none⟩)) (cs : Array Value) (d : TypeDesc) (hc : ∀ (j : Nat) v, cs[j]? = some v → w.cell? ⟨g, o + j, none⟩ = some v)
    (hu : P.underlying ty = some d) (hd : (match d with | .struct _ | .array _ _ => true | _ => false) = true) (hi : (P.info? ty).map (·.size) = some cs.size)
    (h : wpList P ops Q rest (a.put op.dst (.agg cs)) w) : wpList P ops Q (op :: rest) a w :=
  wpList_plain hgd fun _ hK => by
    have hl : (loadCells ⟨g, o, none⟩ cs.toList.length).run P w = .ok cs.toList.toArray w :=
      run_loadCells_list (P := P) w ⟨g, o, none⟩ cs.toList (fun j v hv => by rw [add_plain]; exact hc j v (by simpa using hv))
    have hrun : (loadVar ty ⟨g, o, none⟩).run P w = .ok (.agg cs) w := by
      cases hq : P.info? ty with
      | none => simp [hq] at hi
      | some i =>
        have hs : i.size = cs.size := by simpa [hq] using hi
        have hagg : (isAgg ty).run P w = .ok true w := by
          unfold isAgg
          rw [Sem.run_bind, run_underlying hu w]
          cases d <;> simp_all
        simp only [Array.length_toList, Array.toArray_toList] at hl
        simp [loadVar, Sem.run_bind, hagg, sizeOf, typeInfo, hq, hs, hl]
    unfold Oper.wp execOp
    simp only [ho, hx, Instr.loadAt, Instr.sureAddr, Sem.run_bind, Sem.run_pure, Result.andThen_ok, hrun]
    exact hK _ _ h
theorem Blk.range {w : World} {g : Nat} {t : TypeId} {cs : Array Value} (h : Blk w g t cs) : ∀ (j : Nat) v, cs[j]? = some v → w.cell? ⟨g, 0 + j, none⟩ = some v := by
  intro j v hv
  rw [Nat.zero_add, h.cell]
  exact hv

/-- The same two, the operation written out: for '(with_reducible refine ..)', which fails at once where it does not fit. -/
theorem wpList_load_at {P : Program} {ops : Array Oper} {rest : List Oper} {dst : Option Tmp} {ty ty' : TypeId} {x : Operand} {pos : String} {after : Array Edge} {a : Act} {w : World} {Q : Exit → Act → World → Prop}
    (g o : Nat) (cs : Array Value) (d : TypeDesc) (hx : a.eval x = .pointer (some ⟨g, o, none⟩)) (hc : ∀ (j : Nat) v, cs[j]? = some v → w.cell? ⟨g, o + j, none⟩ = some v)
    (hu : P.underlying ty = some d) (hd : (match d with | .struct _ | .array _ _ => true | _ => false) = true) (hi : (P.info? ty).map (·.size) = some cs.size)
    (h : wpList P ops Q rest (a.put dst (.agg cs)) w) : wpList P ops Q (⟨dst, .load ty x, ty', pos, after, none⟩ :: rest) a w :=
  wpList_load_range rfl ty x rfl g o hx cs d hc hu hd hi h
theorem wpList_store_at {P : Program} {ops : Array Oper} {rest : List Oper} {dst : Option Tmp} {ty ty' : TypeId} {x y : Operand} {pos : String} {after : Array Edge} {a : Act} {w : World} {Q : Exit → Act → World → Prop}
    (g o : Nat) (t : TypeId) (old cells : Array Value) (hx : a.eval x = .pointer (some ⟨g, o, none⟩)) (hy : a.eval y = .agg cells)
    (hg : Blk w g t old) (hi : (P.info? ty).map (·.size) = some cells.size) (hfit : o + cells.size ≤ old.size) (h1 : cells.all (·.oneCell') = true)
    (h : ∀ w', Hid (Blk w' g t (splice old.toList o cells.toList).toArray) → Hid (w.grownBy w' (some g)) → wpList P ops Q rest (a.put dst undef) w') : wpList P ops Q (⟨dst, .store ty x y, ty', pos, after, none⟩ :: rest) a w :=
  wpList_store_only rfl ty x y rfl g o t old cells hx hy hg hi hfit h1 h
end Go.Proofs.YtialfoccalobpaaDoor

/-! ## MemB -/
namespace Go.Proofs.YtialfoccalobpaaDoor
open Go.RowKit

section
variable {P : Program}
theorem run_append_reads (w : World) (base : Nat) (t ty e : TypeId) (z : Value) (bytes : Nat) (ht : P.underlying t = some (.slice e)) (hinfo : (P.info? e).map (fun i => (i.zero, i.size, i.bytes)) = some (some z, 1, bytes)) (hzs : z.cells.size = 1)
    (v : Value) (n : Nat) (xs : List Value) (hown : w.ownsRow base e 1 v n xs) (B : Nat) (A : Option Addr) (m c : Nat) (news : List Value) (hr : Reads w B A m news) (h1 : ∀ u ∈ news, u.oneCell' = true)
    (h63 : n + m ≤ 9223372036854775807) (hbytes : (n + m) * bytes ≤ 140737488355328) (hbase : base ≤ w.heap.size) :
    ∃ v' w', (Builtin.append_ #[t, t] ty #[v, .slice A m c]).run P w = .ok v' w' ∧ w'.ownsRow base e 1 v' (n + m) (xs ++ news) ∧ w.grownBy w' v.ownBlock ∧
      (v'.ownBlock = v.ownBlock ∨ v'.ownBlock = some w.heap.size) := by
  obtain ⟨i, hi, hz⟩ := Option.map_eq_some_iff.1 hinfo
  simp only [Prod.mk.injEq] at hz
  obtain ⟨hz0, hz1, hz2⟩ := hz
  rcases A with _ | ad
  · have hm : m = 0 := by
      rcases Nat.eq_zero_or_pos m with h0 | h0
      · exact h0
      · obtain ⟨b, o, h, _⟩ := hr.2 h0
        cases h
    subst hm
    have hn : news = [] := List.eq_nil_of_length_eq_zero (by simpa using hr.1)
    subst hn
    have hrun : (Builtin.append_ #[t, t] ty #[v, .slice none 0 c]).run P w = .ok v w := by
      rcases hown.2 with ⟨rfl, rfl⟩ | ⟨g, cap, cur, rfl, _, _, hnc, _⟩
      · simp [Builtin.append_, run_underlying ht, sizeOf, typeInfo, hi, Builtin.lenOf, Builtin.firstCells]
      · simp [Builtin.append_, run_underlying ht, sizeOf, typeInfo, hi, Builtin.lenOf, Builtin.firstCells, hnc, storeCells]
    exact ⟨v, w, hrun, by simpa using hown, ⟨rfl, rfl, rfl, Nat.le_refl _, fun _ _ _ => rfl⟩, .inl rfl⟩
  · have hcells : ∀ j u, news[j]? = some u → w.cell? (ad.add j) = some u := by
      intro j u hu
      rcases Nat.eq_zero_or_pos m with h0 | h0
      · subst h0
        have hn : news = [] := List.eq_nil_of_length_eq_zero (by simpa using hr.1)
        subst hn
        simp at hu
      · obtain ⟨b, o, h, _, hc⟩ := hr.2 h0
        injection h with h
        subst h
        rw [add_plain]
        exact hc j u hu
    obtain ⟨v', w', hrun, h2, h3, _, h5⟩ := run_append_own_at (P := P) w base t ty e i z 1 bytes ht hi hz0 hz1 hz2 hzs (by omega) v n xs hown ad m c news (by rw [hr.1]; omega) hcells h1 (by simp only [maxLen]; omega) hbytes hbase
    exact ⟨v', w', hrun, h2, h3, h5⟩
end
theorem Blk.owns {w : World} {g base n cap : Nat} {e : TypeId} {cs : Array Value} (h : Blk w g e cs) (hb : base ≤ g) (hn : n ≤ cap) (hs : cs.size = cap) (hm : cap ≤ 9223372036854775807) :
    w.ownsRow base e 1 (.slice (some ⟨g, 0, none⟩) n cap) n (cs.toList.take n) :=
  ⟨by simp; omega, .inr ⟨g, cap, cs, rfl, hb, h, hn, by simp only [maxLen]; omega, by omega, by simp⟩⟩
theorem owns_blk {w : World} {base n : Nat} {e : TypeId} {v : Value} {xs : List Value} (h : w.ownsRow base e 1 v n xs) (hn : 0 < n) :
    ∃ g cap cs, v = .slice (some ⟨g, 0, none⟩) n cap ∧ base ≤ g ∧ Blk w g e cs ∧ n ≤ cap ∧ cs.size = cap ∧ cs.toList.take n = xs ∧ cap ≤ 9223372036854775807 := by
  rcases h.2 with ⟨_, h0⟩ | ⟨g, cap, cur, hv, hb, hg, hnc, hm, hs, ht⟩
  · omega
  · exact ⟨g, cap, cur, hv, hb, hg, hnc, by omega, by simpa using ht, by simpa only [maxLen] using hm⟩
end Go.Proofs.YtialfoccalobpaaDoor

/-! ## Word -/
namespace Go.Proofs.YtialfoccalobpaaDoor
open Go.RowKit
/-- The high word and the low word. -/
def hiW (x : Int) : Int := x / Wd
def loW (x : Int) : Int := x % Wd
theorem hilo (x : Int) : Wd * hiW x + loW x = x := by unfold hiW loW; exact Int.mul_ediv_add_emod x Wd
theorem loW_in (x : Int) : 0 ≤ loW x ∧ loW x < Wd := by unfold loW; simp only [Wd]; omega
theorem wrapU (x : Int) : IntKind.u64.wrap x = loW x := by
  unfold loW Wd
  simp [IntKind.wrap, IntKind.bits, IntKind.signed]
theorem loW_of {x : Int} (h0 : 0 ≤ x) (h : x < Wd) : loW x = x := Int.emod_eq_of_lt h0 h
theorem loW_add (x y : Int) : loW (loW x + y) = loW (x + y) := by unfold loW; exact Int.emod_add_emod x Wd y
theorem hi2 (x y a b : Int) (hx0 : 0 ≤ x) (hx : x < Wd) (hy0 : 0 ≤ y) (hy : y < Wd) (ha0 : 0 ≤ a) (ha : a < Wd) (hb0 : 0 ≤ b) (hb : b < Wd) : 0 ≤ hiW (x * y + a + b) ∧ hiW (x * y + a + b) < Wd := by
  have hp : 0 ≤ x * y := Int.mul_nonneg hx0 hy0
  have hq : x * y ≤ (Wd - 1) * (Wd - 1) := Int.mul_le_mul (by omega) (by omega) hy0 (by simp [Wd])
  unfold hiW Wd at *
  constructor <;> omega
theorem run_addc (x y c : Int) (hx : 0 ≤ x) (hy : 0 ≤ y) (hc0 : 0 ≤ c) (hc : c ≤ 1) (w : World) :
    (callFunc 75 #[.int .u64 x, .int .u64 y, .int .u64 c]).run Tryd.prog w = .ok (.value (.tuple #[.int .u64 (loW (x + y + c)), .int .u64 (hiW (x + y + c))])) w := by
  rw [run_callFunc_extern Tryd.func75 (by kernel_rfl) (by kernel_rfl) (by kernel_rfl) (e := add64Entry) (by kernel_rfl), run_add64 x y c hx hy hc0 hc]
  rfl
theorem run_subc (x y b : Int) (hx : 0 ≤ x) (hy : 0 ≤ y) (hx2 : x < Wd) (hy2 : y < Wd) (hb0 : 0 ≤ b) (hb : b ≤ 1) (w : World) :
    (callFunc 147 #[.int .u64 x, .int .u64 y, .int .u64 b]).run Tryd.prog w = .ok (.value (.tuple #[.int .u64 (loW (x - y - b)), .int .u64 (-hiW (x - y - b))])) w := by
  obtain ⟨X, rfl⟩ := Int.eq_ofNat_of_zero_le hx
  obtain ⟨Y, rfl⟩ := Int.eq_ofNat_of_zero_le hy
  obtain ⟨B, rfl⟩ := Int.eq_ofNat_of_zero_le hb0
  rw [run_callFunc_extern Tryd.func147 (by kernel_rfl) (by kernel_rfl) (by kernel_rfl) (e := sub64Entry) (by kernel_rfl), run_sub64 X Y B (by omega)]
  have e1 : (((X + 18446744073709551616 - Y - B) % 18446744073709551616 : Nat) : Int) = loW ((X : Int) - Y - B) := by
    unfold loW Wd at *
    omega
  have e2 : (((if X < Y + B then 1 else 0 : Nat)) : Int) = -hiW ((X : Int) - Y - B) := by
    unfold hiW Wd at *
    split <;> omega
  rw [e1, e2]
  rfl
theorem addc_ex (x y c : Int) (hx : 0 ≤ x) (hx2 : x < Wd) (hy : 0 ≤ y) (hy2 : y < Wd) (hc0 : 0 ≤ c) (hc : c ≤ 1) :
    ∃ s k, Hid (∀ w, (callFunc 75 #[.int .u64 x, .int .u64 y, .int .u64 c]).run Tryd.prog w = .ok (.value (.tuple #[.int .u64 s, .int .u64 k])) w) ∧ Hid (s + Wd * k = x + y + c) ∧ 0 ≤ s ∧ s < Wd ∧ 0 ≤ k ∧ k ≤ 1 := by
  have h := hilo (x + y + c)
  have h2 := loW_in (x + y + c)
  refine ⟨_, _, Lib.hid (run_addc x y c hx hy hc0 hc), Lib.hid (by omega), h2.1, h2.2, ?_, ?_⟩
  · unfold hiW Wd at *; omega
  · unfold hiW Wd at *; omega
theorem subc_ex (x y b : Int) (hx : 0 ≤ x) (hx2 : x < Wd) (hy : 0 ≤ y) (hy2 : y < Wd) (hb0 : 0 ≤ b) (hb : b ≤ 1) :
    ∃ s k, Hid (∀ w, (callFunc 147 #[.int .u64 x, .int .u64 y, .int .u64 b]).run Tryd.prog w = .ok (.value (.tuple #[.int .u64 s, .int .u64 k])) w) ∧ Hid (s - Wd * k = x - y - b) ∧ 0 ≤ s ∧ s < Wd ∧ 0 ≤ k ∧ k ≤ 1 := by
  have h := hilo (x - y - b)
  have h2 := loW_in (x - y - b)
  refine ⟨_, _, Lib.hid (run_subc x y b hx hy hx2 hy2 hb0 hb), Lib.hid (by rw [Int.mul_neg]; omega), h2.1, h2.2, ?_, ?_⟩
  · unfold hiW Wd at *; omega
  · unfold hiW Wd at *; omega
section
variable {P : Program}
end
set_option maxHeartbeats 1000000 in
theorem mul64_nat (x y : Nat) (hx : x < 18446744073709551616) (hy : y < 18446744073709551616) (w : World) :
    Calls Tryd.prog 145 #[.int .u64 x, .int .u64 y] w fun e w' => e = .returned (.tuple #[.int .u64 ((x * y / 18446744073709551616 : Nat) : Int), .int .u64 ((x * y % 18446744073709551616 : Nat) : Int)]) ∧ w' = w := by
  obtain ⟨bd, bt, bw, hhi⟩ := Lib.mul64_hi x y hx hy
  have ba := Lib.half_mul_le (a := x / 4294967296) (b := y / 4294967296) (by omega) (by omega)
  have bb := Lib.half_mul_le (a := x / 4294967296) (b := y % 4294967296) (by omega) (by omega)
  have bc := Lib.half_mul_le (a := x % 4294967296) (b := y / 4294967296) (by omega) (by omega)
  have ba' : x / 4294967296 * (y / 4294967296) < 18446744073709551616 := by omega
  have bb' : x / 4294967296 * (y % 4294967296) < 18446744073709551616 := by omega
  have bc' : x % 4294967296 * (y / 4294967296) < 18446744073709551616 := by omega
  have bh1 : x / 4294967296 * (y / 4294967296) + (x / 4294967296 * (y % 4294967296) + x % 4294967296 * (y % 4294967296) / 4294967296) / 4294967296 < 18446744073709551616 := by omega
  have bh : x / 4294967296 * (y / 4294967296) + (x / 4294967296 * (y % 4294967296) + x % 4294967296 * (y % 4294967296) / 4294967296) / 4294967296 + ((x / 4294967296 * (y % 4294967296) + x % 4294967296 * (y % 4294967296) / 4294967296) % 4294967296 + x % 4294967296 * (y / 4294967296)) / 4294967296 < 18446744073709551616 := by omega
  go_enter Tryd.func145, Tryd.ntmps145
  go_wp2
  simp only [Mul64.maskN x hx, Mul64.maskN y hy, Mul64.divN, Mul64.mulN, Mul64.addN, Mul64.wrapN _ bd, Mul64.wrapN _ bb', Mul64.wrapN _ bt, Mul64.maskN _ bt, Mul64.wrapN _ bc', Mul64.wrapN _ bw, Mul64.wrapN _ ba', Mul64.wrapN _ bh1, Mul64.wrapN _ bh, Mul64.wrapM (x * y)]
  rw [hhi]
  go_ret2
  exact ⟨rfl, rfl⟩
theorem mul64_any (x y : Int) (w : World) (hx0 : 0 ≤ x) (hx : x < Wd) (hy0 : 0 ≤ y) (hy : y < Wd) :
    Calls Tryd.prog 145 #[.int .u64 x, .int .u64 y] w fun e w' => e = .returned (.tuple #[.int .u64 (hiW (x * y)), .int .u64 (loW (x * y))]) ∧ w = w' := by
  obtain ⟨X, rfl⟩ := Int.eq_ofNat_of_zero_le hx0
  obtain ⟨Y, rfl⟩ := Int.eq_ofNat_of_zero_le hy0
  unfold Wd at hx hy
  refine (mul64_nat X Y (by omega) (by omega) w).mono ?_
  rintro e w' ⟨rfl, rfl⟩
  refine ⟨?_, rfl⟩
  unfold hiW loW Wd
  congr 5
/-- As two letters. -/
theorem mul64_ex (x y : Int) (hx0 : 0 ≤ x) (hx : x < Wd) (hy0 : 0 ≤ y) (hy : y < Wd) :
    ∃ h l, Hid (∀ w, Calls Tryd.prog 145 #[.int .u64 x, .int .u64 y] w fun e w' => e = .returned (.tuple #[.int .u64 h, .int .u64 l]) ∧ w = w') ∧ Hid (Wd * h + l = x * y) ∧ 0 ≤ h ∧ h < Wd ∧ 0 ≤ l ∧ l < Wd := by
  have h1 := loW_in (x * y)
  have hp : 0 ≤ x * y := Int.mul_nonneg hx0 hy0
  have hq : x * y ≤ (Wd - 1) * (Wd - 1) := Int.mul_le_mul (by omega) (by omega) hy0 (by simp [Wd])
  refine ⟨_, _, Lib.hid (fun w => mul64_any x y w hx0 hx hy0 hy), Lib.hid (hilo _), ?_, ?_, h1.1, h1.2⟩
  · unfold hiW Wd at *; omega
  · unfold hiW Wd at *; omega
end Go.Proofs.YtialfoccalobpaaDoor

/-! ## FrA -/
namespace Go.Proofs.YtialfoccalobpaaDoor
open Go.RowKit
set_option maxRecDepth 100000 in
set_option maxHeartbeats 1000000 in
theorem fr_mulAdd (x y a b : Int) (w : World) (hx0 : 0 ≤ x) (hx : x < Wd) (hy0 : 0 ≤ y) (hy : y < Wd) (ha0 : 0 ≤ a) (ha : a < Wd) (hb0 : 0 ≤ b) (hb : b < Wd) :
    Calls Tryd.prog 151 #[.int .u64 x, .int .u64 y, .int .u64 a, .int .u64 b] w fun e w' => e = .returned (.tuple #[.int .u64 (hiW (x * y + a + b)), .int .u64 (loW (x * y + a + b))]) ∧ w = w' := by
  obtain ⟨h1, l1, C1, E1, p1, p2, p3, p4⟩ := mul64_ex x y hx0 hx hy0 hy
  obtain ⟨l2, k2, C2, E2, q1, q2, q3, q4⟩ := addc_ex l1 a 0 p3 p4 ha0 ha (by omega) (by omega)
  obtain ⟨l3, k3, C3, E3, r1, r2, r3, r4⟩ := addc_ex l2 b 0 q1 q2 hb0 hb (by omega) (by omega)
  have hf1 : h1 + k2 + k3 = hiW (x * y + a + b) ∧ l3 = loW (x * y + a + b) := by
    have e1 := E1.out
    have e2 := E2.out
    have e3 := E3.out
    have : x * y + a + b = l3 + Wd * (h1 + k2 + k3) := by grind
    rw [this]
    unfold hiW loW
    rw [Int.add_mul_ediv_left _ _ (by simp [Wd]), Int.ediv_eq_zero_of_lt r1 r2, Int.add_mul_emod_self_left, Int.emod_eq_of_lt r1 r2]
    omega
  have hf2 := hi2 x y a b hx0 hx hy0 hy ha0 ha hb0 hb
  have F1 := Lib.hid hf1
  have F2 := Lib.hid hf2
  clear hf1 hf2
  go_enter Tryd.func151, Tryd.ntmps151
  go_wp2_with fail
  refine (C1.out _).mono ?_
  rintro e w' ⟨rfl, rfl⟩
  go_wp2_with (first | rw [C2.out] | rw [C3.out])
  go_ret2
  refine ⟨?_, rfl⟩
  rw [wrapU, wrapU, loW_add, F1.out.1, loW_of F2.out.1 F2.out.2, F1.out.2]
  rfl
end Go.Proofs.YtialfoccalobpaaDoor

/-! ## FrB -/
namespace Go.Proofs.YtialfoccalobpaaDoor
open Go.RowKit
/-- A number as four words. -/
def arr4 (x : Int) : Value := .agg #[.int .u64 (wd x 0), .int .u64 (wd x 1), .int .u64 (wd x 2), .int .u64 (wd x 3)]
theorem wds4 (x : Int) : wds x 4 = [wd x 0, wd x 1, wd x 2, wd x 3] := rfl
theorem nu4 (x : Int) (h0 : 0 ≤ x) (h : x < Wd ^ 4) : x = wd x 0 + Wd * (wd x 1 + Wd * (wd x 2 + Wd * wd x 3)) := by
  have := nu_wds 4 x
  rw [Int.emod_eq_of_lt h0 h, wds4] at this
  simpa [nu] using this.symm
theorem arr4_of (d0 d1 d2 d3 z : Int) (h0 : 0 ≤ d0 ∧ d0 < Wd) (h1 : 0 ≤ d1 ∧ d1 < Wd) (h2 : 0 ≤ d2 ∧ d2 < Wd) (h3 : 0 ≤ d3 ∧ d3 < Wd) (hz : d0 + Wd * (d1 + Wd * (d2 + Wd * d3)) = z) :
    (.agg #[.int .u64 d0, .int .u64 d1, .int .u64 d2, .int .u64 d3] : Value) = arr4 z := by
  have h := wds_nu [d0, d1, d2, d3] (by simp [h0, h1, h2, h3])
  have e : nu [d0, d1, d2, d3] = z := by rw [← hz]; simp [nu]
  rw [e] at h
  have h' : [wd z 0, wd z 1, wd z 2, wd z 3] = [d0, d1, d2, d3] := h
  simp only [List.cons.injEq, and_true] at h'
  obtain ⟨e0, e1, e2, e3⟩ := h'
  unfold arr4
  rw [e0, e1, e2, e3]
set_option maxRecDepth 100000 in
set_option maxHeartbeats 1000000 in
theorem fr_minus0 (x0 x1 x2 x3 y0 y1 y2 y3 : Int) (w : World) (hx0 : 0 ≤ x0 ∧ x0 < Wd) (hx1 : 0 ≤ x1 ∧ x1 < Wd) (hx2 : 0 ≤ x2 ∧ x2 < Wd) (hx3 : 0 ≤ x3 ∧ x3 < Wd)
    (hy0 : 0 ≤ y0 ∧ y0 < Wd) (hy1 : 0 ≤ y1 ∧ y1 < Wd) (hy2 : 0 ≤ y2 ∧ y2 < Wd) (hy3 : 0 ≤ y3 ∧ y3 < Wd) :
    Calls Tryd.prog 128 #[.agg #[.int .u64 x0, .int .u64 x1, .int .u64 x2, .int .u64 x3], .agg #[.int .u64 y0, .int .u64 y1, .int .u64 y2, .int .u64 y3]] w fun e w' =>
      ∃ d0 d1 d2 d3 b, e = .returned (.tuple #[.agg #[.int .u64 d0, .int .u64 d1, .int .u64 d2, .int .u64 d3], .int .u64 b]) ∧ (0 ≤ d0 ∧ d0 < Wd) ∧ (0 ≤ d1 ∧ d1 < Wd) ∧ (0 ≤ d2 ∧ d2 < Wd) ∧ (0 ≤ d3 ∧ d3 < Wd) ∧ (0 ≤ b ∧ b ≤ 1) ∧
        (d0 + Wd * (d1 + Wd * (d2 + Wd * d3)) = x0 + Wd * (x1 + Wd * (x2 + Wd * x3)) - (y0 + Wd * (y1 + Wd * (y2 + Wd * y3))) + Wd * (Wd * (Wd * (Wd * b)))) ∧ Below w.heap.size w w' := by
  obtain ⟨d0, b0, C0, E0, p1, p2, p3, p4⟩ := subc_ex x0 y0 0 hx0.1 hx0.2 hy0.1 hy0.2 (by omega) (by omega)
  obtain ⟨d1, b1, C1, E1, q1, q2, q3, q4⟩ := subc_ex x1 y1 b0 hx1.1 hx1.2 hy1.1 hy1.2 p3 p4
  obtain ⟨d2, b2, C2, E2, r1, r2, r3, r4⟩ := subc_ex x2 y2 b1 hx2.1 hx2.2 hy2.1 hy2.2 q3 q4
  obtain ⟨d3, b3, C3, E3, s1, s2, s3, s4⟩ := subc_ex x3 y3 b2 hx3.1 hx3.2 hy3.1 hy3.2 r3 r4
  have hfin : (0 ≤ d0 ∧ d0 < Wd) ∧ (0 ≤ d1 ∧ d1 < Wd) ∧ (0 ≤ d2 ∧ d2 < Wd) ∧ (0 ≤ d3 ∧ d3 < Wd) ∧ (0 ≤ b3 ∧ b3 ≤ 1) ∧
        (d0 + Wd * (d1 + Wd * (d2 + Wd * d3)) = x0 + Wd * (x1 + Wd * (x2 + Wd * x3)) - (y0 + Wd * (y1 + Wd * (y2 + Wd * y3))) + Wd * (Wd * (Wd * (Wd * b3)))) := by
    refine ⟨⟨p1, p2⟩, ⟨q1, q2⟩, ⟨r1, r2⟩, ⟨s1, s2⟩, ⟨s3, s4⟩, ?_⟩
    have e0 := E0.out
    have e1 := E1.out
    have e2 := E2.out
    have e3 := E3.out
    grind
  have FIN := Lib.hid hfin
  clear hfin E0 E1 E2 E3 hx0 hx1 hx2 hx3 hy0 hy1 hy2 hy3 p1 p2 p3 p4 q1 q2 q3 q4 r1 r2 r3 r4 s1 s2 s3 s4
  have c0 := C0.out
  have c1 := C1.out
  have c2 := C2.out
  have c3 := C3.out
  clear C0 C1 C2 C3
  go_enter Tryd.func128, Tryd.ntmps128
  go_wp2_with fail
  refine wp_loop_rounds 5 ?_
  rw [rounds_succ]
  go_wp2_with fail
  go_region
  go_wp2_with fail
  rw [rounds_succ]
  go_wp2_with fail
  go_region
  go_wp2_with fail
  rw [rounds_succ]
  go_wp2_with fail
  go_region
  go_wp2_with fail
  rw [rounds_succ]
  go_wp2_with fail
  go_region
  go_wp2_with fail
  rw [rounds_succ]
  go_wp2_with fail
  clear c0 c1 c2 c3
  refine bodyPost_ret (v := .tuple #[.agg #[.int .u64 d0, .int .u64 d1, .int .u64 d2, .int .u64 d3], .int .u64 b3]) (by simp [results, Tryd.results128, go_sem]) rfl ⟨d0, d1, d2, d3, b3, rfl, FIN.out.1, FIN.out.2.1, FIN.out.2.2.1, FIN.out.2.2.2.1, FIN.out.2.2.2.2.1, FIN.out.2.2.2.2.2, ?_⟩
  repeat (first | exact Below.refl _ _ | refine Below.drew ?_ | refine Below.alloc ?_ (by simp; try omega) _)
theorem fr_minus_ge (x y : Int) (w : World) (hx0 : 0 ≤ x) (hx : x < Wd ^ 4) (hy0 : 0 ≤ y) (h : y ≤ x) :
    Calls Tryd.prog 128 #[arr4 x, arr4 y] w fun e w' => e = .returned (.tuple #[arr4 (x - y), .int .u64 0]) ∧ Below w.heap.size w w' := by
  have ex := nu4 x hx0 hx
  have ey := nu4 y hy0 (by omega)
  refine (fr_minus0 _ _ _ _ _ _ _ _ w (wd_lo x 0) (wd_lo x 1) (wd_lo x 2) (wd_lo x 3) (wd_lo y 0) (wd_lo y 1) (wd_lo y 2) (wd_lo y 3)).mono ?_
  rintro e w' ⟨d0, d1, d2, d3, b, rfl, h0, h1, h2, h3, hb, he, hB⟩
  rw [← ex, ← ey] at he
  have hb0 : b = 0 := by
    unfold Wd at *
    omega
  subst hb0
  rw [arr4_of d0 d1 d2 d3 (x - y) h0 h1 h2 h3 (by omega)]
  exact ⟨rfl, hB⟩
theorem fr_minus_lt (x y : Int) (w : World) (hx0 : 0 ≤ x) (hy0 : 0 ≤ y) (hy : y < Wd ^ 4) (h : x < y) :
    Calls Tryd.prog 128 #[arr4 x, arr4 y] w fun e w' => e = .returned (.tuple #[arr4 (x - y + Wd ^ 4), .int .u64 1]) ∧ Below w.heap.size w w' := by
  have ex := nu4 x hx0 (by omega)
  have ey := nu4 y hy0 hy
  refine (fr_minus0 _ _ _ _ _ _ _ _ w (wd_lo x 0) (wd_lo x 1) (wd_lo x 2) (wd_lo x 3) (wd_lo y 0) (wd_lo y 1) (wd_lo y 2) (wd_lo y 3)).mono ?_
  rintro e w' ⟨d0, d1, d2, d3, b, rfl, h0, h1, h2, h3, hb, he, hB⟩
  rw [← ex, ← ey] at he
  have hb0 : b = 1 := by
    unfold Wd at *
    omega
  subst hb0
  rw [arr4_of d0 d1 d2 d3 (x - y + Wd ^ 4) h0 h1 h2 h3 (by unfold Wd at *; omega)]
  exact ⟨rfl, hB⟩
theorem bcell {W w1 : World} (hb : Below W.heap.size W w1) : (∀ b o, b < W.heap.size → w1.cell? ⟨b, o, none⟩ = W.cell? ⟨b, o, none⟩) ∧ (∀ b o, b < W.heap.size → w1.frozen? ⟨b, o, none⟩ = W.frozen? ⟨b, o, none⟩) :=
  ⟨fun b o h => hb.cell (p := ⟨b, o, none⟩) h, fun b o h => hb.frozen (p := ⟨b, o, none⟩) h⟩
/-- The modulus. -/
def Mr : Int := 52435875175126190479447740508185965837690552500527637822603658699938581184513
structure GMr (w : World) : Prop where
  c0 : w.cell? ⟨5, 0, none⟩ = some (.int .u64 (wd Mr 0))
  c1 : w.cell? ⟨5, 1, none⟩ = some (.int .u64 (wd Mr 1))
  c2 : w.cell? ⟨5, 2, none⟩ = some (.int .u64 (wd Mr 2))
  c3 : w.cell? ⟨5, 3, none⟩ = some (.int .u64 (wd Mr 3))
set_option maxRecDepth 100000 in
set_option maxHeartbeats 1000000 in
theorem fr_reduced (x : Int) (w : World) (hG : GMr w) (hx0 : 0 ≤ x) (hx : x < 2 * Mr) :
    Calls Tryd.prog 76 #[arr4 x] w fun e w' => e = .returned (arr4 (x % Mr)) ∧ Below w.heap.size w w' := by
  obtain ⟨g0, g1, g2, g3⟩ := hG
  have hb := World.block_lt_of_cell? w _ g0
  have g10 : 0 < w.heap.size := by omega
  have HX := Lib.hid hx
  by_cases hge : Mr ≤ x
  · have hm : x % Mr = x - Mr := by unfold Mr at *; omega
    have HM := Lib.hid hm
    clear hm hx
    unfold arr4
    go_enter Tryd.func76, Tryd.ntmps76
    go_wp2_with fail
    refine (fr_minus_ge x Mr _ hx0 (by have := HX.out; unfold Mr Wd at *; omega) (by simp [Mr]) hge).mono ?_
    rintro e w1 ⟨rfl, hB⟩
    obtain ⟨hc, hf⟩ := bcell hB
    have hz : w.heap.size + 1 < w1.heap.size := by have := hB.size; simp at this; omega
    have hz0 : w.heap.size < w1.heap.size := by omega
    have HB := Lib.hid hB
    clear hB
    unfold arr4
    go_wp2_with fail
    refine bodyPost_ret (v := arr4 (x - Mr)) (by simp [arr4, results, Tryd.results76, go_sem, hc, hz]) rfl ⟨by rw [HM.out]; rfl, ?_⟩
    have hW : Below w.heap.size w w1 := Below.trans (by repeat (first | exact Below.refl _ _ | refine Below.drew ?_ | refine Below.alloc ?_ (by simp; try omega) _)) (HB.out.mono (by simp; try omega))
    repeat (first | exact hW | refine Below.drew ?_ | refine Below.alloc ?_ (by simp; omega) _ | refine Below.setCell ?_ (by simp; try omega) _)
  · have hm : x % Mr = x := by unfold Mr at *; omega
    have HM := Lib.hid hm
    have hlt : x < Mr := by omega
    have HL := Lib.hid hlt
    clear hm hx hge hlt
    unfold arr4
    go_enter Tryd.func76, Tryd.ntmps76
    go_wp2_with fail
    refine (fr_minus_lt x Mr _ hx0 (by simp [Mr]) (by simp [Mr, Wd]) HL.out).mono ?_
    rintro e w1 ⟨rfl, hB⟩
    obtain ⟨hc, hf⟩ := bcell hB
    have hz : w.heap.size + 1 < w1.heap.size := by have := hB.size; simp at this; omega
    have hz0 : w.heap.size < w1.heap.size := by omega
    have HB := Lib.hid hB
    clear hB
    unfold arr4
    go_wp2_with fail
    refine bodyPost_ret (v := arr4 (x)) (by simp [arr4, results, Tryd.results76, go_sem, hc, hz]) rfl ⟨by rw [HM.out]; rfl, ?_⟩
    have hW : Below w.heap.size w w1 := Below.trans (by repeat (first | exact Below.refl _ _ | refine Below.drew ?_ | refine Below.alloc ?_ (by simp; try omega) _)) (HB.out.mono (by simp; try omega))
    repeat (first | exact hW | refine Below.drew ?_ | refine Below.alloc ?_ (by simp; omega) _ | refine Below.setCell ?_ (by simp; try omega) _)
end Go.Proofs.YtialfoccalobpaaDoor

/-! ## FrC -/
namespace Go.Proofs.YtialfoccalobpaaDoor
open Go.RowKit
theorem GMr.keep {w w' : World} (h : GMr w) (hb : Below w.heap.size w w') : GMr w' := by
  have hl := World.block_lt_of_cell? w _ h.c0
  exact ⟨(hb.cell (p := ⟨_, _, none⟩) hl).trans h.c0, (hb.cell (p := ⟨_, 1, none⟩) hl).trans h.c1, (hb.cell (p := ⟨_, 2, none⟩) hl).trans h.c2, (hb.cell (p := ⟨_, 3, none⟩) hl).trans h.c3⟩
theorem add4 (W x0 x1 x2 x3 y0 y1 y2 y3 s0 s1 s2 s3 k0 k1 k2 k3 c : Int) (e0 : s0 + W * k0 = x0 + y0 + c) (e1 : s1 + W * k1 = x1 + y1 + k0) (e2 : s2 + W * k2 = x2 + y2 + k1) (e3 : s3 + W * k3 = x3 + y3 + k2) :
    s0 + W * (s1 + W * (s2 + W * s3)) + W ^ 4 * k3 = x0 + W * (x1 + W * (x2 + W * x3)) + (y0 + W * (y1 + W * (y2 + W * y3))) + c := by grind
theorem bump1 (w : World) (o : Obj) (t : TypeId) (cs : Array Value) : Blk ((w.alloc o).alloc (.cells cs t)) (w.heap.size + 1) t cs := by
  have h := Blk.new (w.alloc o) t cs
  rwa [World.size_alloc] at h
theorem bump2 (w : World) (o o2 : Obj) (t : TypeId) (cs : Array Value) : Blk (((w.alloc o).alloc o2).alloc (.cells cs t)) (w.heap.size + 1 + 1) t cs := by
  have h := Blk.new ((w.alloc o).alloc o2) t cs
  rwa [World.size_alloc, World.size_alloc] at h
theorem bump3 (w : World) (o o2 o3 : Obj) (t : TypeId) (cs : Array Value) : Blk ((((w.alloc o).alloc o2).alloc o3).alloc (.cells cs t)) (w.heap.size + 1 + 1 + 1) t cs := by
  have h := Blk.new (((w.alloc o).alloc o2).alloc o3) t cs
  rwa [World.size_alloc, World.size_alloc, World.size_alloc] at h
/-- Four cells of the call's own behind a call. -/
theorem res4 {W w1 : World} {g : Nat} {t : TypeId} {c0 c1 c2 c3 : Value} (h : Blk W g t #[c0, c1, c2, c3]) (hB : Below W.heap.size W w1) :
    w1.cell? ⟨g, 0, none⟩ = some c0 ∧ w1.cell? ⟨g, 1, none⟩ = some c1 ∧ w1.cell? ⟨g, 2, none⟩ = some c2 ∧ w1.cell? ⟨g, 3, none⟩ = some c3 ∧
    w1.frozen? ⟨g, 0, none⟩ = false ∧ w1.frozen? ⟨g, 1, none⟩ = false ∧ w1.frozen? ⟨g, 2, none⟩ = false ∧ w1.frozen? ⟨g, 3, none⟩ = false ∧ g < w1.heap.size := by
  have h1 := h.keep hB
  exact ⟨h1.at_ rfl, h1.at_ rfl, h1.at_ rfl, h1.at_ rfl, h1.frozen 0, h1.frozen 1, h1.frozen 2, h1.frozen 3, h1.lt⟩
theorem Mr_lo : 0 < Mr ∧ 2 * Mr < Wd ^ 4 := by simp [Mr, Wd]
set_option maxRecDepth 100000 in
set_option maxHeartbeats 2000000 in
theorem fr_add0 (x y : Int) (w : World) (hG : GMr w) (hx0 : 0 ≤ x) (hx : x < Mr) (hy0 : 0 ≤ y) (hy : y < Mr) :
    Calls Tryd.prog 33 #[arr4 x, arr4 y] w fun e w' => e = .returned (arr4 ((x + y) % Mr)) ∧ Below w.heap.size w w' := by
  have hM := Mr_lo
  have ex := nu4 x hx0 (by omega)
  have ey := nu4 y hy0 (by omega)
  obtain ⟨s0, k0, C0, E0, p1, p2, p3, p4⟩ := addc_ex _ _ 0 (wd_lo x 0).1 (wd_lo x 0).2 (wd_lo y 0).1 (wd_lo y 0).2 (by omega) (by omega)
  obtain ⟨s1, k1, C1, E1, q1, q2, q3, q4⟩ := addc_ex _ _ k0 (wd_lo x 1).1 (wd_lo x 1).2 (wd_lo y 1).1 (wd_lo y 1).2 p3 p4
  obtain ⟨s2, k2, C2, E2, r1, r2, r3, r4⟩ := addc_ex _ _ k1 (wd_lo x 2).1 (wd_lo x 2).2 (wd_lo y 2).1 (wd_lo y 2).2 q3 q4
  obtain ⟨s3, k3, C3, E3, t1, t2, t3, t4⟩ := addc_ex _ _ k2 (wd_lo x 3).1 (wd_lo x 3).2 (wd_lo y 3).1 (wd_lo y 3).2 r3 r4
  have hfin : (.agg #[.int .u64 s0, .int .u64 s1, .int .u64 s2, .int .u64 s3] : Value) = arr4 (x + y) := by
    refine arr4_of s0 s1 s2 s3 (x + y) ⟨p1, p2⟩ ⟨q1, q2⟩ ⟨r1, r2⟩ ⟨t1, t2⟩ ?_
    have e := add4 _ _ _ _ _ _ _ _ _ _ _ _ _ _ _ _ _ _ E0.out E1.out E2.out E3.out
    rw [← ex, ← ey, Int.add_zero] at e
    have hk : k3 = 0 := by
      rcases (by omega : k3 = 0 ∨ k3 = 1) with h | h
      · exact h
      · subst h
        unfold Wd at *
        omega
    subst hk
    omega
  have FIN := Lib.hid hfin
  have HX := Lib.hid (show 0 ≤ x + y ∧ x + y < 2 * Mr by omega)
  clear hfin E0 E1 E2 E3 ex ey p1 p2 p3 p4 q1 q2 q3 q4 r1 r2 r3 r4 t1 t2 t3 t4 hx0 hx hy0 hy hM
  have c0 := C0.out
  have c1 := C1.out
  have c2 := C2.out
  have c3 := C3.out
  have HG := Lib.hid hG
  clear C0 C1 C2 C3 hG
  conv => arg 3; unfold arr4
  go_enter Tryd.func33, Tryd.ntmps33
  go_wp2_with fail
  refine wp_loop_rounds 5 ?_
  iterate 4
    rw [rounds_succ]
    go_wp2_with fail
    go_region
    go_wp2_with fail
  rw [rounds_succ]
  go_wp2_with fail
  clear c0 c1 c2 c3
  rw [FIN.out]
  refine (fr_reduced (x + y) _ (HG.out.keep (by repeat (first | exact Below.refl _ _ | refine Below.drew ?_ | refine Below.alloc ?_ (by simp; try omega) _))) HX.out.1 HX.out.2).mono ?_
  rintro e w1 ⟨rfl, hB⟩
  obtain ⟨f0, f1, f2, f3, z0, z1, z2, z3, hg⟩ := res4 (t := 60) (c0 := .int .u64 0) (c1 := .int .u64 0) (c2 := .int .u64 0) (c3 := .int .u64 0) ((bump2 w _ _ _ _).alloc _).drew.drew.drew.drew hB
  have hW : Below w.heap.size w w1 := Below.trans (by repeat (first | exact Below.refl _ _ | refine Below.drew ?_ | refine Below.alloc ?_ (by simp; try omega) _)) (hB.mono (by simp; try omega))
  have HW := Lib.hid hW
  clear hB hW FIN
  unfold arr4
  go_wp2_with fail
  refine bodyPost_ret (v := arr4 ((x + y) % Mr)) (by simp [arr4, results, Tryd.results33, go_sem, f0, f1, f2, f3]) rfl ⟨rfl, ?_⟩
  repeat (first | exact HW.out | refine Below.drew ?_ | refine Below.alloc ?_ (by simp; omega) _ | refine Below.setCell ?_ (by simp; try omega) _)
end Go.Proofs.YtialfoccalobpaaDoor

/-! ## FrD -/
namespace Go.Proofs.YtialfoccalobpaaDoor
open Go.RowKit
set_option maxRecDepth 100000 in
set_option maxHeartbeats 2000000 in
theorem fr_sub_ge (x y : Int) (w : World) (hx0 : 0 ≤ x) (hx : x < Mr) (hy0 : 0 ≤ y) (hge : y ≤ x) :
    Calls Tryd.prog 74 #[arr4 x, arr4 y] w fun e w' => e = .returned (arr4 (x - y)) ∧ Below w.heap.size w w' := by
  have hM := Mr_lo
  have HX := Lib.hid (show x < Wd ^ 4 by omega)
  clear hM
  conv => arg 3; unfold arr4
  go_enter Tryd.func74, Tryd.ntmps74
  go_wp2_with fail
  refine (fr_minus_ge x y _ hx0 HX.out hy0 hge).mono ?_
  rintro e w1 ⟨rfl, hB⟩
  obtain ⟨f0, f1, f2, f3, z0, z1, z2, z3, hg⟩ := res4 (t := 60) (c0 := .int .u64 0) (c1 := .int .u64 0) (c2 := .int .u64 0) (c3 := .int .u64 0) (bump2 w _ _ _ _) hB
  have hW : Below w.heap.size w w1 := Below.trans (by repeat (first | exact Below.refl _ _ | refine Below.drew ?_ | refine Below.alloc ?_ (by simp; try omega) _)) (hB.mono (by simp; try omega))
  have HW := Lib.hid hW
  clear hB hW
  unfold arr4
  go_wp2_with fail
  refine bodyPost_ret (v := arr4 (x - y)) (by simp [arr4, results, Tryd.results74, go_sem, f0, f1, f2, f3, hg]) rfl ⟨rfl, ?_⟩
  repeat (first | exact HW.out | refine Below.drew ?_ | refine Below.alloc ?_ (by simp; omega) _ | refine Below.setCell ?_ (by simp; try omega) _)
set_option maxRecDepth 100000 in
set_option maxHeartbeats 2000000 in
theorem fr_sub_lt (x y : Int) (w : World) (hG : GMr w) (hx0 : 0 ≤ x) (hy0 : 0 ≤ y) (hy : y < Mr) (hlt : x < y) :
    Calls Tryd.prog 74 #[arr4 x, arr4 y] w fun e w' => e = .returned (arr4 (x - y + Mr)) ∧ Below w.heap.size w w' := by
  have hM := Mr_lo
  have HX := Lib.hid (show y < Wd ^ 4 by omega)
  obtain ⟨z, hz⟩ : ∃ z, z = x - y + Wd ^ 4 := ⟨_, rfl⟩
  have ez := nu4 z (by omega) (by omega)
  have em := nu4 Mr (by omega) (by omega)
  obtain ⟨s0, k0, C0, E0, p1, p2, p3, p4⟩ := addc_ex _ _ 0 (wd_lo z 0).1 (wd_lo z 0).2 (wd_lo Mr 0).1 (wd_lo Mr 0).2 (by omega) (by omega)
  obtain ⟨s1, k1, C1, E1, q1, q2, q3, q4⟩ := addc_ex _ _ k0 (wd_lo z 1).1 (wd_lo z 1).2 (wd_lo Mr 1).1 (wd_lo Mr 1).2 p3 p4
  obtain ⟨s2, k2, C2, E2, r1, r2, r3, r4⟩ := addc_ex _ _ k1 (wd_lo z 2).1 (wd_lo z 2).2 (wd_lo Mr 2).1 (wd_lo Mr 2).2 q3 q4
  obtain ⟨s3, k3, C3, E3, t1, t2, t3, t4⟩ := addc_ex _ _ k2 (wd_lo z 3).1 (wd_lo z 3).2 (wd_lo Mr 3).1 (wd_lo Mr 3).2 r3 r4
  have hfin : (.agg #[.int .u64 s0, .int .u64 s1, .int .u64 s2, .int .u64 s3] : Value) = arr4 (x - y + Mr) := by
    refine arr4_of s0 s1 s2 s3 (x - y + Mr) ⟨p1, p2⟩ ⟨q1, q2⟩ ⟨r1, r2⟩ ⟨t1, t2⟩ ?_
    have e := add4 _ _ _ _ _ _ _ _ _ _ _ _ _ _ _ _ _ _ E0.out E1.out E2.out E3.out
    rw [← ez, ← em, Int.add_zero] at e
    have hk : k3 = 1 := by
      rcases (by omega : k3 = 0 ∨ k3 = 1) with h | h
      · subst h
        unfold Wd Mr at *
        omega
      · exact h
    subst hk
    omega
  have FIN := Lib.hid hfin
  have HZ := Lib.hid hz
  clear hz hfin E0 E1 E2 E3 ez em p1 p2 p3 p4 q1 q2 q3 q4 r1 r2 r3 r4 t1 t2 t3 t4 hM hy
  have HG := Lib.hid hG
  clear hG
  conv => arg 3; unfold arr4
  go_enter Tryd.func74, Tryd.ntmps74
  go_wp2_with fail
  refine (fr_minus_lt x y _ hx0 hy0 HX.out hlt).mono ?_
  rintro e w1 ⟨rfl, hB⟩
  rw [← HZ.out]
  obtain ⟨f0, f1, f2, f3, z0, z1, z2, z3, hg⟩ := res4 (t := 60) (c0 := .int .u64 0) (c1 := .int .u64 0) (c2 := .int .u64 0) (c3 := .int .u64 0) (bump2 w _ _ _ _) hB
  have hW : Below w.heap.size w w1 := Below.trans (by repeat (first | exact Below.refl _ _ | refine Below.drew ?_ | refine Below.alloc ?_ (by simp; try omega) _)) (hB.mono (by simp; try omega))
  obtain ⟨g0, g1, g2, g3⟩ := HG.out.keep hW
  have g9 := World.block_lt_of_cell? w1 _ g0
  have g10 : 0 < w1.heap.size := by omega
  have HW := Lib.hid hW
  clear hB hW hlt
  have c0 := C0.out
  have c1 := C1.out
  have c2 := C2.out
  have c3 := C3.out
  clear C0 C1 C2 C3
  unfold arr4
  go_wp2_with fail
  refine wp_loop_rounds 5 ?_
  iterate 4
    rw [rounds_succ]
    go_wp2_with fail
    go_region
    go_wp2_with fail
  rw [rounds_succ]
  go_wp2_with fail
  clear c0 c1 c2 c3
  refine bodyPost_ret (v := .agg #[.int .u64 s0, .int .u64 s1, .int .u64 s2, .int .u64 s3]) (by simp [results, Tryd.results74, go_sem, f0, f1, f2, f3, hg]) rfl ⟨by rw [FIN.out], ?_⟩
  repeat (first | exact HW.out | refine Below.drew ?_ | refine Below.alloc ?_ (by simp; omega) _ | refine Below.setCell ?_ (by simp; try omega) _)
theorem fr_sub0 (x y : Int) (w : World) (hG : GMr w) (hx0 : 0 ≤ x) (hx : x < Mr) (hy0 : 0 ≤ y) (hy : y < Mr) :
    Calls Tryd.prog 74 #[arr4 x, arr4 y] w fun e w' => e = .returned (arr4 ((x - y) % Mr)) ∧ Below w.heap.size w w' := by
  rcases Int.lt_or_le x y with h | h
  · rw [show (x - y) % Mr = x - y + Mr by rw [← Int.add_emod_right]; exact Int.emod_eq_of_lt (by omega) (by omega)]
    exact fr_sub_lt x y w hG hx0 hy0 hy h
  · rw [Int.emod_eq_of_lt (by omega : 0 ≤ x - y) (by omega)]
    exact fr_sub_ge x y w hx0 hx hy0 h
end Go.Proofs.YtialfoccalobpaaDoor

/-! ## Eqn -/
namespace Go.Proofs.YtialfoccalobpaaDoor
open Go.RowKit
section
variable {P : Program}
theorem run_part_int (w : World) (e : TypeId) (k : IntKind) (he : P.underlying e = some (.int k)) (cs : Array Value) (i : Nat) (v : Value) (hv : cs[i]? = some v) : (part e cs i).run P w = .ok v w := by
  have ha : (isAgg e).run P w = .ok false w := by
    unfold isAgg
    rw [Sem.run_bind, run_underlying he w]
    simp
  simp only [part, Sem.run_bind, ha, Result.andThen_ok, Bool.false_eq_true, if_false, hv, Sem.run_pure]
theorem run_equalIn_arr (d : Nat) (w : World) (t e : TypeId) (n : Nat) (k : IntKind) (xs ys : Array Value) (ht : P.underlying t = some (.array n e)) (he : P.underlying e = some (.int k))
    (hs : ∀ w, (sizeOf e).run P w = .ok 1 w) (hx : ∀ i, i < n → ∃ a b, xs[i]? = some (Value.int k a) ∧ ys[i]? = some (Value.int k b)) (r : Bool)
    (hr : r = true ↔ ∀ i, i < n → xs[i]? = ys[i]?) : (Op.equalIn (d + 1 + 1) t (.agg xs) (.agg ys)).run P w = .ok r w := by
  unfold Op.equalIn
  simp only [Sem.run_bind, run_underlying ht, Result.andThen_ok, hs]
  rw [Std.Legacy.Range.forIn_eq_forIn_range']
  have hm : ∀ i ∈ List.range' 0 n 1, i < n := by intro i hi; simp [List.mem_range'] at hi; omega
  have hr' : r = true ↔ ∀ i ∈ List.range' 0 n 1, xs[i]? = ys[i]? := by
    rw [hr]
    constructor
    · intro h i hi; exact h i (hm i hi)
    · intro h i hi; exact h i (by simp [List.mem_range']; omega)
  clear hr
  show (((forIn (List.range' 0 ((n - 0 + 1 - 1) / 1) 1) _ _ : Sem _).run P w).andThen _) = _
  rw [show (n - 0 + 1 - 1) / 1 = n by simp]
  simp only [Nat.mul_one]
  generalize List.range' 0 n 1 = l at hm hr' ⊢
  induction l generalizing r with
  | nil => simp at hr'; subst hr'; simp
  | cons i l ih =>
    obtain ⟨a, b, ha, hb⟩ := hx i (hm i (by simp))
    have hp := run_part_int (P := P) w e k he xs i _ ha
    have hp2 := run_part_int (P := P) w e k he ys i _ hb
    have hq := run_equalIn_int (P := P) w d e k k a b he
    by_cases hab : a = b
    · subst hab
      simp only [List.forIn_cons, Sem.run_bind, hp, hp2, hq, Result.andThen_ok, BEq.rfl, Bool.not_true, Bool.false_eq_true, if_false, Sem.run_pure]
      exact ih r (fun j hj => hm j (by simp [hj])) (by rw [hr']; simp [ha, hb])
    · have hr0 : r = false := by
        cases r with
        | false => rfl
        | true =>
          have := hr'.1 rfl i (by simp)
          rw [ha, hb] at this
          simp at this
          exact absurd this hab
      subst hr0
      have hbe : (a == b) = false := by simpa using hab
      simp [List.forIn_cons, Sem.run_bind, hp, hp2, hq, hbe]
end
end Go.Proofs.YtialfoccalobpaaDoor

/-! ## FrE -/
namespace Go.Proofs.YtialfoccalobpaaDoor
open Go.RowKit
theorem und23 : Tryd.prog.underlying 32 = some (.int .u64) := by kernel_rfl
theorem size23 (w : World) : (sizeOf 32).run Tryd.prog w = .ok 1 w := by kernel_rfl
theorem arr4_zero : arr4 0 = .agg #[.int .u64 0, .int .u64 0, .int .u64 0, .int .u64 0] := rfl
set_option maxRecDepth 100000 in
set_option maxHeartbeats 2000000 in
theorem fr_neg0 (x : Int) (w : World) (hG : GMr w) (hx0 : 0 ≤ x) (hx : x < Mr) :
    Calls Tryd.prog 31 #[arr4 x] w fun e w' => e = .returned (arr4 ((0 - x) % Mr)) ∧ Below w.heap.size w w' := by
  have HG := Lib.hid hG
  clear hG
  have HM := Mr_lo
  obtain ⟨y, hy⟩ : ∃ y, y = (0 - x) % Mr := ⟨_, rfl⟩
  rw [← hy]
  have HY := Lib.hid hy
  clear hy
  conv => arg 3; unfold arr4
  go_enter Tryd.func31, Tryd.ntmps31
  go_wp2_with fail
  rw [← arr4_zero]
  refine (fr_sub0 0 x _ (HG.out.keep (by repeat (first | exact Below.refl _ _ | refine Below.drew ?_ | refine Below.alloc ?_ (by simp; try omega) _))) (by omega) (by omega) hx0 hx).mono ?_
  rintro e w1 ⟨rfl, hB⟩
  obtain ⟨f0, f1, f2, f3, z0, z1, z2, z3, hg⟩ := res4 (t := 60) (c0 := .int .u64 0) (c1 := .int .u64 0) (c2 := .int .u64 0) (c3 := .int .u64 0) (bump1 w _ _ _) hB
  have hW : Below w.heap.size w w1 := Below.trans (by repeat (first | exact Below.refl _ _ | refine Below.drew ?_ | refine Below.alloc ?_ (by simp; try omega) _)) (hB.mono (by simp; try omega))
  have HW := Lib.hid hW
  clear hB hW
  rw [← HY.out]
  unfold arr4
  go_wp2_with fail
  refine bodyPost_ret (v := arr4 y) (by simp [arr4, results, Tryd.results31, go_sem, f0, f1, f2, f3]) rfl ⟨rfl, ?_⟩
  repeat (first | exact HW.out | refine Below.drew ?_ | refine Below.alloc ?_ (by first | assumption | (simp; done) | (simp; omega)) _ | refine Below.setCell ?_ (by simp; try omega) _)
end Go.Proofs.YtialfoccalobpaaDoor

/-! ## FrM -/
namespace Go.Proofs.YtialfoccalobpaaDoor
open Go.RowKit
theorem mulAdd_ex (x y a b : Int) (hx0 : 0 ≤ x) (hx : x < Wd) (hy0 : 0 ≤ y) (hy : y < Wd) (ha0 : 0 ≤ a) (ha : a < Wd) (hb0 : 0 ≤ b) (hb : b < Wd) :
    ∃ h l, Hid (∀ w, Calls Tryd.prog 151 #[.int .u64 x, .int .u64 y, .int .u64 a, .int .u64 b] w fun e w' => e = .returned (.tuple #[.int .u64 h, .int .u64 l]) ∧ w = w') ∧ Hid (Wd * h + l = x * y + a + b) ∧ 0 ≤ h ∧ h < Wd ∧ 0 ≤ l ∧ l < Wd := by
  have h1 := loW_in (x * y + a + b)
  have h2 := hi2 x y a b hx0 hx hy0 hy ha0 ha hb0 hb
  exact ⟨_, _, Lib.hid (fun w => fr_mulAdd x y a b w hx0 hx hy0 hy ha0 ha hb0 hb), Lib.hid (hilo _), h2.1, h2.2, h1.1, h1.2⟩
/-- What R times is 1. -/
def Rir : Int := 12549076656233958353659347336803947287922716146853412054870763148006372261952
theorem Rir_ok : Wd ^ 4 * Rir % Mr = 1 := by decide +kernel
/-- One word of a product: the numbers. -/
theorem mont_round (M v y s t s' : Int) (y0 y1 y2 y3 m0 m1 m2 m3 s0 s1 s2 s3 h0 l0 h1 l1 h2 l2 h3 l3 c0 d0 c1 d1 c2 d2 c3 d3 : Int)
    (hy : y = y0 + Wd * (y1 + Wd * (y2 + Wd * y3))) (hm : M = m0 + Wd * (m1 + Wd * (m2 + Wd * m3))) (hs : s = s0 + Wd * (s1 + Wd * (s2 + Wd * s3)))
    (e0 : Wd * h0 + l0 = v * y0 + s0 + 0) (f0 : Wd * c0 + d0 = t * m0 + l0 + 0) (hd : d0 = 0)
    (e1 : Wd * h1 + l1 = v * y1 + s1 + h0) (f1 : Wd * c1 + d1 = t * m1 + l1 + c0)
    (e2 : Wd * h2 + l2 = v * y2 + s2 + h1) (f2 : Wd * c2 + d2 = t * m2 + l2 + c1)
    (e3 : Wd * h3 + l3 = v * y3 + s3 + h2) (f3 : Wd * c3 + d3 = t * m3 + l3 + c2) (hs' : s' = d1 + Wd * (d2 + Wd * (d3 + Wd * (h3 + c3)))) :
    s' * Wd = s + v * y + t * M := by
  subst hy hm hs hs' hd
  obtain rfl : l0 = Wd * c0 - t * m0 := by omega
  obtain rfl : l1 = Wd * c1 + d1 - t * m1 - c0 := by omega
  obtain rfl : l2 = Wd * c2 + d2 - t * m2 - c1 := by omega
  obtain rfl : l3 = Wd * c3 + d3 - t * m3 - c2 := by omega
  obtain rfl : s0 = Wd * h0 + (Wd * c0 - t * m0) - v * y0 := by omega
  obtain rfl : s1 = Wd * h1 + (Wd * c1 + d1 - t * m1 - c0) - v * y1 - h0 := by omega
  obtain rfl : s2 = Wd * h2 + (Wd * c2 + d2 - t * m2 - c1) - v * y2 - h1 := by omega
  obtain rfl : s3 = Wd * h3 + (Wd * c3 + d3 - t * m3 - c2) - v * y3 - h2 := by omega
  clear e0 e1 e2 e3 f0 f1 f2 f3
  grind
theorem low_nought (t l c d : Int) (ht : t = loW (l * 18446744069414584319)) (h : Wd * c + d = t * wd Mr 0 + l + 0) (d0 : 0 ≤ d) (d1 : d < Wd) : d = 0 := by
  have hm : wd Mr 0 = 18446744069414584321 := by decide +kernel
  rw [hm] at h
  unfold loW at ht
  have h2 := Int.mul_ediv_add_emod (l * 18446744069414584319) Wd
  unfold Wd at *
  omega
theorem wd_pos : (0 : Int) < Wd := by simp [Wd]
theorem idx4_0 (a b c d : Int) (u : World) : (Instr.index 58 (.agg #[.int .u64 a, .int .u64 b, .int .u64 c, .int .u64 d]) (.int .i64 0)).run Tryd.prog u = .ok (.int .u64 a) u := by kernel_rfl
theorem idx4_1 (a b c d : Int) (u : World) : (Instr.index 58 (.agg #[.int .u64 a, .int .u64 b, .int .u64 c, .int .u64 d]) (.int .i64 1)).run Tryd.prog u = .ok (.int .u64 b) u := by kernel_rfl
theorem idx4_2 (a b c d : Int) (u : World) : (Instr.index 58 (.agg #[.int .u64 a, .int .u64 b, .int .u64 c, .int .u64 d]) (.int .i64 2)).run Tryd.prog u = .ok (.int .u64 c) u := by kernel_rfl
theorem idx4_3 (a b c d : Int) (u : World) : (Instr.index 58 (.agg #[.int .u64 a, .int .u64 b, .int .u64 c, .int .u64 d]) (.int .i64 3)).run Tryd.prog u = .ok (.int .u64 d) u := by kernel_rfl
/-- The world in a product's rounds: the two factors, the result's cells, the sum. -/
structure LW (w : World) (y : Int) (wr : World) (s0 s1 s2 s3 : Int) : Prop where
  be : Below w.heap.size w wr
  by_ : Blk wr (w.heap.size + 1) 60 #[.int .u64 (wd y 0), .int .u64 (wd y 1), .int .u64 (wd y 2), .int .u64 (wd y 3)]
  br : Blk wr (w.heap.size + 1 + 1) 60 #[.int .u64 0, .int .u64 0, .int .u64 0, .int .u64 0]
  bs : Blk wr (w.heap.size + 1 + 1 + 1) 58 #[.int .u64 s0, .int .u64 s1, .int .u64 s2, .int .u64 s3]
theorem LW.drewN {w : World} {y : Int} {wr : World} {s0 s1 s2 s3 : Int} (h : LW w y wr s0 s1 s2 s3) (n : Nat) : LW w y (wr.drewN n) s0 s1 s2 s3 :=
  ⟨below_drewN h.be n, h.by_.drewN n, h.br.drewN n, h.bs.drewN n⟩
theorem LW.set0 {w : World} {y : Int} {wr : World} {s0 s1 s2 s3 : Int} (h : LW w y wr s0 s1 s2 s3) (v : Int) : LW w y (wr.setCell ⟨w.heap.size + 1 + 1 + 1, 0, none⟩ (.int .u64 v)) v s1 s2 s3 :=
  ⟨h.be.setCell (by simp; omega) _, h.by_.far (by simp) _, h.br.far (by simp) _, h.bs.set_ 0 _⟩
theorem LW.set1 {w : World} {y : Int} {wr : World} {s0 s1 s2 s3 : Int} (h : LW w y wr s0 s1 s2 s3) (v : Int) : LW w y (wr.setCell ⟨w.heap.size + 1 + 1 + 1, 1, none⟩ (.int .u64 v)) s0 v s2 s3 :=
  ⟨h.be.setCell (by simp; omega) _, h.by_.far (by simp) _, h.br.far (by simp) _, h.bs.set_ 1 _⟩
theorem LW.set2 {w : World} {y : Int} {wr : World} {s0 s1 s2 s3 : Int} (h : LW w y wr s0 s1 s2 s3) (v : Int) : LW w y (wr.setCell ⟨w.heap.size + 1 + 1 + 1, 2, none⟩ (.int .u64 v)) s0 s1 v s3 :=
  ⟨h.be.setCell (by simp; omega) _, h.by_.far (by simp) _, h.br.far (by simp) _, h.bs.set_ 2 _⟩
theorem LW.set3 {w : World} {y : Int} {wr : World} {s0 s1 s2 s3 : Int} (h : LW w y wr s0 s1 s2 s3) (v : Int) : LW w y (wr.setCell ⟨w.heap.size + 1 + 1 + 1, 3, none⟩ (.int .u64 v)) s0 s1 s2 v :=
  ⟨h.be.setCell (by simp; omega) _, h.by_.far (by simp) _, h.br.far (by simp) _, h.bs.set_ 3 _⟩
/-- The cells of the world, for a walk. -/
theorem LW.cells {w : World} {y : Int} {wr : World} {s0 s1 s2 s3 : Int} (h : LW w y wr s0 s1 s2 s3) (hG : GMr w) :
    (wr.cell? ⟨w.heap.size + 1, 0, none⟩ = some (.int .u64 (wd y 0)) ∧ wr.cell? ⟨w.heap.size + 1, 1, none⟩ = some (.int .u64 (wd y 1)) ∧ wr.cell? ⟨w.heap.size + 1, 2, none⟩ = some (.int .u64 (wd y 2)) ∧ wr.cell? ⟨w.heap.size + 1, 3, none⟩ = some (.int .u64 (wd y 3))) ∧
    (wr.cell? ⟨w.heap.size + 1 + 1 + 1, 0, none⟩ = some (.int .u64 s0) ∧ wr.cell? ⟨w.heap.size + 1 + 1 + 1, 1, none⟩ = some (.int .u64 s1) ∧ wr.cell? ⟨w.heap.size + 1 + 1 + 1, 2, none⟩ = some (.int .u64 s2) ∧ wr.cell? ⟨w.heap.size + 1 + 1 + 1, 3, none⟩ = some (.int .u64 s3)) ∧
    (wr.frozen? ⟨w.heap.size + 1 + 1 + 1, 0, none⟩ = false ∧ wr.frozen? ⟨w.heap.size + 1 + 1 + 1, 1, none⟩ = false ∧ wr.frozen? ⟨w.heap.size + 1 + 1 + 1, 2, none⟩ = false ∧ wr.frozen? ⟨w.heap.size + 1 + 1 + 1, 3, none⟩ = false) ∧
    (wr.cell? ⟨5, 0, none⟩ = some (.int .u64 (wd Mr 0)) ∧ wr.cell? ⟨5, 1, none⟩ = some (.int .u64 (wd Mr 1)) ∧ wr.cell? ⟨5, 2, none⟩ = some (.int .u64 (wd Mr 2)) ∧ wr.cell? ⟨5, 3, none⟩ = some (.int .u64 (wd Mr 3))) :=
  have g := hG.keep h.be
  ⟨⟨h.by_.at_ rfl, h.by_.at_ rfl, h.by_.at_ rfl, h.by_.at_ rfl⟩, ⟨h.bs.at_ rfl, h.bs.at_ rfl, h.bs.at_ rfl, h.bs.at_ rfl⟩, ⟨h.bs.frozen 0, h.bs.frozen 1, h.bs.frozen 2, h.bs.frozen 3⟩, ⟨g.c0, g.c1, g.c2, g.c3⟩⟩
/-- The first k words. -/
def xk (x : Int) : Nat → Int
  | 0 => 0
  | k + 1 => xk x k + Wd ^ k * wd x k
theorem xk4 (x : Int) (h0 : 0 ≤ x) (h : x < Wd ^ 4) : xk x 4 = x := by
  have := nu4 x h0 h
  simp only [xk]
  grind
/-- The sum behind k words. -/
structure MR (x y : Int) (k : Nat) (s0 s1 s2 s3 : Int) : Prop where
  b0 : 0 ≤ s0 ∧ s0 < Wd
  b1 : 0 ≤ s1 ∧ s1 < Wd
  b2 : 0 ≤ s2 ∧ s2 < Wd
  b3 : 0 ≤ s3 ∧ s3 < Wd
  lo : 0 ≤ s0 + Wd * (s1 + Wd * (s2 + Wd * s3)) ∧ s0 + Wd * (s1 + Wd * (s2 + Wd * s3)) < 2 * Mr
  dv : Mr ∣ (s0 + Wd * (s1 + Wd * (s2 + Wd * s3))) * Wd ^ k - xk x k * y
theorem MR.zero (x y : Int) : MR x y 0 0 0 0 0 := by
  have := wd_pos
  refine ⟨⟨by omega, this⟩, ⟨by omega, this⟩, ⟨by omega, this⟩, ⟨by omega, this⟩, ?_, ?_⟩
  · simp [Mr]
  · simp [xk]
theorem dvd_round (M s v y t s' W P X : Int) (h : M ∣ s * P - X * y) (he : s' * W = s + v * y + t * M) : M ∣ s' * (P * W) - (X + P * v) * y := by
  obtain ⟨q, hq⟩ := h
  refine ⟨q + t * P, ?_⟩
  have e1 : s' * (P * W) = P * (s + v * y + t * M) := by rw [← he]; grind
  have e2 : s * P = M * q + X * y := by omega
  rw [e1]
  grind
theorem MR.step (x y : Int) (k : Nat) (s0 s1 s2 s3 d1 d2 d3 z t : Int) (h : MR x y k s0 s1 s2 s3) (hy0 : 0 ≤ y) (hy : y < Mr) (ht : 0 ≤ t ∧ t < Wd) (q1 : 0 ≤ d1 ∧ d1 < Wd) (q2 : 0 ≤ d2 ∧ d2 < Wd) (q3 : 0 ≤ d3 ∧ d3 < Wd) (hz : 0 ≤ z)
    (he : (d1 + Wd * (d2 + Wd * (d3 + Wd * z))) * Wd = s0 + Wd * (s1 + Wd * (s2 + Wd * s3)) + wd x k * y + t * Mr) : MR x y (k + 1) d1 d2 d3 z ∧ z < Wd := by
  have hb := mont_bound Mr Wd _ (wd x k) y t _ wd_pos h.lo.1 h.lo.2 (wd_lo x k).1 (wd_lo x k).2 hy0 hy ht.1 ht.2 he
  have hz2 : z < Wd := by
    have h2 := hb.2
    unfold Wd Mr at *
    omega
  refine ⟨⟨q1, q2, q3, ⟨hz, hz2⟩, hb, ?_⟩, hz2⟩
  rw [Int.pow_succ]
  exact dvd_round _ _ _ _ _ _ _ _ _ h.dv he
set_option maxRecDepth 100000 in
set_option maxHeartbeats 4000000 in
theorem fr_mul0 (x y : Int) (w : World) (hG : GMr w) (hx0 : 0 ≤ x) (hx : x < Wd ^ 4) (hy0 : 0 ≤ y) (hy : y < Mr) :
    Calls Tryd.prog 122 #[arr4 x, arr4 y] w fun e w' => e = .returned (arr4 (x * y * Rir % Mr)) ∧ Below w.heap.size w w' := by
  have HG := Lib.hid hG
  obtain ⟨g0, g1, g2, g3⟩ := hG
  have g9 := World.block_lt_of_cell? w _ g0
  have g10 : 0 < w.heap.size := by omega
  have HX := Lib.hid hx
  have HY := Lib.hid hy
  have HX0 := Lib.hid hx0
  have HY0 := Lib.hid hy0
  clear hx hy hx0 hy0
  conv => arg 3; unfold arr4
  go_enter Tryd.func122, Tryd.ntmps122
  go_wp2_with fail
  have hI : LW w y ((((w.alloc (Obj.cells #[Value.int IntKind.u64 (wd x 0), Value.int IntKind.u64 (wd x 1), Value.int IntKind.u64 (wd x 2), Value.int IntKind.u64 (wd x 3)] 60)).alloc (Obj.cells #[Value.int IntKind.u64 (wd y 0), Value.int IntKind.u64 (wd y 1), Value.int IntKind.u64 (wd y 2), Value.int IntKind.u64 (wd y 3)] 60)).alloc (Obj.cells #[Value.int IntKind.u64 0, Value.int IntKind.u64 0, Value.int IntKind.u64 0, Value.int IntKind.u64 0] 60)).alloc (Obj.cells #[Value.int IntKind.u64 0, Value.int IntKind.u64 0, Value.int IntKind.u64 0, Value.int IntKind.u64 0] 58)) 0 0 0 0 :=
    ⟨by repeat (first | exact Below.refl _ _ | refine Below.drew ?_ | refine Below.alloc ?_ (by simp; try omega) _), ((bump1 w _ _ _).alloc _).alloc _, (bump2 w _ _ _ _).alloc _, bump3 w _ _ _ _ _⟩
  have HI := Lib.hid hI
  clear hI
  go_loopw [7, 8, 9, 10, 11, 12, 13, 16] (fun _ _ _ _ _ _ _ cnt wr => ∃ (k : Nat) (s0 s1 s2 s3 : Int), k ≤ 4 ∧ cnt = .int .i64 k ∧ LW w y wr s0 s1 s2 s3 ∧ MR x y k s0 s1 s2 s3) (fun _ _ _ _ _ _ _ cnt _ => 4 - (intOf cnt).toNat)
  case atStart => exact ⟨0, 0, 0, 0, 0, Nat.zero_le _, rfl, HI.out, MR.zero x y⟩
  case round =>
    obtain ⟨k, s0, s1, s2, s3, hk, rfl, hL, hR⟩ := hrel
    clear HI g0 g1 g2 g3 g9
    have L0 := Lib.hid hL
    clear hL
    by_cases hlt : k < 4
    · have hidx : ∀ u : World, (Instr.index 58 (.agg #[.int .u64 (wd x 0), .int .u64 (wd x 1), .int .u64 (wd x 2), .int .u64 (wd x 3)]) (.int .i64 (k : Int))).run Tryd.prog u = .ok (.int .u64 (wd x k)) u := by
        intro u
        match k, hlt with
        | 0, _ => exact idx4_0 _ _ _ _ u
        | 1, _ => exact idx4_1 _ _ _ _ u
        | 2, _ => exact idx4_2 _ _ _ _ u
        | 3, _ => exact idx4_3 _ _ _ _ u
      have v1 := (wd_lo x k).1
      have v2 := (wd_lo x k).2
      have b0 := hR.b0
      have b1 := hR.b1
      have b2 := hR.b2
      have b3 := hR.b3
      obtain ⟨v, hv⟩ : ∃ v, v = wd x k := ⟨_, rfl⟩
      rw [← hv] at hidx v1 v2
      obtain ⟨h0, l0, A0, E0, a1, a2, a3, a4⟩ := mulAdd_ex v (wd y 0) s0 0 v1 v2 (wd_lo y 0).1 (wd_lo y 0).2 b0.1 b0.2 (by omega) wd_pos
      obtain ⟨t, ht⟩ : ∃ t, t = loW (l0 * 18446744069414584319) := ⟨_, rfl⟩
      have t1 : 0 ≤ t := by rw [ht]; exact (loW_in _).1
      have t2 : t < Wd := by rw [ht]; exact (loW_in _).2
      have hwt : IntKind.u64.wrap (l0 * 18446744069414584319) = t := by rw [wrapU, ht]
      obtain ⟨c0, d0, B0, F0, a5, a6, a7, a8⟩ := mulAdd_ex t (wd Mr 0) l0 0 t1 t2 (wd_lo Mr 0).1 (wd_lo Mr 0).2 a3 a4 (by omega) wd_pos
      have hd0 : d0 = 0 := low_nought t l0 c0 d0 ht F0.out a7 a8
      obtain ⟨h1, l1, A1, E1, h11, h12, h13, h14⟩ := mulAdd_ex v (wd y 1) s1 h0 v1 v2 (wd_lo y 1).1 (wd_lo y 1).2 b1.1 b1.2 a1 a2
      obtain ⟨c1, d1, B1, F1, k11, k12, k13, k14⟩ := mulAdd_ex t (wd Mr 1) l1 c0 t1 t2 (wd_lo Mr 1).1 (wd_lo Mr 1).2 h13 h14 a5 a6
      obtain ⟨h2, l2, A2, E2, h21, h22, h23, h24⟩ := mulAdd_ex v (wd y 2) s2 h1 v1 v2 (wd_lo y 2).1 (wd_lo y 2).2 b2.1 b2.2 h11 h12
      obtain ⟨c2, d2, B2, F2, k21, k22, k23, k24⟩ := mulAdd_ex t (wd Mr 2) l2 c1 t1 t2 (wd_lo Mr 2).1 (wd_lo Mr 2).2 h23 h24 k11 k12
      obtain ⟨h3, l3, A3, E3, h31, h32, h33, h34⟩ := mulAdd_ex v (wd y 3) s3 h2 v1 v2 (wd_lo y 3).1 (wd_lo y 3).2 b3.1 b3.2 h21 h22
      obtain ⟨c3, d3, B3, F3, k31, k32, k33, k34⟩ := mulAdd_ex t (wd Mr 3) l3 c2 t1 t2 (wd_lo Mr 3).1 (wd_lo Mr 3).2 h33 h34 k21 k22

      have hst : ∀ z, 0 ≤ z → z = h3 + c3 → MR x y (k + 1) d1 d2 d3 z ∧ z < Wd := fun z z0 hz => by
        refine hR.step x y k s0 s1 s2 s3 d1 d2 d3 z t HY0.out HY.out ⟨t1, t2⟩ ⟨k13, k14⟩ ⟨k23, k24⟩ ⟨k33, k34⟩ z0 ?_
        have hM := Mr_lo
        rw [← hv]
        exact mont_round Mr v y _ t _ _ _ _ _ _ _ _ _ s0 s1 s2 s3 _ _ _ _ _ _ _ _ _ _ _ _ _ _ _ _ (nu4 y HY0.out (by have := HY.out; omega)) (nu4 Mr (by omega) (by omega)) rfl E0.out F0.out hd0 E1.out F1.out E2.out F2.out E3.out F3.out (by rw [hz])
      obtain ⟨hst1, hst2⟩ := hst (h3 + c3) (by omega) rfl
      have hwa : IntKind.u64.wrap (h3 + c3) = h3 + c3 := by rw [wrapU]; exact loW_of (by omega) hst2
      obtain ⟨z, hz⟩ : ∃ z, z = h3 + c3 := ⟨_, rfl⟩
      have hwz : IntKind.u64.wrap (h3 + c3) = z := by rw [hwa, hz]
      rw [← hz] at hst1
      subst hd0
      have HR := Lib.hid hst1
      clear hst hst1 hst2 hwa hz hv hR E0 E1 E2 E3 F0 F1 F2 F3 hk a1 a2 a3 a4 a5 a6 a7 a8 t1 t2 v1 v2 b0 b1 b2 b3 ht h11 h12 h13 h14 k11 k12 k13 k14 h21 h22 h23 h24 k21 k22 k23 k24 h31 h32 h33 h34 k31 k32 k33 k34
      have i1 : (k : Int) < 4 := by omega
      obtain ⟨w0, hw0⟩ : ∃ W, W = wr := ⟨_, rfl⟩
      subst hw0
      obtain ⟨⟨y0, y1, y2, y3⟩, ⟨r0, r1, r2, r3⟩, ⟨z0, z1, z2, z3⟩, ⟨g0, g1, g2, g3⟩⟩ := L0.out.cells HG.out
      go_wp2_with fail
      refine (A0.out _).mono ?_
      rintro e w' ⟨rfl, rfl⟩
      go_wp2_with fail
      refine (B0.out _).mono ?_
      rintro e w' ⟨rfl, rfl⟩
      go_wp2_with fail
      refine wp_loop_rounds 4 ?_
      rw [rounds_succ]
      go_wp2_with fail
      go_quiet ((go_at_call 151; exact quiet_left (A1.out _)))
      go_wp2_with fail
      refine (B1.out _).mono ?_
      rintro e w' ⟨rfl, rfl⟩
      go_wp2_with fail
      have L1 := Lib.hid ((L0.out.drewN nq).set0 d1)
      obtain ⟨w1, hw1⟩ : ∃ W, W = (w0.drewN nq).setCell ⟨w.heap.size + 1 + 1 + 1, 0, none⟩ (.int .u64 d1) := ⟨_, rfl⟩
      rw [← hw1] at L1 ⊢
      clear hw1 L0 y0 y1 y2 y3 r0 r1 r2 r3 z0 z1 z2 z3 g0 g1 g2 g3
      obtain ⟨⟨y0, y1, y2, y3⟩, ⟨r0, r1, r2, r3⟩, ⟨z0, z1, z2, z3⟩, ⟨g0, g1, g2, g3⟩⟩ := L1.out.cells HG.out
      rw [rounds_succ]
      go_wp2_with fail
      go_quiet ((go_at_call 151; exact quiet_left (A2.out _)))
      go_wp2_with fail
      refine (B2.out _).mono ?_
      rintro e w' ⟨rfl, rfl⟩
      go_wp2_with fail
      have L2 := Lib.hid ((L1.out.drewN nq).set1 d2)
      obtain ⟨w2, hw2⟩ : ∃ W, W = (w1.drewN nq).setCell ⟨w.heap.size + 1 + 1 + 1, 1, none⟩ (.int .u64 d2) := ⟨_, rfl⟩
      rw [← hw2] at L2 ⊢
      clear hw2 L1 y0 y1 y2 y3 r0 r1 r2 r3 z0 z1 z2 z3 g0 g1 g2 g3
      obtain ⟨⟨y0, y1, y2, y3⟩, ⟨r0, r1, r2, r3⟩, ⟨z0, z1, z2, z3⟩, ⟨g0, g1, g2, g3⟩⟩ := L2.out.cells HG.out
      rw [rounds_succ]
      go_wp2_with fail
      go_quiet ((go_at_call 151; exact quiet_left (A3.out _)))
      go_wp2_with fail
      refine (B3.out _).mono ?_
      rintro e w' ⟨rfl, rfl⟩
      go_wp2_with fail
      have L3 := Lib.hid ((L2.out.drewN nq).set2 d3)
      obtain ⟨w3, hw3⟩ : ∃ W, W = (w2.drewN nq).setCell ⟨w.heap.size + 1 + 1 + 1, 2, none⟩ (.int .u64 d3) := ⟨_, rfl⟩
      rw [← hw3] at L3 ⊢
      clear hw3 L2 y0 y1 y2 y3 r0 r1 r2 r3 z0 z1 z2 z3 g0 g1 g2 g3
      obtain ⟨⟨y0, y1, y2, y3⟩, ⟨r0, r1, r2, r3⟩, ⟨z0, z1, z2, z3⟩, ⟨g0, g1, g2, g3⟩⟩ := L3.out.cells HG.out
      rw [rounds_succ]
      go_wp2_with fail
      exact ⟨⟨k + 1, d1, d2, d3, z, by omega, by go_num, L3.out.set3 z, HR.out⟩, by simp [intOf]; omega⟩
    · obtain rfl : k = 4 := by omega
      obtain ⟨S, hS⟩ : ∃ S, S = s0 + Wd * (s1 + Wd * (s2 + Wd * s3)) := ⟨_, rfl⟩
      have hagg := arr4_of s0 s1 s2 s3 S hR.b0 hR.b1 hR.b2 hR.b3 hS.symm
      have hlo := hR.lo
      have hdv := hR.dv
      rw [← hS, xk4 x HX0.out HX.out] at hdv
      rw [← hS] at hlo
      have hfin : S % Mr = x * y * Rir % Mr := by
        have hM := Mr_lo
        refine mont_fin Mr (Wd ^ 4) Rir x y (S % Mr) Rir_ok (Int.emod_nonneg _ (by omega)) (Int.emod_lt_of_pos _ (by omega)) ?_
        obtain ⟨q, hq⟩ := hdv
        have e := Int.mul_ediv_add_emod S Mr
        refine ⟨q - (S / Mr) * Wd ^ 4, ?_⟩
        have e2 : S % Mr = S - Mr * (S / Mr) := by omega
        rw [e2]
        grind
      have AG := Lib.hid hagg
      have FN := Lib.hid hfin
      have LO := Lib.hid hlo
      clear hR hagg hfin hlo hdv hS hk hlt
      obtain ⟨⟨y0, y1, y2, y3⟩, ⟨r0, r1, r2, r3⟩, ⟨z0, z1, z2, z3⟩, ⟨g0, g1, g2, g3⟩⟩ := L0.out.cells HG.out
      have j1 : decide (((4 : Nat) : Int) < 4) = false := by decide
      go_wp2_with fail
      rw [AG.out]
      refine (fr_reduced S _ (HG.out.keep L0.out.be) LO.out.1 LO.out.2).mono ?_
      rintro e w1 ⟨rfl, hB⟩
      rw [FN.out]
      clear y0 y1 y2 y3 r0 r1 r2 r3 z0 z1 z2 z3 g0 g1 g2 g3
      obtain ⟨f0, f1, f2, f3, z0, z1, z2, z3, hg⟩ := res4 L0.out.br hB
      have hW : Below w.heap.size w w1 := L0.out.be.trans (hB.mono L0.out.be.size)
      have HW := Lib.hid hW
      clear hB hW
      obtain ⟨Z, hZ⟩ : ∃ Z, Z = x * y * Rir % Mr := ⟨_, rfl⟩
      rw [← hZ]
      have HZ := Lib.hid hZ
      clear hZ
      unfold arr4
      go_wp2_with fail
      refine bodyPost_ret (v := arr4 Z) (by simp [arr4, results, Tryd.results122, go_sem, f0, f1, f2, f3]) rfl ⟨by rw [HZ.out], ?_⟩
      repeat (first | exact HW.out | refine Below.drew ?_ | refine Below.alloc ?_ (by first | assumption | (simp; done) | (simp; omega)) _ | refine Below.setCell ?_ (by simp; try omega) _)
end Go.Proofs.YtialfoccalobpaaDoor

/-! ## FrF -/
namespace Go.Proofs.YtialfoccalobpaaDoor
open Go.RowKit
/-- The element of a number. -/
def fv (x : Int) : Value := arr4 (fe Mr (Wd ^ 4) x)
theorem fe_in (x : Int) : 0 ≤ fe Mr (Wd ^ 4) x ∧ fe Mr (Wd ^ 4) x < Mr := fe_lo Mr_lo.1 x
theorem fv_cast {x y : Int} (h : x % Mr = y % Mr) : fv x = fv y := by unfold fv; rw [(fe_inj Rir_ok).2 h]
structure GSq (w : World) : Prop where
  c0 : w.cell? ⟨7, 0, none⟩ = some (.int .u64 (wd (fe Mr (Wd ^ 4) (Wd ^ 4)) 0))
  c1 : w.cell? ⟨7, 1, none⟩ = some (.int .u64 (wd (fe Mr (Wd ^ 4) (Wd ^ 4)) 1))
  c2 : w.cell? ⟨7, 2, none⟩ = some (.int .u64 (wd (fe Mr (Wd ^ 4) (Wd ^ 4)) 2))
  c3 : w.cell? ⟨7, 3, none⟩ = some (.int .u64 (wd (fe Mr (Wd ^ 4) (Wd ^ 4)) 3))
theorem GSq.keep {w w' : World} (h : GSq w) (hb : Below w.heap.size w w') : GSq w' := by
  have hl := World.block_lt_of_cell? w _ h.c0
  exact ⟨(hb.cell (p := ⟨_, _, none⟩) hl).trans h.c0, (hb.cell (p := ⟨_, 1, none⟩) hl).trans h.c1, (hb.cell (p := ⟨_, 2, none⟩) hl).trans h.c2, (hb.cell (p := ⟨_, 3, none⟩) hl).trans h.c3⟩
theorem fr_add (x y : Int) (w : World) (hG : GMr w) : Calls Tryd.prog 33 #[fv x, fv y] w fun e w' => e = .returned (fv (x + y)) ∧ Below w.heap.size w w' := by
  have h := fr_add0 _ _ w hG (fe_in x).1 (fe_in x).2 (fe_in y).1 (fe_in y).2
  rwa [fe_add] at h
theorem fe_zero : fe Mr (Wd ^ 4) 0 = 0 := by simp [fe]
theorem fr_neg (x : Int) (w : World) (hG : GMr w) : Calls Tryd.prog 31 #[fv x] w fun e w' => e = .returned (fv (-x)) ∧ Below w.heap.size w w' := by
  have h := fr_neg0 _ w hG (fe_in x).1 (fe_in x).2
  rw [← fe_zero, fe_sub, Int.zero_sub] at h
  exact h
theorem arr4_small (n : Int) (h0 : 0 ≤ n) (h : n < Wd) : (.agg #[.int .u64 n, .int .u64 0, .int .u64 0, .int .u64 0] : Value) = arr4 n :=
  arr4_of n 0 0 0 n ⟨h0, h⟩ ⟨by omega, wd_pos⟩ ⟨by omega, wd_pos⟩ ⟨by omega, wd_pos⟩ (by omega)
set_option maxRecDepth 100000 in
set_option maxHeartbeats 2000000 in
theorem fr_formed (a : Int) (w : World) (hG : GMr w) (hS : GSq w) (ha0 : 0 ≤ a) (ha : a < Wd ^ 4) :
    Calls Tryd.prog 124 #[arr4 a] w fun e w' => e = .returned (fv a) ∧ Below w.heap.size w w' := by
  have HG := Lib.hid hG
  have HA := Lib.hid ha
  have hfin := fe_of (M := Mr) Rir_ok a
  obtain ⟨q, hq⟩ : ∃ q, q = fe Mr (Wd ^ 4) (Wd ^ 4) := ⟨_, rfl⟩
  have q1 : 0 ≤ q ∧ q < Mr := by rw [hq]; exact fe_in _
  rw [← hq] at hfin
  have FN := Lib.hid hfin
  obtain ⟨g0, g1, g2, g3⟩ := hS
  have g9 := World.block_lt_of_cell? w _ g0
  have g10 : 0 < w.heap.size := by omega
  rw [← hq] at g0 g1 g2 g3
  clear hq hfin hG ha
  unfold fv
  obtain ⟨z, hz⟩ : ∃ z, z = fe Mr (Wd ^ 4) a := ⟨_, rfl⟩
  rw [← hz]
  have HZ := Lib.hid hz
  clear hz
  conv => arg 3; unfold arr4
  go_enter Tryd.func124, Tryd.ntmps124
  go_wp2_with fail
  refine (fr_mul0 a q _ (HG.out.keep (by repeat (first | exact Below.refl _ _ | refine Below.drew ?_ | refine Below.alloc ?_ (by simp; try omega) _))) ha0 HA.out q1.1 q1.2).mono ?_
  rintro e w1 ⟨rfl, hB⟩
  rw [FN.out, ← HZ.out]
  obtain ⟨f0, f1, f2, f3, z0, z1, z2, z3, hg⟩ := res4 (t := 60) (c0 := .int .u64 0) (c1 := .int .u64 0) (c2 := .int .u64 0) (c3 := .int .u64 0) (bump1 w _ _ _) hB
  have hW : Below w.heap.size w w1 := Below.trans (by repeat (first | exact Below.refl _ _ | refine Below.drew ?_ | refine Below.alloc ?_ (by simp; try omega) _)) (hB.mono (by simp; try omega))
  have HW := Lib.hid hW
  clear hB hW
  unfold arr4
  go_wp2_with fail
  refine bodyPost_ret (v := arr4 z) (by simp [arr4, results, Tryd.results124, go_sem, f0, f1, f2, f3]) rfl ⟨rfl, ?_⟩
  repeat (first | exact HW.out | refine Below.drew ?_ | refine Below.alloc ?_ (by simp; omega) _ | refine Below.setCell ?_ (by simp; try omega) _)
set_option maxRecDepth 100000 in
set_option maxHeartbeats 2000000 in
theorem fr_plain (x : Int) (w : World) (hG : GMr w) :
    Calls Tryd.prog 126 #[fv x] w fun e w' => e = .returned (arr4 (x % Mr)) ∧ Below w.heap.size w w' := by
  have hM := Mr_lo
  have HG := Lib.hid hG
  have hfin := fe_plain (M := Mr) Rir_ok x
  obtain ⟨z, hz⟩ : ∃ z, z = x % Mr := ⟨_, rfl⟩
  rw [← hz] at hfin ⊢
  unfold fv
  have hin := fe_in x
  obtain ⟨q, hq⟩ : ∃ q, q = fe Mr (Wd ^ 4) x := ⟨_, rfl⟩
  rw [← hq] at hfin hin ⊢
  have HA := Lib.hid (show q < Wd ^ 4 by omega)
  have FN := Lib.hid hfin
  have H1 := Lib.hid (show (1 : Int) < Mr by simp [Mr])
  clear hG hz hq hfin hM
  have hfd : ∀ (a b c d : Int) (u : World), (Instr.field 60 (.agg #[.int .u64 a, .int .u64 b, .int .u64 c, .int .u64 d]) 0).run Tryd.prog u = .ok (.agg #[.int .u64 a, .int .u64 b, .int .u64 c, .int .u64 d]) u := fun _ _ _ _ _ => by kernel_rfl
  conv => arg 3; unfold arr4
  go_enter Tryd.func126, Tryd.ntmps126
  go_wp2_with fail
  rw [arr4_small 1 (by omega) (by simp [Wd])]
  refine (fr_mul0 q 1 _ (HG.out.keep (by repeat (first | exact Below.refl _ _ | refine Below.drew ?_ | refine Below.alloc ?_ (by simp; try omega) _))) hin.1 HA.out (by omega) H1.out).mono ?_
  rintro e w1 ⟨rfl, hB⟩
  rw [Int.mul_one, FN.out]
  obtain ⟨f0, f1, f2, f3, z0, z1, z2, z3, hg⟩ := res4 (t := 58) (c0 := .int .u64 0) (c1 := .int .u64 0) (c2 := .int .u64 0) (c3 := .int .u64 0) (bump1 w _ _ _) hB
  have hW : Below w.heap.size w w1 := Below.trans (by repeat (first | exact Below.refl _ _ | refine Below.drew ?_ | refine Below.alloc ?_ (by simp; try omega) _)) (hB.mono (by simp; try omega))
  have HW := Lib.hid hW
  clear hB hW
  unfold arr4
  go_wp2_with fail
  refine bodyPost_ret (v := arr4 z) (by simp [arr4, results, Tryd.results126, go_sem, f0, f1, f2, f3]) rfl ⟨rfl, ?_⟩
  repeat (first | exact HW.out | refine Below.drew ?_ | refine Below.alloc ?_ (by simp; omega) _ | refine Below.setCell ?_ (by simp; try omega) _)
end Go.Proofs.YtialfoccalobpaaDoor

/-! ## FrG -/
namespace Go.Proofs.YtialfoccalobpaaDoor
open Go.RowKit
/-- The i-th number (0 behind the end): a name of its own, so that the walk leaves it. -/
def gt (l : List Int) (i : Nat) : Int := l.getD i 0
theorem gt_eq {l : List Int} {i : Nat} (h : i < l.length) : gt l i = l[i] := by simp [gt, h]
theorem take_snoc (l : List Int) (k : Nat) (h : k < l.length) : l.take (k + 1) = l.take k ++ [gt l k] := by
  rw [List.take_succ_eq_append_getElem h, gt_eq h]
/-- The number that bytes are, the highest first. -/
def num (l : List Int) : Int := l.foldl (fun a b => a * 256 + b) 0
theorem num_snoc (l : List Int) (b : Int) : num (l ++ [b]) = num l * 256 + b := by simp [num]
/-- All are bytes. -/
def Oct (l : List Int) : Prop := ∀ b ∈ l, 0 ≤ b ∧ b < 256
theorem Oct.take {l : List Int} (h : Oct l) (k : Nat) : Oct (l.take k) := fun b hb => h b (List.mem_of_mem_take hb)
theorem Oct.drop {l : List Int} (h : Oct l) (k : Nat) : Oct (l.drop k) := fun b hb => h b (List.mem_of_mem_drop hb)
theorem Oct.at_ {l : List Int} (h : Oct l) (k : Nat) : 0 ≤ gt l k ∧ gt l k < 256 := by
  rcases Nat.lt_or_ge k l.length with h1 | h1
  · rw [gt_eq h1]; exact h _ (List.getElem_mem h1)
  · simp [gt, h1]
theorem num_lt (l : List Int) (h : Oct l) : 0 ≤ num l ∧ num l < 256 ^ l.length := by
  suffices ∀ n, ∀ l : List Int, l.length = n → Oct l → 0 ≤ num l ∧ num l < 256 ^ n from this _ l rfl h
  intro n
  induction n with
  | zero => intro l hl _; obtain rfl := List.eq_nil_of_length_eq_zero hl; simp [num]
  | succ n ih =>
    intro l hl ho
    have e := take_snoc l n (by omega)
    rw [List.take_of_length_le (by omega)] at e
    have h1 := ih (l.take n) (by simp; omega) (ho.take n)
    have h2 := ho.at_ n
    rw [e, num_snoc, Int.pow_succ]
    omega
theorem num_app (l m : List Int) : num (l ++ m) = num l * 256 ^ m.length + num m := by
  suffices ∀ n, ∀ m : List Int, m.length = n → num (l ++ m) = num l * 256 ^ n + num m by rw [this _ m rfl]
  intro n
  induction n with
  | zero => intro m hm; obtain rfl := List.eq_nil_of_length_eq_zero hm; simp [num]
  | succ n ih =>
    intro m hm
    have e := take_snoc m n (by omega)
    rw [List.take_of_length_le (by omega)] at e
    rw [e, ← List.append_assoc, num_snoc, num_snoc, ih (m.take n) (by simp; omega), Int.pow_succ]
    grind
theorem or_shift (a b : Int) (ha0 : 0 ≤ a) (ha : a * 256 < 18446744073709551616) (hb0 : 0 ≤ b) (hb : b < 256) : bits .or .u64 (a * 256) b = a * 256 + b := by
  obtain ⟨A, rfl⟩ := Int.eq_ofNat_of_zero_le ha0
  obtain ⟨B, rfl⟩ := Int.eq_ofNat_of_zero_le hb0
  have h := u64_or_nat (A * 256) B (by omega) (by omega)
  rw [show ((A : Int) * 256) = ((A * 256 : Nat) : Int) by omega, h]
  have h2 := Nat.shiftLeft_add_eq_or_of_lt (b := B) (i := 8) (by omega) A
  rw [Nat.shiftLeft_eq, show (2 : Nat) ^ 8 = 256 from rfl] at h2
  rw [← h2]
  simp
theorem reads_cell {w : World} {B n : Nat} {A : Option Addr} {q : IntKind} {l : List Int} (h : Reads w B A n (l.map (Value.int q))) {k : Nat} (hk : k < n) :
    ∃ b o, A = some ⟨b, o, none⟩ ∧ b < B ∧ w.cell? ⟨b, o + k, none⟩ = some (.int q (gt l k)) := by
  obtain ⟨b, o, e, hb, hc⟩ := h.2 (by omega)
  have hl : k < l.length := by have := h.1; simp at this; omega
  exact ⟨b, o, e, hb, hc k _ (by rw [gt_eq hl]; simp [hl])⟩
set_option maxRecDepth 100000 in
set_option maxHeartbeats 1000000 in
theorem fr_number (w : World) (B : Nat) (A : Option Addr) (n c : Nat) (bs : List Int) (hr : Reads w B A n (bs.map (Value.int .u8))) (ho : Oct bs) (hn : n ≤ 8) :
    Calls Tryd.prog 123 #[.slice A n c] w fun e w' => e = .returned (.int .u64 (num bs)) ∧ w = w' := by
  have hl : bs.length = n := by simpa using hr.1
  have HL := Lib.hid hl
  have HR := Lib.hid hr
  clear hr hl
  go_enter Tryd.func123, Tryd.ntmps123
  go_wp2_with fail
  go_loop [3, 5, 8] (fun a _ i => ∃ k : Nat, k ≤ n ∧ i = .int .i64 k ∧ a = .int .u64 (num (bs.take k))) (fun _ _ i => n - (intOf i).toNat)
  case atStart => exact ⟨0, Nat.zero_le _, rfl, rfl⟩
  case round =>
    obtain ⟨k, hk, rfl, rfl⟩ := hrel
    by_cases hlt : k < n
    · obtain ⟨b0, o0, rfl, _, hc⟩ := reads_cell HR.out hlt
      have e := take_snoc bs k (by rw [HL.out]; exact hlt)
      have ha := num_lt (bs.take k) (ho.take k)
      have hb := ho.at_ k
      have hp : (256 : Int) ^ (bs.take k).length ≤ 256 ^ 7 := by
        have : (bs.take k).length ≤ 7 := by simp; omega
        exact_mod_cast Nat.pow_le_pow_right (n := 256) (by omega) this
      obtain ⟨a, hA⟩ : ∃ a, a = num (bs.take k) := ⟨_, rfl⟩
      obtain ⟨b, hB⟩ : ∃ b, b = gt bs k := ⟨_, rfl⟩
      rw [← hB] at e hc hb
      have hs : num (bs.take (k + 1)) = a * 256 + b := by rw [e, num_snoc, hA]
      rw [← hA] at ha ⊢
      have ha9 : a * 256 < 18446744073709551616 := by omega
      have hor := or_shift a b ha.1 ha9 hb.1 hb.2
      have HO := Lib.hid hor
      have HS := Lib.hid hs
      have a1 := ha.1
      have i1 : (k : Int) < n := by omega
      have hwr : IntKind.u64.wrap (a * 256) = a * 256 := by rw [wrapU]; exact loW_of (by omega) (by unfold Wd; omega)
      have hwb : IntKind.u64.wrap b = b := by rw [wrapU]; exact loW_of hb.1 (by unfold Wd; omega)
      clear hor hs ha hb hp ha9 e hA hB
      go_wp2_with fail
      exact ⟨⟨k + 1, by omega, by go_num, by rw [HO.out, HS.out]⟩, by simp [intOf]; omega⟩
    · obtain rfl : k = n := by omega
      have hf : bs.take k = bs := List.take_of_length_le (by rw [HL.out]; omega)
      rw [hf]
      clear hf
      have i1 : ¬ ((k : Int) < k) := by omega
      go_wp2_with fail
      go_ret
      exact ⟨rfl, rfl⟩
end Go.Proofs.YtialfoccalobpaaDoor

/-! ## FrH -/
namespace Go.Proofs.YtialfoccalobpaaDoor
open Go.RowKit
structure GSh (w : World) : Prop where
  c0 : w.cell? ⟨3, 0, none⟩ = some (.int .u64 (wd (fe Mr (Wd ^ 4) Wd) 0))
  c1 : w.cell? ⟨3, 1, none⟩ = some (.int .u64 (wd (fe Mr (Wd ^ 4) Wd) 1))
  c2 : w.cell? ⟨3, 2, none⟩ = some (.int .u64 (wd (fe Mr (Wd ^ 4) Wd) 2))
  c3 : w.cell? ⟨3, 3, none⟩ = some (.int .u64 (wd (fe Mr (Wd ^ 4) Wd) 3))
theorem GSh.keep {w w' : World} (h : GSh w) (hb : Below w.heap.size w w') : GSh w' := by
  have hl := World.block_lt_of_cell? w _ h.c0
  exact ⟨(hb.cell (p := ⟨_, _, none⟩) hl).trans h.c0, (hb.cell (p := ⟨_, 1, none⟩) hl).trans h.c1, (hb.cell (p := ⟨_, 2, none⟩) hl).trans h.c2, (hb.cell (p := ⟨_, 3, none⟩) hl).trans h.c3⟩
/-- One piece more: all but the first have eight bytes. -/
theorem wide_step (bs : List Int) (d q : Nat) (hq : q ≤ 8) (h : d = 0 ∨ q = 8) (hl : d + q ≤ bs.length) :
    ((num (bs.take d) % Mr) * Wd % Mr + num ((bs.drop d).take q)) % Mr = num (bs.take (d + q)) % Mr := by
  rw [List.take_add, num_app, emm, Int.emod_add_emod]
  have e : ((bs.drop d).take q).length = q := by simp; omega
  rw [e]
  rcases h with rfl | rfl
  · simp [num]
  · rfl
/-- The world in Wide's rounds. -/
structure WW (w wr : World) (t : Int) : Prop where
  be : Below w.heap.size w wr
  br : Blk wr w.heap.size 60 #[.int .u64 0, .int .u64 0, .int .u64 0, .int .u64 0]
  bt : Blk wr (w.heap.size + 1) 60 #[.int .u64 (wd t 0), .int .u64 (wd t 1), .int .u64 (wd t 2), .int .u64 (wd t 3)]
theorem WW.drewN {w wr : World} {t : Int} (h : WW w wr t) (n : Nat) : WW w (wr.drewN n) t := ⟨below_drewN h.be n, h.br.drewN n, h.bt.drewN n⟩
theorem WW.drew {w wr : World} {t : Int} (h : WW w wr t) : WW w wr.drew t := ⟨below_drewN h.be 1, h.br.drew, h.bt.drew⟩
theorem WW.keep {w wr w' : World} {t : Int} (h : WW w wr t) (hb : Below wr.heap.size wr w') : WW w w' t := ⟨h.be.trans (hb.mono h.be.size), h.br.keep hb, h.bt.keep hb⟩
theorem WW.set_ {w wr : World} {t : Int} (h : WW w wr t) (a b c d : Int) (z : Int) (hz : (.agg #[.int .u64 a, .int .u64 b, .int .u64 c, .int .u64 d] : Value) = arr4 z) :
    WW w ((((wr.setCell ⟨w.heap.size + 1, 0, none⟩ (.int .u64 a)).setCell ⟨w.heap.size + 1, 1, none⟩ (.int .u64 b)).setCell ⟨w.heap.size + 1, 2, none⟩ (.int .u64 c)).setCell ⟨w.heap.size + 1, 3, none⟩ (.int .u64 d)) z := by
  simp only [arr4, Value.agg.injEq, Array.mk.injEq, List.cons.injEq, Value.int.injEq, true_and, and_true] at hz
  obtain ⟨rfl, rfl, rfl, rfl⟩ := hz
  exact ⟨(((h.be.setCell (by simp) _).setCell (by simp) _).setCell (by simp) _).setCell (by simp) _, (((h.br.far (by simp) _).far (by simp) _).far (by simp) _).far (by simp) _, (((h.bt.set_ 0 _).set_ 1 _).set_ 2 _).set_ 3 _⟩
theorem WW.cells {w wr : World} {t : Int} (h : WW w wr t) : wr.cell? ⟨w.heap.size + 1, 0, none⟩ = some (.int .u64 (wd t 0)) ∧ wr.cell? ⟨w.heap.size + 1, 1, none⟩ = some (.int .u64 (wd t 1)) ∧ wr.cell? ⟨w.heap.size + 1, 2, none⟩ = some (.int .u64 (wd t 2)) ∧ wr.cell? ⟨w.heap.size + 1, 3, none⟩ = some (.int .u64 (wd t 3)) ∧
    wr.frozen? ⟨w.heap.size + 1, 0, none⟩ = false ∧ wr.frozen? ⟨w.heap.size + 1, 1, none⟩ = false ∧ wr.frozen? ⟨w.heap.size + 1, 2, none⟩ = false ∧ wr.frozen? ⟨w.heap.size + 1, 3, none⟩ = false :=
  ⟨h.bt.at_ rfl, h.bt.at_ rfl, h.bt.at_ rfl, h.bt.at_ rfl, h.bt.frozen 0, h.bt.frozen 1, h.bt.frozen 2, h.bt.frozen 3⟩
theorem fr_mulW (t : Int) (h0 : 0 ≤ t) (h : t < Mr) (W : World) (hG : GMr W) :
    Calls Tryd.prog 122 #[arr4 t, arr4 (fe Mr (Wd ^ 4) Wd)] W fun e w' => e = .returned (arr4 (t * Wd % Mr)) ∧ Below W.heap.size W w' := by
  have hM := Mr_lo
  have hf := fe_in Wd
  have h1 := fr_mul0 t _ W hG h0 (by omega) hf.1 hf.2
  rwa [fe_shift Rir_ok] at h1
theorem fr_addW (p z : Int) (p0 : 0 ≤ p) (hp : p < Mr) (z0 : 0 ≤ z) (hz : z < Wd) (W : World) (hG : GMr W) :
    Calls Tryd.prog 33 #[arr4 p, .agg #[.int .u64 z, .int .u64 0, .int .u64 0, .int .u64 0]] W fun e w' => e = .returned (arr4 ((p + z) % Mr)) ∧ Below W.heap.size W w' := by
  rw [arr4_small z z0 hz]
  exact fr_add0 p z W hG p0 hp z0 (by unfold Wd Mr at *; omega)
theorem und22 : Tryd.prog.underlying 22 = some (.slice (Tryd.prog.elem 22)) := by kernel_rfl
theorem size22 (w : World) : (sizeOf (Tryd.prog.elem 22)).run Tryd.prog w = .ok 1 w := by kernel_rfl
set_option maxRecDepth 100000 in
set_option maxHeartbeats 4000000 in
theorem fr_wide (w : World) (hG : GMr w) (hS : GSq w) (hH : GSh w) (A : Option Addr) (L c : Nat) (bs : List Int) (hr : Reads w w.heap.size A L (bs.map (Value.int .u8))) (ho : Oct bs) (hLc : L ≤ c) (hc63 : c ≤ 9223372036854775807) :
    Calls Tryd.prog 70 #[.slice A L c] w fun e w' => e = .returned (fv (num bs)) ∧ Below w.heap.size w w' := by
  have HG := Lib.hid hG
  have HS := Lib.hid hS
  have HH := Lib.hid hH
  have HR := Lib.hid hr
  have HO := Lib.hid ho
  have HL := Lib.hid (show bs.length = L by simpa using hr.1)
  clear hG hS hH hr ho
  go_enter Tryd.func70, Tryd.ntmps70
  go_wp2_with fail
  have hI : WW w ((w.alloc (Obj.cells #[Value.int IntKind.u64 0, Value.int IntKind.u64 0, Value.int IntKind.u64 0, Value.int IntKind.u64 0] 60)).alloc (Obj.cells #[Value.int IntKind.u64 0, Value.int IntKind.u64 0, Value.int IntKind.u64 0, Value.int IntKind.u64 0] 60)) 0 :=
    ⟨by repeat (first | exact Below.refl _ _ | refine Below.drew ?_ | refine Below.alloc ?_ (by simp; try omega) _), (Blk.new w _ _).alloc _, bump1 w _ _ _⟩
  have HI := Lib.hid hI
  clear hI
  go_loopw [0, 4] (fun bsl _ wr => ∃ (d R : Nat) (A' : Option Addr) (c' : Nat), bsl = .slice A' R c' ∧ d + R = L ∧ R ≤ c' ∧ c' ≤ c ∧ (d = 0 ∨ R % 8 = 0) ∧ Reads w w.heap.size A' R ((bs.drop d).map (Value.int .u8)) ∧ WW w wr (num (bs.take d) % Mr)) (fun bsl _ _ => match bsl with | .slice _ n _ => n | _ => 0)
  case atStart => exact ⟨0, L, A, c, rfl, by omega, hLc, Nat.le_refl _, .inl rfl, HR.out, HI.out⟩
  case round =>
    obtain ⟨d, R, A', c', rfl, hdR, hRc, hcc, h8, hRd, hW⟩ := hrel
    by_cases hlt : 0 < R
    · obtain ⟨q, hq⟩ : ∃ q : Nat, q = (R - 1) % 8 + 1 := ⟨_, rfl⟩
      have hq1 : ((R : Int) - 1) % 8 + 1 = (q : Int) := by omega
      have hqR : q ≤ R := by omega
      have hq8 : q ≤ 8 := by omega
      have hstep := wide_step bs d q hq8 (by omega) (by rw [HL.out]; omega)
      have hfront := hRd.front hqR
      have hcut := hRd.cut hqR hRc
      obtain ⟨A2, hA2, hrun2⟩ := run_cut1 (P := Tryd.prog) 22 und22 size22 A' R c' q hqR hRc
      rw [← hA2, ← List.map_drop, List.drop_drop] at hcut
      rw [← List.map_take] at hfront
      have hoq : Oct ((bs.drop d).take q) := (HO.out.drop d).take q
      have hnl := num_lt _ hoq
      have hnlt : num ((bs.drop d).take q) < Wd := by
        have e : ((bs.drop d).take q).length ≤ 8 := by simp; omega
        have := Nat.pow_le_pow_right (n := 256) (by omega) e
        have h2 : (256 : Int) ^ ((bs.drop d).take q).length ≤ 256 ^ 8 := by exact_mod_cast this
        unfold Wd
        omega
      obtain ⟨z, hz⟩ : ∃ z, z = num ((bs.drop d).take q) := ⟨_, rfl⟩
      rw [← hz] at hstep hnl hnlt
      obtain ⟨t, ht⟩ : ∃ t, t = num (bs.take d) % Mr := ⟨_, rfl⟩
      rw [← ht] at hstep hW
      have ht0 : 0 ≤ t ∧ t < Mr := by rw [ht]; exact ⟨Int.emod_nonneg _ (by simp [Mr]), Int.emod_lt_of_pos _ (by simp [Mr])⟩
      have i0 : (0 : Int) < R := by omega
      obtain ⟨w0, hw0⟩ : ∃ W, W = wr := ⟨_, rfl⟩
      subst hw0
      have hMw := fr_mulW t ht0.1 ht0.2
      obtain ⟨s, hs⟩ : ∃ s, s = fe Mr (Wd ^ 4) Wd := ⟨_, rfl⟩
      obtain ⟨g0, g1, g2, g3⟩ := HH.out.keep hW.be
      rw [← hs] at g0 g1 g2 g3 hMw
      obtain ⟨p, hp⟩ : ∃ p, p = t * Wd % Mr := ⟨_, rfl⟩
      have hAd := fr_addW p z (by rw [hp]; exact Int.emod_nonneg _ (by simp [Mr])) (by rw [hp]; exact Int.emod_lt_of_pos _ (by simp [Mr])) hnl.1 hnlt
      rw [← hp] at hMw hstep
      rw [hstep] at hAd
      obtain ⟨t', ht'⟩ : ∃ t', t' = num (bs.take (d + q)) % Mr := ⟨_, rfl⟩
      rw [← ht'] at hAd
      have hNu : ∀ W, Below w.heap.size w W → Calls Tryd.prog 123 #[.slice A' q c'] W fun e w' => e = .returned (.int .u64 z) ∧ W = w' := fun W hb => by
        rw [hz]
        exact fr_number W _ A' q c' _ (hfront.below hb) hoq hq8
      have HMw := Lib.hid hMw
      have HAd := Lib.hid hAd
      have HNu := Lib.hid hNu
      have HQ1 := Lib.hid hq1
      have HT' := Lib.hid ht'
      have HC := Lib.hid hcut
      have HD := Lib.hid hdR
      have H8 := Lib.hid h8
      have HQ := Lib.hid hq
      have W1 := Lib.hid hW
      clear hW hMw hAd hNu hq1 ht' hcut hdR h8 hq hs hp ht hz hA2 hstep hfront hoq hnl hnlt ht0 hRd
      obtain ⟨c0, c1, c2, c3, z0, z1, z2, z3⟩ := W1.out.cells
      unfold arr4 at HMw HAd
      go_wp2_with fail
      rw [HQ1.out]
      have i2 : (q : Int) ≤ R := by omega
      go_region_with (first
        | (go_at_call 122; refine (HMw.out _ (HG.out.keep W1.out.drew.be)).mono ?_; rintro e w1 ⟨rfl, hB1⟩; have W2 := Lib.hid (W1.out.drew.keep hB1); clear hB1)
        | (go_at_call 123; refine (HNu.out _ (by first | exact W2.out.be | exact W1.out.drew.be)).mono ?_; rintro e w' ⟨rfl, rfl⟩)
        | (go_at_call 33; refine (HAd.out _ (HG.out.keep W2.out.be)).mono ?_; rintro e w2 ⟨rfl, hB2⟩; have W3 := Lib.hid (W2.out.keep hB2); clear hB2; obtain ⟨d0, d1, d2, d3, y0, y1, y2, y3⟩ := W3.out.cells; clear c0 c1 c2 c3 z0 z1 z2 z3 g0 g1 g2 g3))
      all_goals
        have W4 := Lib.hid (W3.out.set_ (wd t' 0) (wd t' 1) (wd t' 2) (wd t' 3) t' rfl)
        clear d0 d1 d2 d3 y0 y1 y2 y3 W3 W2
        go_wp2_with fail
        refine ⟨⟨d + q, R - q, A2, c' - q, rfl, ?_, ?_, ?_, ?_, HC.out, ?_⟩, ?_⟩
        · have := HD.out; omega
        · omega
        · omega
        · right; have := HQ.out; have := H8.out; omega
        · rw [← HT'.out]; exact W4.out
        · show R - q < R
          have := HQ.out; omega
    · obtain rfl : R = 0 := by omega
      have hf : bs.take d = bs := List.take_of_length_le (by rw [HL.out]; omega)
      rw [hf] at hW
      have hcast := fv_cast (show num bs % Mr % Mr = num bs % Mr from Int.emod_emod _ _)
      obtain ⟨t, ht⟩ : ∃ t, t = num bs % Mr := ⟨_, rfl⟩
      rw [← ht] at hW hcast
      have ht0 : 0 ≤ t ∧ t < Wd ^ 4 := by
        have hM := Mr_lo
        have h1 := Int.emod_nonneg (num bs) (by omega : Mr ≠ 0)
        have h2 := Int.emod_lt_of_pos (num bs) hM.1
        rw [ht]
        omega
      have T0 := Lib.hid ht0
      have W1 := Lib.hid hW
      have HC := Lib.hid hcast
      clear hW ht ht0 hcast hf h8 hRd hdR
      obtain ⟨c0, c1, c2, c3, z0, z1, z2, z3⟩ := W1.out.cells
      have j1 : decide ((0 : Int) < ((0 : Nat) : Int)) = false := by decide
      go_wp2_with fail
      refine (fr_formed t _ (HG.out.keep W1.out.be) (HS.out.keep W1.out.be) T0.out.1 T0.out.2).mono ?_
      rintro e w1 ⟨rfl, hB⟩
      clear c0 c1 c2 c3 z0 z1 z2 z3
      obtain ⟨f0, f1, f2, f3, z0, z1, z2, z3, hg⟩ := res4 W1.out.br hB
      have hW : Below w.heap.size w w1 := W1.out.be.trans (hB.mono W1.out.be.size)
      have HW := Lib.hid hW
      clear hB hW
      unfold fv arr4
      go_wp2_with fail
      refine bodyPost_ret (v := fv t) (by simp [fv, arr4, results, Tryd.results70, go_sem, f0, f1, f2, f3]) rfl ⟨by rw [HC.out], ?_⟩
      repeat (first | exact HW.out | refine Below.drew ?_ | refine Below.alloc ?_ (by first | assumption | (simp; done) | (simp; omega)) _ | refine Below.setCell ?_ (by simp; try omega) _)
end Go.Proofs.YtialfoccalobpaaDoor

/-! ## FrI -/
namespace Go.Proofs.YtialfoccalobpaaDoor
open Go.RowKit
theorem mod_bit (n r : Nat) (hr : r < 64) : n % 2 ^ 64 / 2 ^ r % 2 = n / 2 ^ r % 2 := by
  have h := Nat.testBit_mod_two_pow n 64 r
  rw [Nat.testBit_eq_decide_div_mod_eq, Nat.testBit_eq_decide_div_mod_eq] at h
  simp only [hr, decide_true, Bool.true_and, decide_eq_decide] at h
  omega
/-- A bit of a number, out of its word. -/
theorem bit_words (n : Nat) (i : Nat) : wd (n : Int) (i / 64) / 2 ^ (i % 64) % 2 = ((n / 2 ^ i % 2 : Nat) : Int) := by
  suffices ∀ j (n : Nat), ∀ r, r < 64 → wd (n : Int) j / 2 ^ r % 2 = ((n / 2 ^ (64 * j + r) % 2 : Nat) : Int) by
    have h := this (i / 64) n (i % 64) (Nat.mod_lt _ (by omega))
    rw [Nat.div_add_mod] at h
    exact h
  have e : (Wd : Int) = ((2 ^ 64 : Nat) : Int) := by simp [Wd]
  intro j
  induction j with
  | zero =>
    intro n r hr
    simp only [wd, Nat.mul_zero, Nat.zero_add]
    rw [e]
    exact_mod_cast mod_bit n r hr
  | succ j ih =>
    intro n r hr
    simp only [wd]
    rw [e, ← Int.natCast_ediv, ih (n / 2 ^ 64) r hr, Nat.div_div_eq_div_mul, ← Nat.pow_add]
    congr 4
    omega
theorem bit_step (n i : Nat) : n / 2 ^ i = 2 * (n / 2 ^ (i + 1)) + n / 2 ^ i % 2 := by
  rw [Nat.pow_succ, ← Nat.div_div_eq_div_mul]
  omega
theorem pow_bit (x : Int) (n i : Nat) : x ^ (n / 2 ^ i) = x ^ (n / 2 ^ (i + 1)) * x ^ (n / 2 ^ (i + 1)) * x ^ (n / 2 ^ i % 2) := by
  rw [← Int.pow_add, ← Int.pow_add]
  congr 1
  have := bit_step n i
  omega
theorem and_one (a : Int) (h0 : 0 ≤ a) (h : a < 18446744073709551616) : bits .and .u64 a 1 = a % 2 := by
  obtain ⟨A, rfl⟩ := Int.eq_ofNat_of_zero_le h0
  have e := u64_and_nat A 1 (by omega) (by omega)
  rw [Nat.and_one_is_mod] at e
  rw [show (1 : Int) = ((1 : Nat) : Int) from rfl, e]
  omega
theorem bit_test (v : Int) (r b : Nat) (h0 : 0 ≤ v) (hv : v < Wd) (h : v / 2 ^ r % 2 = (b : Int)) : (bits .and .u64 (v / 2 ^ r) 1 == 1) = decide (b = 1) := by
  have hp : (0 : Int) < 2 ^ r := Int.pow_pos (by omega)
  have h1 : 0 ≤ v / 2 ^ r := Int.ediv_nonneg h0 (by omega)
  have h2 : v / 2 ^ r ≤ v := Int.ediv_le_self _ h0
  rw [and_one _ h1 (by unfold Wd at hv; omega), h]
  rcases Nat.lt_trichotomy b 1 with h3 | h3 | h3
  · obtain rfl : b = 0 := by omega
    rfl
  · subst h3; rfl
  · have : ¬ ((b : Int) = 1) := by omega
    have : ¬ (b = 1) := by omega
    simp [*]
end Go.Proofs.YtialfoccalobpaaDoor

/-! ## FrJ -/
namespace Go.Proofs.YtialfoccalobpaaDoor
open Go.RowKit
/-- The last k bytes of a number, the highest first. -/
def lo (n : Int) : Nat → List Int
  | 0 => []
  | k + 1 => (n / 256 ^ k % 256) :: lo n k
theorem lo_len (n : Int) (k : Nat) : (lo n k).length = k := by
  induction k with
  | zero => rfl
  | succ k ih => simp [lo, ih]
theorem lo_oct (n : Int) (k : Nat) : Oct (lo n k) := by
  induction k with
  | zero => intro b hb; simp [lo] at hb
  | succ k ih =>
    intro b hb
    simp only [lo, List.mem_cons] at hb
    rcases hb with rfl | hb
    · omega
    · exact ih b hb
theorem num_cons (b : Int) (l : List Int) : num (b :: l) = b * 256 ^ l.length + num l := by
  have := num_app [b] l
  simpa [num] using this
theorem num_lo (n : Int) (k : Nat) : num (lo n k) = n % 256 ^ k := by
  induction k with
  | zero => simp [lo, num, Int.emod_one]
  | succ k ih =>
    rw [lo, num_cons, ih, lo_len]
    have hp : (0 : Int) < 256 ^ k := Int.pow_pos (by omega)
    rw [Int.pow_succ]
    generalize (256 : Int) ^ k = P at hp
    have e1 := Int.emod_add_mul_ediv n P
    have e2 := Int.emod_add_mul_ediv (n / P) 256
    have h1 := Int.emod_nonneg n (by omega : P ≠ 0)
    have h2 := Int.emod_lt_of_pos n hp
    have h3 : 0 ≤ n / P % 256 ∧ n / P % 256 < 256 := by omega
    have h5 : n / P % 256 * P ≤ 255 * P := Int.mul_le_mul_of_nonneg_right (by omega) (by omega)
    have h6 : 0 ≤ n / P % 256 * P := Int.mul_nonneg (by omega) (by omega)
    have h8 : n / P % 256 * P + n % P = (n / P % 256 * P + n % P) % (P * 256) := (Int.emod_eq_of_lt (by omega) (by omega)).symm
    rw [h8]
    refine emod_of_dvd_sub ⟨-(n / P / 256), ?_⟩
    grind
theorem byte_words (n : Nat) (i : Nat) : wd (n : Int) (i / 8) / 2 ^ (8 * (i % 8)) % 256 = (n : Int) / 256 ^ i % 256 := by
  suffices ∀ j (n : Nat), ∀ r, r < 8 → wd (n : Int) j / 2 ^ (8 * r) % 256 = ((n / 2 ^ (8 * (8 * j + r)) % 256 : Nat) : Int) by
    have h := this (i / 8) n (i % 8) (Nat.mod_lt _ (by omega))
    rw [Nat.div_add_mod, Nat.pow_mul] at h
    rw [h, show (2 : Nat) ^ 8 = 256 from rfl, Int.natCast_emod, Int.natCast_ediv, Int.natCast_pow]
    rfl
  have e : (Wd : Int) = ((2 ^ 64 : Nat) : Int) := by simp [Wd]
  intro j
  induction j with
  | zero =>
    intro n r hr
    simp only [wd, Nat.mul_zero, Nat.zero_add]
    rw [e]
    have h : n % 2 ^ 64 / 2 ^ (8 * r) % 256 = n / 2 ^ (8 * r) % 256 := by
      have e64 : (2 : Nat) ^ 64 = 2 ^ (8 * r) * 2 ^ (64 - 8 * r) := by rw [← Nat.pow_add]; congr 1; omega
      rw [e64, Nat.mod_mul_right_div_self]
      exact Nat.mod_mod_of_dvd _ (Nat.pow_dvd_pow 2 (show 8 ≤ 64 - 8 * r by omega))
    have e2 : ((2 : Int) ^ (8 * r)) = ((2 ^ (8 * r) : Nat) : Int) := (Int.natCast_pow 2 (8 * r)).symm
    rw [e2, show (256 : Int) = ((256 : Nat) : Int) from rfl, ← Int.natCast_emod, ← Int.natCast_ediv, ← Int.natCast_emod, h]
  | succ j ih =>
    intro n r hr
    rw [show wd (n : Int) (j + 1) = wd ((n : Int) / Wd) j from rfl]
    rw [e, ← Int.natCast_ediv, ih (n / 2 ^ 64) r hr, Nat.div_div_eq_div_mul, ← Nat.pow_add]
    congr 4
    omega
end Go.Proofs.YtialfoccalobpaaDoor

/-! ## FrK -/
namespace Go.Proofs.YtialfoccalobpaaDoor
open Go.RowKit
/-- An array of bytes. -/
def ag8 (l : List Int) : Array Value := (l.map (Value.int .u8)).toArray
theorem ag8_size (l : List Int) : (ag8 l).size = l.length := by simp [ag8]
theorem ag8_one (l : List Int) : (ag8 l).all (·.oneCell') = true := by
  rw [Array.all_eq_true_iff_forall_mem]
  intro v hv
  simp only [ag8, List.mem_toArray, List.mem_map] at hv
  obtain ⟨_, _, rfl⟩ := hv
  rfl
theorem ag8_set (l : List Int) (i : Nat) (v : Int) : (ag8 l).setIfInBounds i (.int .u8 v) = ag8 (l.set i v) := by
  simp [ag8, List.map_set]
theorem set_lo (n : Int) (N k : Nat) (hk : k < N) : (List.replicate (N - k) (0 : Int) ++ lo n k).set (N - 1 - k) (n / 256 ^ k % 256) = List.replicate (N - (k + 1)) 0 ++ lo n (k + 1) := by
  obtain ⟨m, rfl⟩ : ∃ m, N = k + 1 + m := ⟨N - (k + 1), by omega⟩
  rw [show k + 1 + m - k = m + 1 by omega, show k + 1 + m - 1 - k = m by omega, show k + 1 + m - (k + 1) = m by omega]
  rw [List.set_append_left _ _ (by simp), List.replicate_succ', List.set_append_right _ _ (by simp)]
  simp [lo]
theorem ag8_at (l : List Int) (i : Nat) (h : i < l.length) : (ag8 l)[i]? = some (Value.int .u8 (gt l i)) := by
  simp [ag8, gt, h]
theorem word4_at {w : World} {g : Nat} {t : TypeId} {n : Int} (h : Blk w g t #[.int .u64 (wd n 0), .int .u64 (wd n 1), .int .u64 (wd n 2), .int .u64 (wd n 3)]) (k : Nat) (hk : k < 4) : w.cell? ⟨g, k, none⟩ = some (.int .u64 (wd n k)) := by
  match k, hk with
  | 0, _ => exact h.at_ rfl
  | 1, _ => exact h.at_ rfl
  | 2, _ => exact h.at_ rfl
  | 3, _ => exact h.at_ rfl
/-- The world in Bytes' rounds. -/
structure BW (w wr : World) (g4 : Nat) (n : Int) (Z : Array Value) (k : Nat) : Prop where
  be : Below w.heap.size w wr
  br : Blk wr (w.heap.size + 1) 50 Z
  bb : Blk wr (w.heap.size + 1 + 1) 50 (ag8 (List.replicate (32 - k) 0 ++ lo n k))
  b4 : Blk wr g4 58 #[.int .u64 (wd n 0), .int .u64 (wd n 1), .int .u64 (wd n 2), .int .u64 (wd n 3)]
  h4 : w.heap.size + 1 + 1 < g4
theorem BW.step {w wr : World} {g4 : Nat} {n : Int} {Z : Array Value} {k : Nat} (h : BW w wr g4 n Z k) (hk : k < 32) : BW w (wr.setCell ⟨w.heap.size + 1 + 1, 31 - k, none⟩ (.int .u8 (n / 256 ^ k % 256))) g4 n Z (k + 1) :=
  ⟨h.be.setCell (by simp; omega) _, h.br.far (by simp) _, (h.bb.set_ _ _).cast (by rw [ag8_set, show 31 - k = 32 - 1 - k by omega, set_lo n 32 k hk]), h.b4.far (by have := h.h4; simp; omega) _, h.h4⟩
theorem zero52 (w : World) : (zeroValue 50).run Tryd.prog w = .ok (.agg (ag8 (List.replicate 32 0))) w := by kernel_rfl
set_option maxRecDepth 100000 in
set_option maxHeartbeats 4000000 in
theorem fr_bytes (x : Int) (w : World) (hG : GMr w) :
    Calls Tryd.prog 72 #[fv x] w fun e w' => e = .returned (.agg (ag8 (lo (x % Mr) 32))) ∧ Below w.heap.size w w' := by
  have HG := Lib.hid hG
  have hpl := fr_plain x
  have hn0 : 0 ≤ x % Mr := Int.emod_nonneg _ (by simp [Mr])
  obtain ⟨n, hn⟩ : ∃ n, n = x % Mr := ⟨_, rfl⟩
  rw [← hn] at hpl hn0 ⊢
  obtain ⟨m, rfl⟩ := Int.eq_ofNat_of_zero_le hn0
  have hby := byte_words m
  obtain ⟨n, hnn⟩ : ∃ n : Int, n = (m : Int) := ⟨_, rfl⟩
  rw [← hnn] at hpl hby ⊢
  have HBY := Lib.hid hby
  have HPL := Lib.hid hpl
  clear hby hpl hnn hn0 hn hG
  obtain ⟨Z, hZ⟩ : ∃ Z, Z = ag8 (List.replicate 32 0) := ⟨_, rfl⟩
  have hz52 : ∀ W : World, (zeroValue 50).run Tryd.prog W = .ok (.agg Z) W := fun W => by rw [hZ]; exact zero52 W
  have HZ := Lib.hid hZ
  clear hZ
  conv => arg 3; unfold fv arr4
  go_enter Tryd.func72, Tryd.ntmps72
  go_wp2_with fail
  have hpl2 := HPL.out
  unfold fv at hpl2
  refine (hpl2 _ (HG.out.keep (by repeat (first | exact Below.refl _ _ | refine Below.drew ?_ | refine Below.alloc ?_ (by simp; try omega) _)))).mono ?_
  rintro e w1 ⟨rfl, hB⟩
  have hP : BW w (w1.alloc (.cells #[.int .u64 (wd n 0), .int .u64 (wd n 1), .int .u64 (wd n 2), .int .u64 (wd n 3)] 58)) w1.heap.size n Z 0 :=
    ⟨Below.alloc (Below.trans (by repeat (first | exact Below.refl _ _ | refine Below.drew ?_ | refine Below.alloc ?_ (by simp; try omega) _)) (hB.mono (by simp; try omega))) (by have := hB.size; simp at this; omega) _, (((bump1 w _ _ _).alloc _).keep hB).alloc _, (((bump2 w _ _ _ _).keep hB).alloc _).cast (by rw [HZ.out]; simp [lo]), Blk.new w1 _ _, by have := hB.size; simp at this; omega⟩
  have HP := Lib.hid hP
  clear hB hP hpl2 hz52
  unfold arr4
  go_wp2_with fail
  obtain ⟨g4, hg4⟩ : ∃ g, g = w1.heap.size := ⟨_, rfl⟩
  rw [← hg4] at HP ⊢
  clear hg4
  go_loopw [5, 8] (fun _ i wr => ∃ k : Nat, k ≤ 32 ∧ i = .int .i64 (k : Int) ∧ BW w wr g4 n Z k) (fun _ i _ => 32 - (intOf i).toNat)
  case atStart => exact ⟨0, Nat.zero_le _, rfl, HP.out⟩
  case round =>
    obtain ⟨k, hk, rfl, hW⟩ := hrel
    clear HP
    by_cases hlt : k < 32
    · have hk4 : k / 8 < 4 := by omega
      have cw := word4_at hW.b4 (k / 8) hk4
      have hb := HBY.out k
      obtain ⟨v, hv⟩ : ∃ v, v = wd n (k / 8) := ⟨_, rfl⟩
      rw [← hv] at cw hb
      have cb := hW.bb.at_ (ag8_at _ (31 - k) (by simp [lo_len]; omega))
      have fb := hW.bb.frozen (31 - k)
      obtain ⟨u0, hu0⟩ : ∃ u, u = Value.int .u8 (gt (List.replicate (32 - k) 0 ++ lo n k) (31 - k)) := ⟨_, rfl⟩
      rw [← hu0] at cb
      have W1 := Lib.hid (hW.step hlt)
      have HB := Lib.hid hb
      clear hW hv hb hu0
      have i1 : (k : Int) < 32 := by omega
      have i4 : (k : Int) / 8 < 4 := by omega
      have i5 : 0 ≤ 31 - (k : Int) := by omega
      have i6 : 31 - (k : Int) < 32 := by omega
      go_wp2_with fail
      exact ⟨⟨k + 1, by omega, by go_num, by rw [HB.out]; exact W1.out⟩, by simp [intOf]; omega⟩
    · obtain rfl : k = 32 := by omega
      obtain ⟨D, hD⟩ : ∃ D, D = ag8 (lo n 32) := ⟨_, rfl⟩
      have hDz : D.size = 32 := by rw [hD, ag8_size, lo_len]
      have hZz : Z.size = 32 := by rw [HZ.out, ag8_size]; simp
      have hDi : (Tryd.prog.info? 50).map (·.size) = some D.size := by rw [hDz]; kernel_rfl
      have hDf : 0 + D.size ≤ Z.size := by rw [hDz, hZz]; omega
      have hD1 : D.all (·.oneCell') = true := by rw [hD]; exact ag8_one _
      have X1 : Hid (Blk wr (w.heap.size + 1 + 1) 50 D) := Lib.hid (hW.bb.cast (by rw [hD]; simp))
      have X3 := Lib.hid hW.br
      have X4 := Lib.hid hW.be
      have D1 := Lib.hid hD
      have D2 : Hid (Z.size = D.size) := Lib.hid (by rw [hDz, hZz])
      have D3 := Lib.hid hDi
      have D4 := Lib.hid hDf
      have D5 := Lib.hid hD1
      have hsz := hW.h4
      have hb4 := hW.b4.lt
      clear hW hD hDz hZz hDi hDf hD1
      go_wp2_with (first | ((with_reducible refine wpList_load_at (dst := some 24) (ty := 50) (w.heap.size + 1 + 1) 0 D _ ?_ X1.out.range Tryd.underlying50 ?_ D3.out ?_); exact rfl; exact rfl) | ((with_reducible refine wpList_store_at (ty := 50) (x := .tmp 2) (y := .tmp 24) (w.heap.size + 1) 0 50 _ D ?_ ?_ X3.out D3.out D4.out D5.out ?_); exact rfl; exact rfl; intro w5 HB5 HG5))
      have hB5 : Blk w5 (w.heap.size + 1) 50 D := HB5.out.cast (by rw [splice_all _ _ (by rw [Array.length_toList, Array.length_toList, D2.out]), Array.toArray_toList])
      refine bodyPost_ret (results_cell_row Tryd.results72 _ _ _ _ _ _ _ rfl hB5 Tryd.underlying50 rfl D3.out) rfl ⟨by rw [D1.out], ?_⟩
      exact X4.out.grown HG5.out X4.out.size (fun i hi => by cases hi; omega)
end Go.Proofs.YtialfoccalobpaaDoor

/-! ## FrL -/
namespace Go.Proofs.YtialfoccalobpaaDoor
open Go.RowKit
theorem pow_emod (x M : Int) (n : Nat) : x ^ n % M = (x % M) ^ n % M := by
  induction n with
  | zero => simp
  | succ n ih => rw [Int.pow_succ, Int.pow_succ, Int.mul_emod, ih, ← Int.mul_emod, mem']
theorem little_int {p : Nat} (hp : Pr p) (x : Int) (hx : x % (p : Int) ≠ 0) : x ^ (p - 1) % (p : Int) = 1 := by
  have h0 : (p : Int) ≠ 0 := by have := hp.1; omega
  obtain ⟨y, hy⟩ := Int.eq_ofNat_of_zero_le (Int.emod_nonneg x h0)
  rw [pow_emod, hy]
  have hd : ¬ p ∣ y := by
    intro h
    have hlt := Int.emod_lt_of_pos x (by have := hp.1; omega : (0 : Int) < p)
    obtain ⟨k, rfl⟩ := h
    rcases Nat.eq_zero_or_pos k with rfl | hk
    · simp at hy; exact hx hy
    · have : p * 1 ≤ p * k := Nat.mul_le_mul_left p hk
      omega
  have h := hp.little y hd
  have h2 : (((y ^ (p - 1) % p : Nat)) : Int) = 1 := by rw [h]; rfl
  rwa [Int.natCast_emod, Int.natCast_pow] at h2
end Go.Proofs.YtialfoccalobpaaDoor

/-! ## Copy -/
namespace Go.Proofs.YtialfoccalobpaaDoor
open Go.RowKit
theorem byte_info : (Tryd.prog.info? 5).map (fun i => (i.zero, i.size, i.bytes)) = some (some (.int .u8 0), 1, 1) := by kernel_rfl
def fill8 (n : Nat) (l : List Int) : Array Value := (l.map (Value.int .u8) ++ List.replicate (n - l.length) (Value.int .u8 0)).toArray
theorem fill8_size (n : Nat) (l : List Int) (h : l.length ≤ n) : (fill8 n l).size = n := by simp [fill8]; omega
theorem fill8_set (n : Nat) (l : List Int) (x : Int) (h : l.length < n) : (fill8 n l).setIfInBounds l.length (.int .u8 x) = fill8 n (l ++ [x]) := by
  unfold fill8
  have e : n - l.length = (n - (l ++ [x]).length) + 1 := by simp; omega
  rw [e, List.replicate_succ]
  simp
theorem fill8_full (l : List Int) : fill8 l.length l = ag8 l := by simp [fill8, ag8]
theorem fill8_nil (n : Nat) : Array.replicate n (Value.int .u8 0) = fill8 n [] := by simp [fill8]
theorem Reads.at_ {w : World} {B n : Nat} {A : Option Addr} {bs : List Int} (h : Reads w B A n (bs.map (Value.int .u8))) {k : Nat} (hk : k < n) :
    ∃ b o, A = some ⟨b, o, none⟩ ∧ b < B ∧ w.cell? ⟨b, o + k, none⟩ = some (.int .u8 (gt bs k)) := by
  obtain ⟨b, o, e, hb, hc⟩ := h.2 (by omega)
  have hl : k < bs.length := by have := h.1; simp at this; omega
  exact ⟨b, o, e, hb, hc k _ (by rw [gt_eq hl]; simp [hl])⟩
set_option maxRecDepth 100000 in
set_option maxHeartbeats 400000 in
theorem copy_any (w : World) (A : Option Addr) (n c : Nat) (bs : List Int) (hr : Reads w w.heap.size A n (bs.map (Value.int .u8))) (hn : n ≤ 281474976710656) :
    Calls Tryd.prog 10 #[.slice A n c] w fun e w' => ∃ g, e = .returned (.slice (some ⟨g, 0, none⟩) n n) ∧ w.heap.size ≤ g ∧ Blk w' g 5 (ag8 bs) ∧ Below w.heap.size w w' := by
  have hl : bs.length = n := by simpa using hr.1
  have HR := Lib.hid hr
  have HL := Lib.hid hl
  clear hr hl
  go_enter Tryd.func10, Tryd.ntmps10
  go_wp2_with (at_make; refine wpList_make_new _ rfl _ _ _ rfl 5 _ 1 Tryd.underlying22 byte_info rfl .i64 .i64 _ n rfl rfl rfl (by omega) (by omega) ?_; intro w1 hb1 hs1 hB1; have HB1 := Lib.hid hb1; have HC1 := Lib.hid hB1; clear hB1 hb1)
  go_loopw [4, 10] (fun _ i wr => ∃ k : Nat, k ≤ n ∧ i = .int .i64 k ∧ Below w.heap.size w wr ∧ w.heap.size < wr.heap.size ∧ Blk wr w.heap.size 5 (fill8 n (bs.take k))) (fun _ i _ => n - (intOf i).toNat)
  case atStart => exact ⟨0, Nat.zero_le _, rfl, HB1.out, hs1, HC1.out.cast (by rw [fill8_nil, List.take_zero])⟩
  case round =>
    obtain ⟨k, hk, rfl, hb, hsz, hB⟩ := hrel
    by_cases hlt : k < n
    · obtain ⟨b0, o0, rfl, hb0, hc0⟩ := (HR.out.below hb).at_ hlt
      have htl : (bs.take k).length = k := by rw [List.length_take, HL.out]; omega
      obtain ⟨v0, hv⟩ := hB.some_ (i := k) (by rw [fill8_size _ _ (by omega)]; omega)
      have hf := hB.frozen k
      have hset := fill8_set n (bs.take k) (gt bs k) (by omega)
      rw [htl, ← take_snoc bs k (by rw [HL.out]; exact hlt)] at hset
      have X1 := Lib.hid hb
      have X2 := Lib.hid hB
      have X3 := Lib.hid hset
      clear hb hB hset htl HB1 HC1
      have i1 : (k : Int) < n := by omega
      go_wp2_with fail
      refine ⟨⟨k + 1, by omega, by go_num, X1.out.setCell (Nat.le_refl _) _, by simpa [World.setCell] using hsz, (X2.out.set_ k _).cast X3.out⟩, by simp [intOf]; omega⟩
    · obtain rfl : k = n := by omega
      have X1 := Lib.hid hb
      have X2 := Lib.hid hB
      clear hb hB HB1 HC1
      go_wp2_with fail
      go_ret
      exact ⟨_, rfl, Nat.le_refl _, X2.out.cast (by rw [List.take_of_length_le (by rw [HL.out]; omega), ← HL.out, fill8_full]), X1.out⟩
end Go.Proofs.YtialfoccalobpaaDoor

/-! ## FrBased -/
namespace Go.Proofs.YtialfoccalobpaaDoor
open Go.RowKit
theorem copy_reads {w : World} {g n : Nat} {t : TypeId} {bs : List Int} (h : Blk w g t (ag8 bs)) (hn : bs.length = n) : Reads w w.heap.size (some ⟨g, 0, none⟩) n (bs.map (Value.int .u8)) := by
  have := h.reads h.lt 0 n (by rw [ag8_size, hn]; omega)
  rwa [List.drop_zero, List.take_of_length_le (by simp [ag8, hn])] at this
end Go.Proofs.YtialfoccalobpaaDoor

/-! ## FrR -/
namespace Go.Proofs.YtialfoccalobpaaDoor
open Go.RowKit
theorem reads_part {w : World} {B n b o : Nat} {xs : List Value} (h : Reads w B (some ⟨b, o, none⟩) n xs) (k m : Nat) (hk : k + m ≤ n) (hm : 0 < m) : Reads w B (some ⟨b, o + k, none⟩) m ((xs.drop k).take m) := by
  refine ⟨by have := h.1; simp; omega, fun _ => ?_⟩
  obtain ⟨b', o', e, hb, hc⟩ := h.2 (by omega)
  obtain ⟨rfl, rfl⟩ : b = b' ∧ o = o' := by simpa using e
  refine ⟨b, o + k, rfl, hb, fun j u hu => ?_⟩
  rw [List.getElem?_take] at hu
  split at hu
  · rw [List.getElem?_drop] at hu
    rw [Nat.add_assoc]
    exact hc _ _ hu
  · cases hu
end Go.Proofs.YtialfoccalobpaaDoor
