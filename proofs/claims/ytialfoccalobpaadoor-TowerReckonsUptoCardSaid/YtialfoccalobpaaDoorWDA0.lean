/-
  Pr, Mo, Mem, MemB, Word, FrA, FrB, FrC, FrD, Eqn, FrE, FrM, FrF, FrG, FrH, FrI, FrJ, FrK, FrL, Copy, FrBased, FrR, in one text.
-/
import Init
import Derived.WalkKit
import Derived.WalkSpells
import Derived.WalkLawsBesides
import Derived.Below
import Derived.Laws.OwnMore
import Derived.Deep.AppendLies
import Derived.Deep.Draws
import Derived.Laws.Rows
import Derived.Lib.Hide
import Derived.Deep.QuietTactic
import Derived.BigQuiet
import Derived.Deep.OwnRows
import Derived.Laws.CopyOwn
import Derived.Deep.RegionLaw
import Derived.Deep.RegionHeld3
import Derived.StillTailTactics
import Derived.BigRegion
import Derived.Laws.BitsAllLaws
import Derived.Deep.DeepFit
import Derived.Maps.RangeWalk
import Derived.Lib.SlBytesConst
import Derived.IntWalk
import Derived.Deep.RegionWith
import Derived.Maps.AppendAt
import Derived.Test.YtialfoccalobpaaDoorProg
import Derived.Laws.Externs
import Derived.Laws.MathBits
import Derived.Shelf.Bits.Mul64
import Derived.Shelf.Spec.BitsCarry
import Derived.LoopN
import Derived.Deep.Cut
import Derived.Deep.CutRange
/-! ## Pr -/
namespace Go.Proofs.YtialfoccalobpaaDoor
/-- A prime. -/
def Pr (p : Nat) : Prop := 2 ≤ p ∧ ∀ d, d ∣ p → d = 1 ∨ d = p
theorem Pr.cop {p a : Nat} (h : Pr p) (ha : ¬ p ∣ a) : Nat.Coprime p a := by
  rcases h.2 _ (Nat.gcd_dvd_left p a) with e | e
  · exact e
  · exact absurd (e ▸ Nat.gcd_dvd_right p a) ha
theorem Pr.dvd_mul {p a b : Nat} (h : Pr p) (hd : p ∣ a * b) : p ∣ a ∨ p ∣ b := by
  by_cases ha : p ∣ a
  · exact .inl ha
  · exact .inr ((h.cop ha).dvd_of_dvd_mul_left hd)
def bch : Nat → Nat → Nat
  | _, 0 => 1
  | 0, _ + 1 => 0
  | n + 1, k + 1 => bch n k + bch n (k + 1)
theorem bch_big (n : Nat) : ∀ k, n < k → bch n k = 0 := by
  induction n with
  | zero => intro k h; cases k with
    | zero => omega
    | succ k => rfl
  | succ n ih => intro k h; cases k with
    | zero => omega
    | succ k => simp only [bch]; rw [ih k (by omega), ih (k + 1) (by omega)]
theorem bch_self (n : Nat) : bch n n = 1 := by
  induction n with
  | zero => rfl
  | succ n ih => simp only [bch]; rw [ih, bch_big n (n + 1) (by omega)]
theorem bch_zero (n : Nat) : bch n 0 = 1 := by cases n <;> rfl
theorem bch_mul (n : Nat) : ∀ k, (k + 1) * bch (n + 1) (k + 1) = (n + 1) * bch n k := by
  induction n with
  | zero => intro k; cases k with
    | zero => rfl
    | succ k => simp [bch]
  | succ n ih => intro k; cases k with
    | zero =>
      have := ih 0
      simp only [bch, bch_zero] at this ⊢
      omega
    | succ k =>
      have h1 := ih k
      have h2 := ih (k + 1)
      have e : bch (n + 1 + 1) (k + 1 + 1) = bch (n + 1) (k + 1) + bch (n + 1) (k + 1 + 1) := rfl
      have e2 : bch (n + 1) (k + 1) = bch n k + bch n (k + 1) := rfl
      rw [e]
      have e3 : (k + 1 + 1) * (bch (n + 1) (k + 1) + bch (n + 1) (k + 1 + 1)) = (k + 1) * bch (n + 1) (k + 1) + bch (n + 1) (k + 1) + (k + 1 + 1) * bch (n + 1) (k + 1 + 1) := by grind
      rw [e3, h1, h2, e2]
      grind
def su (f : Nat → Nat) : Nat → Nat
  | 0 => 0
  | n + 1 => su f n + f n
theorem bin_step (a n : Nat) (m : Nat) : su (fun k => bch (n + 1) k * a ^ k) (m + 1) = su (fun k => bch n k * a ^ k) (m + 1) + a * su (fun k => bch n k * a ^ k) m := by
  induction m with
  | zero => simp [su, bch_zero]
  | succ m ih =>
    rw [su, ih]
    simp only [su, bch, Nat.pow_succ]
    grind
theorem binom (a n : Nat) : (a + 1) ^ n = su (fun k => bch n k * a ^ k) (n + 1) := by
  induction n with
  | zero => simp [su, bch_zero]
  | succ n ih =>
    rw [bin_step, Nat.pow_succ, ih]
    have : su (fun k => bch n k * a ^ k) (n + 1 + 1) = su (fun k => bch n k * a ^ k) (n + 1) := by
      rw [su, bch_big n (n + 1) (by omega)]; simp
    rw [this]
    grind
theorem Pr.ch {p : Nat} (h : Pr p) (k : Nat) (h1 : k + 1 < p) : p ∣ bch p (k + 1) := by
  obtain ⟨n, rfl⟩ : ∃ n, p = n + 1 := ⟨p - 1, by have := h.1; omega⟩
  have hd : (n + 1) ∣ (k + 1) * bch (n + 1) (k + 1) := by rw [bch_mul]; exact Nat.dvd_mul_right _ _
  rcases h.dvd_mul hd with h2 | h2
  · have := Nat.le_of_dvd (by omega) h2; omega
  · exact h2
theorem Pr.mid {p : Nat} (h : Pr p) (a : Nat) (m : Nat) (hm : m < p) : su (fun k => bch p k * a ^ k) (m + 1) % p = 1 % p := by
  induction m with
  | zero => simp [su, bch_zero]
  | succ m ih =>
    rw [su, Nat.add_mod, ih (by omega)]
    have : bch p (m + 1) * a ^ (m + 1) % p = 0 := Nat.mod_eq_zero_of_dvd (Nat.dvd_trans (h.ch m hm) (Nat.dvd_mul_right _ _))
    rw [this]
    simp
/-- Fermat. -/
theorem Pr.fermat {p : Nat} (h : Pr p) (a : Nat) : a ^ p % p = a % p := by
  induction a with
  | zero => rw [Nat.zero_pow (by have := h.1; omega)]
  | succ a ih =>
    obtain ⟨n, rfl⟩ : ∃ n, p = n + 1 := ⟨p - 1, by have := h.1; omega⟩
    rw [binom, su, Nat.add_mod, h.mid a n (by omega), bch_self, Nat.one_mul, ih, ← Nat.add_mod, Nat.add_comm]
theorem Pr.little {p : Nat} (h : Pr p) (a : Nat) (ha : ¬ p ∣ a) : a ^ (p - 1) % p = 1 := by
  obtain ⟨n, rfl⟩ : ∃ n, p = n + 1 := ⟨p - 1, by have := h.1; omega⟩
  have hf := h.fermat a
  have hp := h.1
  rw [Nat.add_sub_cancel]
  have h1 : 1 ≤ a ^ n := by
    rcases Nat.eq_zero_or_pos a with rfl | h0
    · exact absurd (Nat.dvd_zero _) ha
    · exact Nat.one_le_pow _ _ h0
  obtain ⟨t, ht⟩ : ∃ t, a ^ n = t + 1 := ⟨a ^ n - 1, by omega⟩
  have hd : (n + 1) ∣ a * t := by
    have e : a ^ (n + 1) = a * t + a := by rw [Nat.pow_succ, ht]; grind
    rw [e] at hf
    apply Nat.dvd_of_mod_eq_zero
    have := Nat.sub_mod_eq_zero_of_mod_eq hf
    rwa [Nat.add_sub_cancel] at this
  rcases h.dvd_mul hd with h2 | h2
  · exact absurd h2 ha
  · rw [ht, Nat.add_mod, Nat.mod_eq_zero_of_dvd h2, Nat.zero_add, Nat.mod_mod, Nat.mod_eq_of_lt (by omega)]
theorem pow_one_mul {b d m : Nat} (h : b ^ m % d = 1 % d) (k : Nat) : b ^ (m * k) % d = 1 % d := by
  rw [Nat.pow_mul, Nat.pow_mod, h, ← Nat.pow_mod, Nat.one_pow]
theorem pow_gcd (b d : Nat) (m n : Nat) : b ^ m % d = 1 % d → b ^ n % d = 1 % d → b ^ (Nat.gcd m n) % d = 1 % d := by
  induction m, n using Nat.gcd.induction with
  | H0 n => intro _ h; rwa [Nat.gcd_zero_left]
  | H1 m n hm ih =>
    intro h1 h2
    rw [Nat.gcd_rec]
    refine ih ?_ h1
    have e : b ^ n = b ^ (m * (n / m)) * b ^ (n % m) := by rw [← Nat.pow_add, Nat.div_add_mod]
    rw [e, Nat.mul_mod, pow_one_mul h1, ← Nat.mul_mod, Nat.one_mul] at h2
    exact h2
theorem Pr.pow_dvd {q : Nat} (hq : Pr q) (e g : Nat) (hg : g ∣ q ^ (e + 1)) (hn : ¬ g ∣ q ^ e) : g = q ^ (e + 1) := by
  obtain ⟨h, hh⟩ := hg
  have q0 : 0 < q := by have := hq.1; omega
  by_cases hd : q ∣ h
  · obtain ⟨h', rfl⟩ := hd
    refine absurd ⟨h', ?_⟩ hn
    have : q * q ^ e = q * (g * h') := by rw [← Nat.pow_succ', hh]; grind
    exact Nat.eq_of_mul_eq_mul_left q0 this
  · have hc : Nat.Coprime (q ^ (e + 1)) h := (hq.cop hd).pow_left _
    have : h = 1 := Nat.Coprime.eq_one_of_dvd hc.symm ⟨g, by rw [hh, Nat.mul_comm]⟩
    rw [hh, this, Nat.mul_one]
theorem pock_step (N a q e d : Nat) (hN : 2 ≤ N) (hq : Pr q) (hd : Pr d) (hdN : d ∣ N) (hqe : q ^ (e + 1) ∣ N - 1) (h1 : a ^ (N - 1) % N = 1)
    (h2 : Nat.gcd (a ^ ((N - 1) / q) % N + (N - 1)) N = 1) : q ^ (e + 1) ∣ d - 1 := by
  obtain ⟨c, hc⟩ := hqe
  have q0 : 0 < q := by have := hq.1; omega
  have hdq : (N - 1) / q = c * q ^ e := by
    rw [hc, show q ^ (e + 1) * c = q * (c * q ^ e) by rw [Nat.pow_succ]; grind]
    exact Nat.mul_div_cancel_left _ q0
  have hm : ∀ x, x % N % d = x % d := fun x => Nat.mod_mod_of_dvd x hdN
  have d2 := hd.1
  have hb1 : (a ^ c) ^ (q ^ (e + 1)) % d = 1 % d := by
    rw [← Nat.pow_mul, Nat.mul_comm, ← hc, ← hm, h1]
  have hb2 : ¬ (a ^ c) ^ (q ^ e) % d = 1 % d := by
    intro h
    rw [← Nat.pow_mul, ← hdq, ← hm] at h
    have hdd : d ∣ a ^ ((N - 1) / q) % N + (N - 1) := by
      apply Nat.dvd_of_mod_eq_zero
      rw [Nat.add_mod, h, ← Nat.add_mod, show 1 + (N - 1) = N by omega]
      exact Nat.mod_eq_zero_of_dvd hdN
    have := Nat.dvd_gcd hdd hdN
    rw [h2] at this
    have := Nat.le_of_dvd (by omega) this
    omega
  have hnd : ¬ d ∣ a ^ c := by
    intro h
    have h0 : a ^ c % d = 0 := Nat.mod_eq_zero_of_dvd h
    rw [Nat.pow_mod, h0, Nat.zero_pow (Nat.pow_pos q0), Nat.zero_mod, Nat.mod_eq_of_lt (by omega)] at hb1
    omega
  have hb3 : (a ^ c) ^ (d - 1) % d = 1 % d := by rw [hd.little _ hnd, Nat.mod_eq_of_lt (by omega)]
  have hg := pow_gcd _ _ _ _ hb1 hb3
  have : Nat.gcd (q ^ (e + 1)) (d - 1) = q ^ (e + 1) := by
    refine hq.pow_dvd e _ (Nat.gcd_dvd_left _ _) ?_
    rintro ⟨k, hk⟩
    exact hb2 (by rw [hk]; exact pow_one_mul hg k)
  rw [← this]
  exact Nat.gcd_dvd_right _ _
theorem exists_pr (n : Nat) : 2 ≤ n → ∃ d, Pr d ∧ d ∣ n := by
  induction n using Nat.strongRecOn with
  | ind n ih =>
    intro h
    by_cases hp : Pr n
    · exact ⟨n, hp, Nat.dvd_refl _⟩
    · have : ∃ d, d ∣ n ∧ d ≠ 1 ∧ d ≠ n := by
        refine Classical.byContradiction fun hc => hp ⟨h, fun d hd => Classical.byContradiction fun hh => hc ⟨d, hd, ?_, ?_⟩⟩
        · exact fun e => hh (.inl e)
        · exact fun e => hh (.inr e)
      obtain ⟨d, hd, h1, h2⟩ := this
      have hle := Nat.le_of_dvd (by omega) hd
      have h0 : d ≠ 0 := by rintro rfl; have := Nat.eq_zero_of_zero_dvd hd; omega
      obtain ⟨k, hk, hkd⟩ := ih d (by omega) (by omega)
      exact ⟨k, hk, Nat.dvd_trans hkd hd⟩
theorem pr_of_small (n : Nat) (h : 2 ≤ n) (hs : ∀ d, Pr d → d ∣ n → n < d * d) : Pr n := by
  refine ⟨h, fun d hd => Classical.byContradiction fun hh => ?_⟩
  have h1 : d ≠ 1 := fun e => hh (.inl e)
  have h2 : d ≠ n := fun e => hh (.inr e)
  obtain ⟨k, hk⟩ := hd
  have h0 : d ≠ 0 := by rintro rfl; omega
  have k0 : k ≠ 0 := by rintro rfl; omega
  have k1 : k ≠ 1 := by rintro rfl; omega
  have hmin : ∀ x y, n = x * y → 2 ≤ x → 2 ≤ y → x ≤ y → False := by
    intro x y hxy hx hy hle
    obtain ⟨u, hu, hux⟩ := exists_pr x hx
    have := hs u hu (Nat.dvd_trans hux ⟨y, hxy⟩)
    have hux' := Nat.le_of_dvd (by omega) hux
    have : u * u ≤ x * y := Nat.mul_le_mul hux' (Nat.le_trans hux' hle)
    omega
  rcases Nat.le_total d k with hle | hle
  · exact hmin d k hk (by omega) (by omega) hle
  · exact hmin k d (by rw [hk, Nat.mul_comm]) (by omega) (by omega) hle
def powL : List (Nat × Nat) → Nat
  | [] => 1
  | (q, e) :: t => q ^ (e + 1) * powL t
/-- a ^ e modulo N, by halves; fuel bits. -/
def pm (a N : Nat) : Nat → Nat → Nat
  | 0, _ => 1 % N
  | f + 1, e => pm a N f (e / 2) ^ 2 * a ^ (e % 2) % N
theorem pm_eq (a N : Nat) (f : Nat) : ∀ e, e < 2 ^ f → pm a N f e = a ^ e % N := by
  induction f with
  | zero => intro e h; obtain rfl : e = 0 := by simp at h; omega
            rfl
  | succ f ih =>
    intro e h
    rw [pm, ih (e / 2) (by rw [Nat.pow_succ] at h; omega)]
    rw [Nat.mul_mod, ← Nat.pow_mod, ← Nat.pow_mul, ← Nat.mul_mod, ← Nat.pow_add, Nat.div_mul_self_eq_mod_sub_self]
    congr 2
    omega
def pk (N a f : Nat) : List (Nat × Nat) → Bool
  | [] => true
  | (q, e) :: t => (N - 1) % q ^ (e + 1) == 0 && Nat.gcd (pm a N f ((N - 1) / q) + (N - 1)) N == 1 && Nat.gcd (q ^ (e + 1)) (powL t) == 1 && pk N a f t
theorem pk_dvd (N a f d : Nat) (hN : 2 ≤ N) (hf : N < 2 ^ f) (h1 : a ^ (N - 1) % N = 1) (hd : Pr d) (hdN : d ∣ N) : ∀ l : List (Nat × Nat), (∀ x ∈ l, Pr x.1) → pk N a f l = true → powL l ∣ d - 1 := by
  intro l
  induction l with
  | nil => intro _ _; exact Nat.one_dvd _
  | cons x t ih =>
    obtain ⟨q, e⟩ := x
    intro hp hk
    simp only [pk, Bool.and_eq_true, beq_iff_eq] at hk
    obtain ⟨⟨⟨k1, k2⟩, k3⟩, k4⟩ := hk
    rw [pm_eq a N f _ (Nat.lt_of_le_of_lt (Nat.div_le_self _ _) (by omega))] at k2
    exact Nat.Coprime.mul_dvd_of_dvd_of_dvd k3 (pock_step N a q e d hN (hp (q, e) (by simp)) hd hdN (Nat.dvd_of_mod_eq_zero k1) h1 k2) (ih (fun x hx => hp x (by simp [hx])) k4)
/-- Pocklington. -/
theorem pock (N a f : Nat) (l : List (Nat × Nat)) (hp : ∀ x ∈ l, Pr x.1) (hc : (decide (2 ≤ N) && decide (N < 2 ^ f) && pm a N f (N - 1) == 1 && pk N a f l && decide (N < (powL l + 1) * (powL l + 1))) = true) : Pr N := by
  simp only [Bool.and_eq_true, decide_eq_true_eq, beq_iff_eq] at hc
  obtain ⟨⟨⟨⟨h2, hf⟩, h1⟩, hk⟩, hF⟩ := hc
  rw [pm_eq a N f _ (by omega)] at h1
  refine pr_of_small N h2 fun d hd hdN => ?_
  have hdv := pk_dvd N a f d h2 hf h1 hd hdN l hp hk
  have := hd.1
  have hle := Nat.le_of_dvd (by omega) hdv
  exact Nat.lt_of_lt_of_le hF (Nat.mul_le_mul (by omega) (by omega))
/-- No divisor from k on, fuel steps by two. -/
def noDiv (n : Nat) : Nat → Nat → Bool
  | 0, _ => true
  | f + 1, k => n % k != 0 && noDiv n f (k + 1)
theorem noDiv_spec (n : Nat) (f : Nat) : ∀ k, noDiv n f k = true → ∀ d, k ≤ d → d < k + f → ¬ d ∣ n := by
  induction f with
  | zero => intro k _ d h1 h2; omega
  | succ f ih =>
    intro k h d h1 h2
    simp only [noDiv, Bool.and_eq_true, bne_iff_ne] at h
    rcases Nat.eq_or_lt_of_le h1 with rfl | h3
    · exact fun hd => h.1 (Nat.mod_eq_zero_of_dvd hd)
    · exact ih (k + 1) h.2 d (by omega) (by omega)
theorem trial (n f : Nat) (h : (decide (2 ≤ n) && noDiv n f 2 && decide (n < (f + 2) * (f + 2))) = true) : Pr n := by
  simp only [Bool.and_eq_true, decide_eq_true_eq] at h
  obtain ⟨⟨h1, h2⟩, h3⟩ := h
  refine pr_of_small n h1 fun d hd hdn => ?_
  have := hd.1
  rcases Nat.lt_or_ge d (2 + f) with h4 | h4
  · exact absurd hdn (noDiv_spec n f 2 h2 d this h4)
  · exact Nat.lt_of_lt_of_le h3 (Nat.mul_le_mul (by omega) (by omega))
theorem pr_421987 : Pr 421987 := trial _ 648 (by decide +kernel)
theorem pr_13090036741 : Pr 13090036741 := pock _ 2 34 [(421987, 0)] (by
  intro x hx
  simp only [List.mem_cons, List.not_mem_nil, or_false] at hx
  rcases hx with rfl
  · exact pr_421987) (by decide +kernel)
theorem pr_755057 : Pr 755057 := trial _ 867 (by decide +kernel)
theorem pr_x18131021 : Pr 3819663927398918131021 := pock _ 2 72 [(13090036741, 0), (755057, 0)] (by
  intro x hx
  simp only [List.mem_cons, List.not_mem_nil, or_false] at hx
  rcases hx with rfl | rfl
  · exact pr_13090036741
  · exact pr_755057) (by decide +kernel)
theorem pr_x86709967 : Pr 1125266252156850182658904441386709967 := pock _ 2 120 [(3819663927398918131021, 0)] (by
  intro x hx
  simp only [List.mem_cons, List.not_mem_nil, or_false] at hx
  rcases hx with rfl
  · exact pr_x18131021) (by decide +kernel)
theorem pr_x27714659 : Pr 15778400344354997994418419698270088123916926905054652752758194827714659 := pock _ 2 234 [(1125266252156850182658904441386709967, 0)] (by
  intro x hx
  simp only [List.mem_cons, List.not_mem_nil, or_false] at hx
  rcases hx with rfl
  · exact pr_x86709967) (by decide +kernel)
theorem pr_p : Pr 4002409555221667393417789825735904156556882819939007885332058136124031650490837864442687629129015664037894272559787 := pock _ 2 381 [(15778400344354997994418419698270088123916926905054652752758194827714659, 0)] (by
  intro x hx
  simp only [List.mem_cons, List.not_mem_nil, or_false] at hx
  rcases hx with rfl
  · exact pr_x27714659) (by decide +kernel)
end Go.Proofs.YtialfoccalobpaaDoor

/-! ## Mo -/
namespace Go.Proofs.YtialfoccalobpaaDoor
theorem emod_of_dvd_sub {M a b : Int} (h : M ∣ a - b) : a % M = b % M := Int.emod_eq_emod_iff_emod_sub_eq_zero.2 (Int.emod_eq_zero_of_dvd h)
theorem mont_fin (M R Ri a b z : Int) (hR : R * Ri % M = 1) (h0 : 0 ≤ z) (hz : z < M) (h : M ∣ z * R - a * b) : z = a * b * Ri % M := by
  have e : z * R * Ri % M = a * b * Ri % M := emod_of_dvd_sub (by rw [← Int.sub_mul]; exact Int.dvd_mul_of_dvd_left h)
  rw [← e, Int.mul_assoc, Int.mul_emod, hR, Int.mul_one, Int.emod_emod, Int.emod_eq_of_lt h0 hz]
/-- One step: a word v of x, the sum s, t times the modulus. -/
theorem mont_bound (M W s v b t s' : Int) (hW : 0 < W) (hs : 0 ≤ s) (hs2 : s < 2 * M) (hv : 0 ≤ v) (hvW : v < W) (hb : 0 ≤ b) (hbM : b < M) (ht : 0 ≤ t) (htW : t < W) (he : s' * W = s + v * b + t * M) : 0 ≤ s' ∧ s' < 2 * M := by
  have h1 : 0 ≤ v * b := Int.mul_nonneg hv hb
  have h2 : 0 ≤ t * M := Int.mul_nonneg ht (by omega)
  have h3 : v * b ≤ (W - 1) * (M - 1) := Int.mul_le_mul (by omega) (by omega) hb (by omega)
  have h4 : t * M ≤ (W - 1) * M := Int.mul_le_mul_of_nonneg_right (by omega) (by omega)
  have e3 : (W - 1) * (M - 1) = W * M - W - M + 1 := by grind
  have e4 : (W - 1) * M = W * M - M := by grind
  constructor
  · rcases Int.lt_or_le s' 0 with h | h
    · have : s' * W ≤ -1 * W := Int.mul_le_mul_of_nonneg_right (by omega) (by omega)
      omega
    · exact h
  · rcases Int.lt_or_le s' (2 * M) with h | h
    · exact h
    · have : 2 * M * W ≤ s' * W := Int.mul_le_mul_of_nonneg_right h (by omega)
      have e5 : 2 * M * W = 2 * (W * M) := by grind
      omega
theorem emm (a b M : Int) : a % M * b % M = a * b % M := by rw [Int.mul_emod, Int.emod_emod, ← Int.mul_emod]
theorem mem' (a b M : Int) : a * (b % M) % M = a * b % M := by rw [Int.mul_emod, Int.emod_emod, ← Int.mul_emod]
/-- A number times R, below the modulus. -/
def fe (M R x : Int) : Int := x * R % M
section
variable {M R Ri : Int}
theorem fe_lo (hM : 0 < M) (x : Int) : 0 ≤ fe M R x ∧ fe M R x < M := ⟨Int.emod_nonneg _ (by omega), Int.emod_lt_of_pos _ hM⟩
theorem fe_add (x y : Int) : (fe M R x + fe M R y) % M = fe M R (x + y) := by unfold fe; rw [← Int.add_emod, Int.add_mul]
theorem fe_sub (x y : Int) : (fe M R x - fe M R y) % M = fe M R (x - y) := by unfold fe; rw [← Int.sub_emod, Int.sub_mul]
theorem fe_plain (hR : R * Ri % M = 1) (x : Int) : fe M R x * Ri % M = x % M := by
  unfold fe
  rw [emm, Int.mul_assoc, Int.mul_emod, hR, Int.mul_one, Int.emod_emod]
theorem fe_mul (hR : R * Ri % M = 1) (x y : Int) : fe M R x * fe M R y * Ri % M = fe M R (x * y) := by
  rw [Int.mul_assoc, ← mem', fe_plain hR, mem']
  unfold fe
  rw [emm]
  congr 1
  grind
theorem fe_of (hR : R * Ri % M = 1) (a : Int) : a * fe M R R * Ri % M = fe M R a := by
  rw [Int.mul_assoc, ← mem', fe_plain hR, mem']
  rfl
theorem fe_inj (hR : R * Ri % M = 1) {x y : Int} : fe M R x = fe M R y ↔ x % M = y % M := by
  constructor
  · intro h
    rw [← fe_plain hR x, ← fe_plain hR y, h]
  · intro h
    unfold fe
    rw [Int.mul_emod, h, ← Int.mul_emod]
end
def Wd : Int := 18446744073709551616
/-- The i-th word. -/
def wd (x : Int) : Nat → Int
  | 0 => x % Wd
  | i + 1 => wd (x / Wd) i
theorem wd_lo (x : Int) (i : Nat) : 0 ≤ wd x i ∧ wd x i < Wd := by
  induction i generalizing x with
  | zero => simp only [wd, Wd]; omega
  | succ i ih => exact ih _
/-- The number of a list of words. -/
def nu : List Int → Int
  | [] => 0
  | d :: t => d + Wd * nu t
def wds (x : Int) : Nat → List Int
  | 0 => []
  | n + 1 => x % Wd :: wds (x / Wd) n
theorem wds_nu (l : List Int) (h : ∀ d ∈ l, 0 ≤ d ∧ d < Wd) : wds (nu l) l.length = l := by
  induction l with
  | nil => rfl
  | cons d t ih =>
    have hd := h d (by simp)
    have e1 : (d + Wd * nu t) % Wd = d := by rw [Int.add_mul_emod_self_left]; exact Int.emod_eq_of_lt hd.1 hd.2
    have e2 : (d + Wd * nu t) / Wd = nu t := by
      rw [Int.add_mul_ediv_left _ _ (by simp [Wd]), Int.ediv_eq_zero_of_lt hd.1 hd.2, Int.zero_add]
    simp only [nu, List.length_cons, wds, e1, e2]
    rw [ih fun x hx => h x (by simp [hx])]
theorem nu_wds (n : Nat) : ∀ x, nu (wds x n) = x % Wd ^ n := by
  induction n with
  | zero => intro x; simp [wds, nu, Int.emod_one]
  | succ n ih =>
    intro x
    rw [wds, nu, ih, Int.pow_succ]
    have hp : 0 < Wd ^ n := Int.pow_pos (by simp [Wd])
    generalize Wd ^ n = P at hp
    have hW : (0 : Int) < Wd := by simp [Wd]
    have h1 := Int.emod_nonneg x (by omega : Wd ≠ 0)
    have h2 := Int.emod_lt_of_pos x hW
    have h3 := Int.emod_nonneg (x / Wd) (by omega : P ≠ 0)
    have h4 := Int.emod_lt_of_pos (x / Wd) hp
    have h5 : Wd * (x / Wd % P) ≤ Wd * (P - 1) := Int.mul_le_mul_of_nonneg_left (by omega) (by omega)
    have h6 : 0 ≤ Wd * (x / Wd % P) := Int.mul_nonneg (by omega) h3
    have h7 : Wd * (P - 1) = P * Wd - Wd := by grind
    have h8 : x % Wd + Wd * (x / Wd % P) = (x % Wd + Wd * (x / Wd % P)) % (P * Wd) := (Int.emod_eq_of_lt (by omega) (by omega)).symm
    rw [h8]
    refine Int.emod_eq_emod_iff_emod_sub_eq_zero.2 (Int.emod_eq_zero_of_dvd ⟨-(x / Wd / P), ?_⟩)
    have e1 := Int.emod_add_mul_ediv x Wd
    have e2 := Int.emod_add_mul_ediv (x / Wd) P
    grind
end Go.Proofs.YtialfoccalobpaaDoor

/-! ## Mem -/
namespace Go.Proofs.YtialfoccalobpaaDoor
open Go.RowKit

theorem block_of_add (a : Addr) (n : Nat) : (a.add n).block = a.block := by unfold Addr.add; split <;> rfl
theorem add_plain (g o i : Nat) : (⟨g, o, none⟩ : Addr).add i = ⟨g, o + i, none⟩ := by
  unfold Addr.add; split <;> simp_all

/-- Block g is just the cells cs of element type t, none frozen. -/
def Blk (w : World) (g : Nat) (t : TypeId) (cs : Array Value) : Prop := w.heap[g]? = some (.cells cs t (0, 0))
section
variable {w w' : World} {g : Nat} {t : TypeId} {cs : Array Value}
theorem Blk.lt (h : Blk w g t cs) : g < w.heap.size := by
  rcases Nat.lt_or_ge g w.heap.size with hlt | hge
  · exact hlt
  · unfold Blk at h; rw [Array.getElem?_eq_none hge] at h; cases h
theorem Blk.cell (h : Blk w g t cs) (i : Nat) : w.cell? ⟨g, i, none⟩ = cs[i]? := cell_of_row w g i cs t (0, 0) h
theorem Blk.frozen (h : Blk w g t cs) (i : Nat) : w.frozen? ⟨g, i, none⟩ = false := by
  unfold Blk at h
  simp [World.frozen?, h]
theorem Blk.new (w : World) (t : TypeId) (cs : Array Value) : Blk (w.alloc (.cells cs t)) w.heap.size t cs := heap_alloc_new w _
theorem Blk.drew (h : Blk w g t cs) : Blk w.drew g t cs := h
theorem Blk.drewN (h : Blk w g t cs) (n : Nat) : Blk (w.drewN n) g t cs := h
theorem Blk.alloc (h : Blk w g t cs) (o : Obj) : Blk (w.alloc o) g t cs := (Below.heap_alloc w o g h.lt).trans h
theorem Blk.set_ (h : Blk w g t cs) (i : Nat) (u : Value) : Blk (w.setCell ⟨g, i, none⟩ u) g t (cs.setIfInBounds i u) := by
  unfold Blk at h ⊢
  simp [World.setCell, Array.getElem?_modify, h]
theorem Blk.far (h : Blk w g t cs) {p : Addr} (hp : g ≠ p.block) (u : Value) : Blk (w.setCell p u) g t cs := (Below.heap_setCell w p u g hp).trans h
theorem Blk.below {B : Nat} (h : Blk w g t cs) (hb : Below B w w') (hg : g < B) : Blk w' g t cs := (hb.block g hg).trans h
theorem Blk.keep (h : Blk w g t cs) (hb : Below w.heap.size w w') : Blk w' g t cs := (hb.block g h.lt).trans h
theorem Blk.grown {row : Option Nat} (h : Blk w g t cs) (hb : w.grownBy w' row) (hg : some g ≠ row) : Blk w' g t cs := (hb.block g h.lt hg).trans h
theorem Blk.some_ (h : Blk w g t cs) {i : Nat} (hi : i < cs.size) : ∃ v, w.cell? ⟨g, i, none⟩ = some v := ⟨cs[i], by rw [h.cell]; exact Array.getElem?_eq_getElem hi⟩
theorem Blk.at_ (h : Blk w g t cs) {i : Nat} {v : Value} (hi : cs[i]? = some v) : w.cell? ⟨g, i, none⟩ = some v := by rw [h.cell]; exact hi
theorem Blk.cast {cs' : Array Value} (h : Blk w g t cs) (e : cs = cs') : Blk w g t cs' := e ▸ h
end

theorem below_drewN {B : Nat} {a w : World} (h : Below B a w) (n : Nat) : Below B a (w.drewN n) := ⟨h.os, h.tape, h.output, h.size, h.block⟩
/-- The slice value '.slice A n c' holds the one-cell values xs, in blocks below B. -/
def Reads (w : World) (B : Nat) (A : Option Addr) (n : Nat) (xs : List Value) : Prop :=
  xs.length = n ∧ (0 < n → ∃ b o, A = some ⟨b, o, none⟩ ∧ b < B ∧ ∀ j u, xs[j]? = some u → w.cell? ⟨b, o + j, none⟩ = some u)
section
variable {w w' : World} {B B' n : Nat} {A : Option Addr} {xs : List Value}
theorem Reads.nil_ : Reads w B A 0 [] := ⟨by simp, fun h => absurd h (by omega)⟩
theorem Reads.keep (h : Reads w B A n xs) (hk : ∀ p : Addr, p.block < B → w'.cell? p = w.cell? p) : Reads w' B A n xs :=
  ⟨h.1, fun hn => by
    obtain ⟨b, o, e, hb, hc⟩ := h.2 hn
    exact ⟨b, o, e, hb, fun j u hu => (hk _ hb).trans (hc j u hu)⟩⟩
theorem Reads.more (h : Reads w B A n xs) (hB : B ≤ B') : Reads w B' A n xs :=
  ⟨h.1, fun hn => by
    obtain ⟨b, o, e, hb, hc⟩ := h.2 hn
    exact ⟨b, o, e, by omega, hc⟩⟩
theorem Reads.below (h : Reads w B A n xs) (hb : Below B w w') : Reads w' B A n xs := h.keep fun _ hp => hb.cell hp
theorem Reads.drew (h : Reads w B A n xs) : Reads w.drew B A n xs := h
theorem Reads.drewN (h : Reads w B A n xs) (k : Nat) : Reads (w.drewN k) B A n xs := h
theorem Reads.grown (h : Reads w B A n xs) {g : Nat} (hg : w.grownBy w' (some g)) (hB : B ≤ w.heap.size) (hr : B ≤ g) : Reads w' B A n xs :=
  h.keep fun p hp => World.cell?_of_block (hg.block p.block (by omega) (fun e => by cases e; omega))
theorem Reads.front (h : Reads w B A n xs) {k : Nat} (hk : k ≤ n) : Reads w B A k (xs.take k) := by
  refine ⟨by rw [List.length_take, h.1]; omega, fun hn => ?_⟩
  obtain ⟨b, o, rfl, hb, hcell⟩ := h.2 (by omega)
  refine ⟨b, o, rfl, hb, fun j u hu => hcell j u ?_⟩
  rw [List.getElem?_take] at hu
  split at hu
  · exact hu
  · cases hu
theorem Blk.reads {g : Nat} {t : TypeId} {cs : Array Value} (h : Blk w g t cs) (hg : g < B) (o n : Nat) (hn : o + n ≤ cs.size) :
    Reads w B (some ⟨g, o, none⟩) n ((cs.toList.drop o).take n) := by
  refine ⟨by simp; omega, fun _ => ⟨g, o, rfl, hg, fun j u hu => ?_⟩⟩
  rw [h.cell]
  rw [List.getElem?_take] at hu
  split at hu
  · rw [List.getElem?_drop] at hu
    simpa using hu
  · cases hu
end

/-- The slice value '.slice A n c' holds the values xs, in a block other than g. -/
def Src (w : World) (g : Nat) (A : Option Addr) (n : Nat) (xs : List Value) : Prop :=
  xs.length = n ∧ (0 < n → ∃ b o, A = some ⟨b, o, none⟩ ∧ b ≠ g ∧ b < w.heap.size ∧ ∀ j u, xs[j]? = some u → w.cell? ⟨b, o + j, none⟩ = some u)
section
variable {w w' : World} {B g n : Nat} {A : Option Addr} {xs : List Value}
theorem Src.only (h : Src w g A n xs) (hk : w.grownBy w' (some g)) : Src w' g A n xs :=
  ⟨h.1, fun hn => by
    obtain ⟨b, o, e, hb, hl, hc⟩ := h.2 hn
    exact ⟨b, o, e, hb, Nat.lt_of_lt_of_le hl hk.size, fun j u hu => (World.cell?_of_block (hk.block b hl (fun e => hb (by cases e; rfl)))).trans (hc j u hu)⟩⟩
theorem Src.drewN (h : Src w g A n xs) (k : Nat) : Src (w.drewN k) g A n xs := h
theorem Reads.src (h : Reads w B A n xs) (hB : B ≤ g) (hl : B ≤ w.heap.size) : Src w g A n xs :=
  ⟨h.1, fun hn => by
    obtain ⟨b, o, e, hb, hc⟩ := h.2 hn
    exact ⟨b, o, e, by omega, by omega, hc⟩⟩
theorem Blk.src {b : Nat} {t : TypeId} {cs : Array Value} (h : Blk w b t cs) (hg : b ≠ g) (o n : Nat) (hn : o + n ≤ cs.size) :
    Src w g (some ⟨b, o, none⟩) n ((cs.toList.drop o).take n) := by
  refine ⟨by simp; omega, fun _ => ⟨b, o, rfl, hg, h.lt, fun j u hu => ?_⟩⟩
  rw [h.cell]
  rw [List.getElem?_take] at hu
  split at hu
  · rw [List.getElem?_drop] at hu
    simpa using hu
  · cases hu
end
theorem madeCells_one (z : Value) (n : Nat) : madeCells #[z] n = Array.replicate n z := by
  apply Array.ext
  · simp [madeCells]
  · intro i h1 h2
    simp [madeCells, Nat.mod_one]

/-- 'make([]T, n)', elements of one cell, the size known by an equation; the world behind it is a variable. -/
theorem wpList_make_new {P : Program} (w : World) {ops : Array Oper} {rest : List Oper} {o : Oper} {a : Act} {Q : Exit → Act → World → Prop}
    (hg : o.guard = none) (l c : Operand) (t : TypeId) (hop : o.op = Op.makeSlice t l c)
    (e : TypeId) (z : Value) (bytes : Nat) (ht : P.underlying t = some (.slice e)) (hinfo : (P.info? e).map (fun i => (i.zero, i.size, i.bytes)) = some (some z, 1, bytes)) (hz1 : z.cells = #[z])
    (kl kc : IntKind) (v : Int) (n : Nat) (hl : a.eval l = .int kl v) (hc : a.eval c = .int kc v) (hv : v = (n : Int)) (hbytes : bytes * n ≤ 281474976710656) (h63 : n ≤ 9223372036854775807)
    (hK : ∀ w', Below w.heap.size w w' → w.heap.size < w'.heap.size → Blk w' w.heap.size e (Array.replicate n z) → wpList P ops Q rest (a.put o.dst (.slice (some ⟨w.heap.size, 0, none⟩) n n)) w') :
    wpList P ops Q (o :: rest) a w := by
  subst hv
  refine wpList_plain hg fun K hK' => ?_
  have hrun := run_make_row' (P := P) t e z bytes ht hinfo hz1 kl kc n hbytes h63 w
  rw [madeCells_one] at hrun
  unfold Oper.wp
  simp [execOp, hop, hl, hc, hrun, Result.andThen]
  exact hK' _ _ (hK _ ((Below.refl _ _).alloc (Nat.le_refl _) _) (by simp) (Blk.new _ _ _))

theorem setRow_only {w : World} {g : Nat} (cs : Array Value) : w.grownBy (w.setRow g cs) (some g) :=
  ⟨rfl, rfl, rfl, by simp [World.setRow], fun k _ hne => setRow_other w g k cs (fun e => hne (by rw [e]))⟩

/-- A store of an array or a struct value into the middle of a block that is known whole: nothing else turns. -/
theorem run_storeVar_only {P : Program} (w : World) (g o : Nat) (t ty : TypeId) (old cells : Array Value) (hg : Blk w g t old) (hi : (P.info? ty).map (·.size) = some cells.size)
    (ho : o + cells.size ≤ old.size) (h1 : cells.all (·.oneCell') = true) :
    (storeVar ty ⟨g, o, none⟩ (.agg cells)).run P w = .ok () (w.setRow g (splice old.toList o cells.toList).toArray) := by
  have := run_storeCells_at (P := P) g o t cells.toList 0 old w hg (by simpa using ho) (fun v hv => (Array.all_eq_true_iff_forall_mem.1 h1) v (by simpa using hv))
  cases hq : P.info? ty with
  | none => simp [hq] at hi
  | some i =>
    have hs : cells.size = i.size := by simp [hq] at hi; omega
    simp [storeVar, sizeOf, typeInfo, hq, Value.cells, hs, this, splice, List.append_assoc]
theorem wpList_store_only {P : Program} {ops : Array Oper} {rest : List Oper} {op : Oper} {a : Act} {w : World} {Q : Exit → Act → World → Prop} (hgd : op.guard = none) (ty : TypeId) (x y : Operand) (ho : op.op = .store ty x y)
    (g o : Nat) (t : TypeId) (old cells : Array Value) (hx : a.eval x = .pointer (some ⟨g, o, none⟩)) (hy : a.eval y = .agg cells)
    (hg : Blk w g t old) (hi : (P.info? ty).map (·.size) = some cells.size) (hfit : o + cells.size ≤ old.size) (h1 : cells.all (·.oneCell') = true)
    (h : ∀ w', Hid (Blk w' g t (splice old.toList o cells.toList).toArray) → Hid (w.grownBy w' (some g)) → wpList P ops Q rest (a.put op.dst undef) w') : wpList P ops Q (op :: rest) a w :=
  wpList_plain hgd fun _ hK => by
    unfold Oper.wp execOp
    simp only [ho, hx, hy, Instr.storeAt, Instr.sureAddr, Sem.run_bind, Sem.run_pure, Result.andThen_ok, run_storeVar_only w g o t ty old cells hg hi hfit h1]
    exact hK _ _ (h _ (setRow_heap w g _ _ t _ hg) (setRow_only _))
theorem splice_all {α : Type} (L cs : List α) (h : cs.length = L.length) : splice L 0 cs = cs := by simp [splice, h]
/-- An array read out of a row of cells. -/
theorem wpList_load_range {P : Program} {ops : Array Oper} {rest : List Oper} {op : Oper} {a : Act} {w : World} {Q : Exit → Act → World → Prop} (hgd : op.guard = none) (ty : TypeId) (x : Operand) (ho : op.op = .load ty x)
    (g o : Nat) (hx : a.eval x = .pointer (some ⟨g, o, none⟩)) (cs : Array Value) (d : TypeDesc) (hc : ∀ (j : Nat) v, cs[j]? = some v → w.cell? ⟨g, o + j, none⟩ = some v)
    (hu : P.underlying ty = some d) (hd : (match d with | .struct _ | .array _ _ => true | _ => false) = true) (hi : (P.info? ty).map (·.size) = some cs.size)
    (h : wpList P ops Q rest (a.put op.dst (.agg cs)) w) : wpList P ops Q (op :: rest) a w :=
  wpList_plain hgd fun _ hK => by
    have hl : (loadCells ⟨g, o, none⟩ cs.toList.length).run P w = .ok cs.toList.toArray w :=
      run_loadCells_list (P := P) w ⟨g, o, none⟩ cs.toList (fun j v hv => by rw [add_plain]; exact hc j v (by simpa using hv))
    have hrun : (loadVar ty ⟨g, o, none⟩).run P w = .ok (.agg cs) w := by
      cases hq : P.info? ty with
      | none => simp [hq] at hi
      | some i =>
        have hs : i.size = cs.size := by simpa [hq] using hi
        have hagg : (isAgg ty).run P w = .ok true w := by
          unfold isAgg
          rw [Sem.run_bind, run_underlying hu w]
          cases d <;> simp_all
        simp only [Array.length_toList, Array.toArray_toList] at hl
        simp [loadVar, Sem.run_bind, hagg, sizeOf, typeInfo, hq, hs, hl]
    unfold Oper.wp execOp
    simp only [ho, hx, Instr.loadAt, Instr.sureAddr, Sem.run_bind, Sem.run_pure, Result.andThen_ok, hrun]
    exact hK _ _ h
theorem Blk.range {w : World} {g : Nat} {t : TypeId} {cs : Array Value} (h : Blk w g t cs) : ∀ (j : Nat) v, cs[j]? = some v → w.cell? ⟨g, 0 + j, none⟩ = some v := by
  intro j v hv
  rw [Nat.zero_add, h.cell]
  exact hv

/-- The same two, the operation written out: for '(with_reducible refine ..)', which fails at once where it does not fit. -/
theorem wpList_load_at {P : Program} {ops : Array Oper} {rest : List Oper} {dst : Option Tmp} {ty ty' : TypeId} {x : Operand} {pos : String} {after : Array Edge} {a : Act} {w : World} {Q : Exit → Act → World → Prop}
    (g o : Nat) (cs : Array Value) (d : TypeDesc) (hx : a.eval x = .pointer (some ⟨g, o, none⟩)) (hc : ∀ (j : Nat) v, cs[j]? = some v → w.cell? ⟨g, o + j, none⟩ = some v)
    (hu : P.underlying ty = some d) (hd : (match d with | .struct _ | .array _ _ => true | _ => false) = true) (hi : (P.info? ty).map (·.size) = some cs.size)
    (h : wpList P ops Q rest (a.put dst (.agg cs)) w) : wpList P ops Q (⟨dst, .load ty x, ty', pos, after, none⟩ :: rest) a w :=
  wpList_load_range rfl ty x rfl g o hx cs d hc hu hd hi h
theorem wpList_store_at {P : Program} {ops : Array Oper} {rest : List Oper} {dst : Option Tmp} {ty ty' : TypeId} {x y : Operand} {pos : String} {after : Array Edge} {a : Act} {w : World} {Q : Exit → Act → World → Prop}
    (g o : Nat) (t : TypeId) (old cells : Array Value) (hx : a.eval x = .pointer (some ⟨g, o, none⟩)) (hy : a.eval y = .agg cells)
    (hg : Blk w g t old) (hi : (P.info? ty).map (·.size) = some cells.size) (hfit : o + cells.size ≤ old.size) (h1 : cells.all (·.oneCell') = true)
    (h : ∀ w', Hid (Blk w' g t (splice old.toList o cells.toList).toArray) → Hid (w.grownBy w' (some g)) → wpList P ops Q rest (a.put dst undef) w') : wpList P ops Q (⟨dst, .store ty x y, ty', pos, after, none⟩ :: rest) a w :=
  wpList_store_only rfl ty x y rfl g o t old cells hx hy hg hi hfit h1 h
end Go.Proofs.YtialfoccalobpaaDoor

/-! ## MemB -/
namespace Go.Proofs.YtialfoccalobpaaDoor
open Go.RowKit

section
variable {P : Program}
theorem run_append_reads (w : World) (base : Nat) (t ty e : TypeId) (z : Value) (bytes : Nat) (ht : P.underlying t = some (.slice e)) (hinfo : (P.info? e).map (fun i => (i.zero, i.size, i.bytes)) = some (some z, 1, bytes)) (hzs : z.cells.size = 1)
    (v : Value) (n : Nat) (xs : List Value) (hown : w.ownsRow base e 1 v n xs) (B : Nat) (A : Option Addr) (m c : Nat) (news : List Value) (hr : Reads w B A m news) (h1 : ∀ u ∈ news, u.oneCell' = true)
    (h63 : n + m ≤ 9223372036854775807) (hbytes : (n + m) * bytes ≤ 140737488355328) (hbase : base ≤ w.heap.size) :
    ∃ v' w', (Builtin.append_ #[t, t] ty #[v, .slice A m c]).run P w = .ok v' w' ∧ w'.ownsRow base e 1 v' (n + m) (xs ++ news) ∧ w.grownBy w' v.ownBlock ∧
      (v'.ownBlock = v.ownBlock ∨ v'.ownBlock = some w.heap.size) := by
  obtain ⟨i, hi, hz⟩ := Option.map_eq_some_iff.1 hinfo
  simp only [Prod.mk.injEq] at hz
  obtain ⟨hz0, hz1, hz2⟩ := hz
  rcases A with _ | ad
  · have hm : m = 0 := by
      rcases Nat.eq_zero_or_pos m with h0 | h0
      · exact h0
      · obtain ⟨b, o, h, _⟩ := hr.2 h0
        cases h
    subst hm
    have hn : news = [] := List.eq_nil_of_length_eq_zero (by simpa using hr.1)
    subst hn
    have hrun : (Builtin.append_ #[t, t] ty #[v, .slice none 0 c]).run P w = .ok v w := by
      rcases hown.2 with ⟨rfl, rfl⟩ | ⟨g, cap, cur, rfl, _, _, hnc, _⟩
      · simp [Builtin.append_, run_underlying ht, sizeOf, typeInfo, hi, Builtin.lenOf, Builtin.firstCells]
      · simp [Builtin.append_, run_underlying ht, sizeOf, typeInfo, hi, Builtin.lenOf, Builtin.firstCells, hnc, storeCells]
    exact ⟨v, w, hrun, by simpa using hown, ⟨rfl, rfl, rfl, Nat.le_refl _, fun _ _ _ => rfl⟩, .inl rfl⟩
  · have hcells : ∀ j u, news[j]? = some u → w.cell? (ad.add j) = some u := by
      intro j u hu
      rcases Nat.eq_zero_or_pos m with h0 | h0
      · subst h0
        have hn : news = [] := List.eq_nil_of_length_eq_zero (by simpa using hr.1)
        subst hn
        simp at hu
      · obtain ⟨b, o, h, _, hc⟩ := hr.2 h0
        injection h with h
        subst h
        rw [add_plain]
        exact hc j u hu
    obtain ⟨v', w', hrun, h2, h3, _, h5⟩ := run_append_own_at (P := P) w base t ty e i z 1 bytes ht hi hz0 hz1 hz2 hzs (by omega) v n xs hown ad m c news (by rw [hr.1]; omega) hcells h1 (by simp only [maxLen]; omega) hbytes hbase
    exact ⟨v', w', hrun, h2, h3, h5⟩
end
theorem Blk.owns {w : World} {g base n cap : Nat} {e : TypeId} {cs : Array Value} (h : Blk w g e cs) (hb : base ≤ g) (hn : n ≤ cap) (hs : cs.size = cap) (hm : cap ≤ 9223372036854775807) :
    w.ownsRow base e 1 (.slice (some ⟨g, 0, none⟩) n cap) n (cs.toList.take n) :=
  ⟨by simp; omega, .inr ⟨g, cap, cs, rfl, hb, h, hn, by simp only [maxLen]; omega, by omega, by simp⟩⟩
theorem owns_blk {w : World} {base n : Nat} {e : TypeId} {v : Value} {xs : List Value} (h : w.ownsRow base e 1 v n xs) (hn : 0 < n) :
    ∃ g cap cs, v = .slice (some ⟨g, 0, none⟩) n cap ∧ base ≤ g ∧ Blk w g e cs ∧ n ≤ cap ∧ cs.size = cap ∧ cs.toList.take n = xs ∧ cap ≤ 9223372036854775807 := by
  rcases h.2 with ⟨_, h0⟩ | ⟨g, cap, cur, hv, hb, hg, hnc, hm, hs, ht⟩
  · omega
  · exact ⟨g, cap, cur, hv, hb, hg, hnc, by omega, by simpa using ht, by simpa only [maxLen] using hm⟩
end Go.Proofs.YtialfoccalobpaaDoor

/-! ## Word -/
namespace Go.Proofs.YtialfoccalobpaaDoor
open Go.RowKit
/-- The high word and the low word. -/
def hiW (x : Int) : Int := x / Wd
def loW (x : Int) : Int := x % Wd
theorem hilo (x : Int) : Wd * hiW x + loW x = x := by unfold hiW loW; exact Int.mul_ediv_add_emod x Wd
theorem loW_in (x : Int) : 0 ≤ loW x ∧ loW x < Wd := by unfold loW; simp only [Wd]; omega
theorem wrapU (x : Int) : IntKind.u64.wrap x = loW x := by
  unfold loW Wd
  simp [IntKind.wrap, IntKind.bits, IntKind.signed]
theorem loW_of {x : Int} (h0 : 0 ≤ x) (h : x < Wd) : loW x = x := Int.emod_eq_of_lt h0 h
theorem run_addc (x y c : Int) (hx : 0 ≤ x) (hy : 0 ≤ y) (hc0 : 0 ≤ c) (hc : c ≤ 1) (w : World) :
    (callFunc 75 #[.int .u64 x, .int .u64 y, .int .u64 c]).run Tryd.prog w = .ok (.value (.tuple #[.int .u64 (loW (x + y + c)), .int .u64 (hiW (x + y + c))])) w := by
  rw [run_callFunc_extern Tryd.func75 (by kernel_rfl) (by kernel_rfl) (by kernel_rfl) (e := add64Entry) (by kernel_rfl), run_add64 x y c hx hy hc0 hc]
  rfl
theorem run_subc (x y b : Int) (hx : 0 ≤ x) (hy : 0 ≤ y) (hx2 : x < Wd) (hy2 : y < Wd) (hb0 : 0 ≤ b) (hb : b ≤ 1) (w : World) :
    (callFunc 147 #[.int .u64 x, .int .u64 y, .int .u64 b]).run Tryd.prog w = .ok (.value (.tuple #[.int .u64 (loW (x - y - b)), .int .u64 (-hiW (x - y - b))])) w := by
  obtain ⟨X, rfl⟩ := Int.eq_ofNat_of_zero_le hx
  obtain ⟨Y, rfl⟩ := Int.eq_ofNat_of_zero_le hy
  obtain ⟨B, rfl⟩ := Int.eq_ofNat_of_zero_le hb0
  rw [run_callFunc_extern Tryd.func147 (by kernel_rfl) (by kernel_rfl) (by kernel_rfl) (e := sub64Entry) (by kernel_rfl), run_sub64 X Y B (by omega)]
  have e1 : (((X + 18446744073709551616 - Y - B) % 18446744073709551616 : Nat) : Int) = loW ((X : Int) - Y - B) := by
    unfold loW Wd at *
    omega
  have e2 : (((if X < Y + B then 1 else 0 : Nat)) : Int) = -hiW ((X : Int) - Y - B) := by
    unfold hiW Wd at *
    split <;> omega
  rw [e1, e2]
  rfl
theorem addc_ex (x y c : Int) (hx : 0 ≤ x) (hx2 : x < Wd) (hy : 0 ≤ y) (hy2 : y < Wd) (hc0 : 0 ≤ c) (hc : c ≤ 1) :
    ∃ s k, Hid (∀ w, (callFunc 75 #[.int .u64 x, .int .u64 y, .int .u64 c]).run Tryd.prog w = .ok (.value (.tuple #[.int .u64 s, .int .u64 k])) w) ∧ Hid (s + Wd * k = x + y + c) ∧ 0 ≤ s ∧ s < Wd ∧ 0 ≤ k ∧ k ≤ 1 := by
  have h := hilo (x + y + c)
  have h2 := loW_in (x + y + c)
  refine ⟨_, _, Lib.hid (run_addc x y c hx hy hc0 hc), Lib.hid (by omega), h2.1, h2.2, ?_, ?_⟩
  · unfold hiW Wd at *; omega
  · unfold hiW Wd at *; omega
theorem subc_ex (x y b : Int) (hx : 0 ≤ x) (hx2 : x < Wd) (hy : 0 ≤ y) (hy2 : y < Wd) (hb0 : 0 ≤ b) (hb : b ≤ 1) :
    ∃ s k, Hid (∀ w, (callFunc 147 #[.int .u64 x, .int .u64 y, .int .u64 b]).run Tryd.prog w = .ok (.value (.tuple #[.int .u64 s, .int .u64 k])) w) ∧ Hid (s - Wd * k = x - y - b) ∧ 0 ≤ s ∧ s < Wd ∧ 0 ≤ k ∧ k ≤ 1 := by
  have h := hilo (x - y - b)
  have h2 := loW_in (x - y - b)
  refine ⟨_, _, Lib.hid (run_subc x y b hx hy hx2 hy2 hb0 hb), Lib.hid (by rw [Int.mul_neg]; omega), h2.1, h2.2, ?_, ?_⟩
  · unfold hiW Wd at *; omega
  · unfold hiW Wd at *; omega
section
variable {P : Program}
end
set_option maxHeartbeats 1000000 in
theorem mul64_nat (x y : Nat) (hx : x < 18446744073709551616) (hy : y < 18446744073709551616) (w : World) :
    Calls Tryd.prog 145 #[.int .u64 x, .int .u64 y] w fun e w' => e = .returned (.tuple #[.int .u64 ((x * y / 18446744073709551616 : Nat) : Int), .int .u64 ((x * y % 18446744073709551616 : Nat) : Int)]) ∧ w' = w := by
  obtain ⟨bd, bt, bw, hhi⟩ := Lib.mul64_hi x y hx hy
  have ba := Lib.half_mul_le (a := x / 4294967296) (b := y / 4294967296) (by omega) (by omega)
  have bb := Lib.half_mul_le (a := x / 4294967296) (b := y % 4294967296) (by omega) (by omega)
  have bc := Lib.half_mul_le (a := x % 4294967296) (b := y / 4294967296) (by omega) (by omega)
  have ba' : x / 4294967296 * (y / 4294967296) < 18446744073709551616 := by omega
  have bb' : x / 4294967296 * (y % 4294967296) < 18446744073709551616 := by omega
  have bc' : x % 4294967296 * (y / 4294967296) < 18446744073709551616 := by omega
  have bh1 : x / 4294967296 * (y / 4294967296) + (x / 4294967296 * (y % 4294967296) + x % 4294967296 * (y % 4294967296) / 4294967296) / 4294967296 < 18446744073709551616 := by omega
  have bh : x / 4294967296 * (y / 4294967296) + (x / 4294967296 * (y % 4294967296) + x % 4294967296 * (y % 4294967296) / 4294967296) / 4294967296 + ((x / 4294967296 * (y % 4294967296) + x % 4294967296 * (y % 4294967296) / 4294967296) % 4294967296 + x % 4294967296 * (y / 4294967296)) / 4294967296 < 18446744073709551616 := by omega
  go_enter Tryd.func145, Tryd.ntmps145
  go_wp2
  simp only [Mul64.maskN x hx, Mul64.maskN y hy, Mul64.divN, Mul64.mulN, Mul64.addN, Mul64.wrapN _ bd, Mul64.wrapN _ bb', Mul64.wrapN _ bt, Mul64.maskN _ bt, Mul64.wrapN _ bc', Mul64.wrapN _ bw, Mul64.wrapN _ ba', Mul64.wrapN _ bh1, Mul64.wrapN _ bh, Mul64.wrapM (x * y)]
  rw [hhi]
  go_ret2
  exact ⟨rfl, rfl⟩
theorem mul64_any (x y : Int) (w : World) (hx0 : 0 ≤ x) (hx : x < Wd) (hy0 : 0 ≤ y) (hy : y < Wd) :
    Calls Tryd.prog 145 #[.int .u64 x, .int .u64 y] w fun e w' => e = .returned (.tuple #[.int .u64 (hiW (x * y)), .int .u64 (loW (x * y))]) ∧ w = w' := by
  obtain ⟨X, rfl⟩ := Int.eq_ofNat_of_zero_le hx0
  obtain ⟨Y, rfl⟩ := Int.eq_ofNat_of_zero_le hy0
  unfold Wd at hx hy
  refine (mul64_nat X Y (by omega) (by omega) w).mono ?_
  rintro e w' ⟨rfl, rfl⟩
  refine ⟨?_, rfl⟩
  unfold hiW loW Wd
  congr 5
/-- As two letters. -/
theorem mul64_ex (x y : Int) (hx0 : 0 ≤ x) (hx : x < Wd) (hy0 : 0 ≤ y) (hy : y < Wd) :
    ∃ h l, Hid (∀ w, Calls Tryd.prog 145 #[.int .u64 x, .int .u64 y] w fun e w' => e = .returned (.tuple #[.int .u64 h, .int .u64 l]) ∧ w = w') ∧ Hid (Wd * h + l = x * y) ∧ 0 ≤ h ∧ h < Wd ∧ 0 ≤ l ∧ l < Wd := by
  have h1 := loW_in (x * y)
  have hp : 0 ≤ x * y := Int.mul_nonneg hx0 hy0
  have hq : x * y ≤ (Wd - 1) * (Wd - 1) := Int.mul_le_mul (by omega) (by omega) hy0 (by simp [Wd])
  refine ⟨_, _, Lib.hid (fun w => mul64_any x y w hx0 hx hy0 hy), Lib.hid (hilo _), ?_, ?_, h1.1, h1.2⟩
  · unfold hiW Wd at *; omega
  · unfold hiW Wd at *; omega
end Go.Proofs.YtialfoccalobpaaDoor

/-! ## FrA -/
namespace Go.Proofs.YtialfoccalobpaaDoor
open Go.RowKit
end Go.Proofs.YtialfoccalobpaaDoor

/-! ## FrB -/
namespace Go.Proofs.YtialfoccalobpaaDoor
open Go.RowKit
end Go.Proofs.YtialfoccalobpaaDoor

/-! ## FrC -/
namespace Go.Proofs.YtialfoccalobpaaDoor
open Go.RowKit
theorem bump1 (w : World) (o : Obj) (t : TypeId) (cs : Array Value) : Blk ((w.alloc o).alloc (.cells cs t)) (w.heap.size + 1) t cs := by
  have h := Blk.new (w.alloc o) t cs
  rwa [World.size_alloc] at h
theorem bump2 (w : World) (o o2 : Obj) (t : TypeId) (cs : Array Value) : Blk (((w.alloc o).alloc o2).alloc (.cells cs t)) (w.heap.size + 1 + 1) t cs := by
  have h := Blk.new ((w.alloc o).alloc o2) t cs
  rwa [World.size_alloc, World.size_alloc] at h
end Go.Proofs.YtialfoccalobpaaDoor

/-! ## FrD -/
namespace Go.Proofs.YtialfoccalobpaaDoor
open Go.RowKit
end Go.Proofs.YtialfoccalobpaaDoor

/-! ## Eqn -/
namespace Go.Proofs.YtialfoccalobpaaDoor
open Go.RowKit
section
variable {P : Program}
theorem run_part_int (w : World) (e : TypeId) (k : IntKind) (he : P.underlying e = some (.int k)) (cs : Array Value) (i : Nat) (v : Value) (hv : cs[i]? = some v) : (part e cs i).run P w = .ok v w := by
  have ha : (isAgg e).run P w = .ok false w := by
    unfold isAgg
    rw [Sem.run_bind, run_underlying he w]
    simp
  simp only [part, Sem.run_bind, ha, Result.andThen_ok, Bool.false_eq_true, if_false, hv, Sem.run_pure]
theorem run_equalIn_arr (d : Nat) (w : World) (t e : TypeId) (n : Nat) (k : IntKind) (xs ys : Array Value) (ht : P.underlying t = some (.array n e)) (he : P.underlying e = some (.int k))
    (hs : ∀ w, (sizeOf e).run P w = .ok 1 w) (hx : ∀ i, i < n → ∃ a b, xs[i]? = some (Value.int k a) ∧ ys[i]? = some (Value.int k b)) (r : Bool)
    (hr : r = true ↔ ∀ i, i < n → xs[i]? = ys[i]?) : (Op.equalIn (d + 1 + 1) t (.agg xs) (.agg ys)).run P w = .ok r w := by
  unfold Op.equalIn
  simp only [Sem.run_bind, run_underlying ht, Result.andThen_ok, hs]
  rw [Std.Legacy.Range.forIn_eq_forIn_range']
  have hm : ∀ i ∈ List.range' 0 n 1, i < n := by intro i hi; simp [List.mem_range'] at hi; omega
  have hr' : r = true ↔ ∀ i ∈ List.range' 0 n 1, xs[i]? = ys[i]? := by
    rw [hr]
    constructor
    · intro h i hi; exact h i (hm i hi)
    · intro h i hi; exact h i (by simp [List.mem_range']; omega)
  clear hr
  show (((forIn (List.range' 0 ((n - 0 + 1 - 1) / 1) 1) _ _ : Sem _).run P w).andThen _) = _
  rw [show (n - 0 + 1 - 1) / 1 = n by simp]
  simp only [Nat.mul_one]
  generalize List.range' 0 n 1 = l at hm hr' ⊢
  induction l generalizing r with
  | nil => simp at hr'; subst hr'; simp
  | cons i l ih =>
    obtain ⟨a, b, ha, hb⟩ := hx i (hm i (by simp))
    have hp := run_part_int (P := P) w e k he xs i _ ha
    have hp2 := run_part_int (P := P) w e k he ys i _ hb
    have hq := run_equalIn_int (P := P) w d e k k a b he
    by_cases hab : a = b
    · subst hab
      simp only [List.forIn_cons, Sem.run_bind, hp, hp2, hq, Result.andThen_ok, BEq.rfl, Bool.not_true, Bool.false_eq_true, if_false, Sem.run_pure]
      exact ih r (fun j hj => hm j (by simp [hj])) (by rw [hr']; simp [ha, hb])
    · have hr0 : r = false := by
        cases r with
        | false => rfl
        | true =>
          have := hr'.1 rfl i (by simp)
          rw [ha, hb] at this
          simp at this
          exact absurd this hab
      subst hr0
      have hbe : (a == b) = false := by simpa using hab
      simp [List.forIn_cons, Sem.run_bind, hp, hp2, hq, hbe]
end
end Go.Proofs.YtialfoccalobpaaDoor

/-! ## FrE -/
namespace Go.Proofs.YtialfoccalobpaaDoor
open Go.RowKit
theorem size23 (w : World) : (sizeOf 32).run Tryd.prog w = .ok 1 w := by kernel_rfl
end Go.Proofs.YtialfoccalobpaaDoor

/-! ## FrM -/
namespace Go.Proofs.YtialfoccalobpaaDoor
open Go.RowKit
theorem wd_pos : (0 : Int) < Wd := by simp [Wd]
/-- The first k words. -/
def xk (x : Int) : Nat → Int
  | 0 => 0
  | k + 1 => xk x k + Wd ^ k * wd x k
theorem dvd_round (M s v y t s' W P X : Int) (h : M ∣ s * P - X * y) (he : s' * W = s + v * y + t * M) : M ∣ s' * (P * W) - (X + P * v) * y := by
  obtain ⟨q, hq⟩ := h
  refine ⟨q + t * P, ?_⟩
  have e1 : s' * (P * W) = P * (s + v * y + t * M) := by rw [← he]; grind
  have e2 : s * P = M * q + X * y := by omega
  rw [e1]
  grind
end Go.Proofs.YtialfoccalobpaaDoor

/-! ## FrF -/
namespace Go.Proofs.YtialfoccalobpaaDoor
open Go.RowKit
end Go.Proofs.YtialfoccalobpaaDoor

/-! ## FrG -/
namespace Go.Proofs.YtialfoccalobpaaDoor
open Go.RowKit
/-- The i-th number (0 behind the end): a name of its own, so that the walk leaves it. -/
def gt (l : List Int) (i : Nat) : Int := l.getD i 0
theorem gt_eq {l : List Int} {i : Nat} (h : i < l.length) : gt l i = l[i] := by simp [gt, h]
theorem take_snoc (l : List Int) (k : Nat) (h : k < l.length) : l.take (k + 1) = l.take k ++ [gt l k] := by
  rw [List.take_succ_eq_append_getElem h, gt_eq h]
/-- The number that bytes are, the highest first. -/
def num (l : List Int) : Int := l.foldl (fun a b => a * 256 + b) 0
theorem num_snoc (l : List Int) (b : Int) : num (l ++ [b]) = num l * 256 + b := by simp [num]
/-- All are bytes. -/
def Oct (l : List Int) : Prop := ∀ b ∈ l, 0 ≤ b ∧ b < 256
theorem Oct.take {l : List Int} (h : Oct l) (k : Nat) : Oct (l.take k) := fun b hb => h b (List.mem_of_mem_take hb)
theorem Oct.drop {l : List Int} (h : Oct l) (k : Nat) : Oct (l.drop k) := fun b hb => h b (List.mem_of_mem_drop hb)
theorem Oct.at_ {l : List Int} (h : Oct l) (k : Nat) : 0 ≤ gt l k ∧ gt l k < 256 := by
  rcases Nat.lt_or_ge k l.length with h1 | h1
  · rw [gt_eq h1]; exact h _ (List.getElem_mem h1)
  · simp [gt, h1]
theorem num_lt (l : List Int) (h : Oct l) : 0 ≤ num l ∧ num l < 256 ^ l.length := by
  suffices ∀ n, ∀ l : List Int, l.length = n → Oct l → 0 ≤ num l ∧ num l < 256 ^ n from this _ l rfl h
  intro n
  induction n with
  | zero => intro l hl _; obtain rfl := List.eq_nil_of_length_eq_zero hl; simp [num]
  | succ n ih =>
    intro l hl ho
    have e := take_snoc l n (by omega)
    rw [List.take_of_length_le (by omega)] at e
    have h1 := ih (l.take n) (by simp; omega) (ho.take n)
    have h2 := ho.at_ n
    rw [e, num_snoc, Int.pow_succ]
    omega
theorem num_app (l m : List Int) : num (l ++ m) = num l * 256 ^ m.length + num m := by
  suffices ∀ n, ∀ m : List Int, m.length = n → num (l ++ m) = num l * 256 ^ n + num m by rw [this _ m rfl]
  intro n
  induction n with
  | zero => intro m hm; obtain rfl := List.eq_nil_of_length_eq_zero hm; simp [num]
  | succ n ih =>
    intro m hm
    have e := take_snoc m n (by omega)
    rw [List.take_of_length_le (by omega)] at e
    rw [e, ← List.append_assoc, num_snoc, num_snoc, ih (m.take n) (by simp; omega), Int.pow_succ]
    grind
theorem or_shift (a b : Int) (ha0 : 0 ≤ a) (ha : a * 256 < 18446744073709551616) (hb0 : 0 ≤ b) (hb : b < 256) : bits .or .u64 (a * 256) b = a * 256 + b := by
  obtain ⟨A, rfl⟩ := Int.eq_ofNat_of_zero_le ha0
  obtain ⟨B, rfl⟩ := Int.eq_ofNat_of_zero_le hb0
  have h := u64_or_nat (A * 256) B (by omega) (by omega)
  rw [show ((A : Int) * 256) = ((A * 256 : Nat) : Int) by omega, h]
  have h2 := Nat.shiftLeft_add_eq_or_of_lt (b := B) (i := 8) (by omega) A
  rw [Nat.shiftLeft_eq, show (2 : Nat) ^ 8 = 256 from rfl] at h2
  rw [← h2]
  simp
theorem reads_cell {w : World} {B n : Nat} {A : Option Addr} {q : IntKind} {l : List Int} (h : Reads w B A n (l.map (Value.int q))) {k : Nat} (hk : k < n) :
    ∃ b o, A = some ⟨b, o, none⟩ ∧ b < B ∧ w.cell? ⟨b, o + k, none⟩ = some (.int q (gt l k)) := by
  obtain ⟨b, o, e, hb, hc⟩ := h.2 (by omega)
  have hl : k < l.length := by have := h.1; simp at this; omega
  exact ⟨b, o, e, hb, hc k _ (by rw [gt_eq hl]; simp [hl])⟩
end Go.Proofs.YtialfoccalobpaaDoor

/-! ## FrH -/
namespace Go.Proofs.YtialfoccalobpaaDoor
open Go.RowKit
end Go.Proofs.YtialfoccalobpaaDoor

/-! ## FrI -/
namespace Go.Proofs.YtialfoccalobpaaDoor
open Go.RowKit
end Go.Proofs.YtialfoccalobpaaDoor

/-! ## FrJ -/
namespace Go.Proofs.YtialfoccalobpaaDoor
open Go.RowKit
/-- The last k bytes of a number, the highest first. -/
def lo (n : Int) : Nat → List Int
  | 0 => []
  | k + 1 => (n / 256 ^ k % 256) :: lo n k
theorem lo_len (n : Int) (k : Nat) : (lo n k).length = k := by
  induction k with
  | zero => rfl
  | succ k ih => simp [lo, ih]
theorem lo_oct (n : Int) (k : Nat) : Oct (lo n k) := by
  induction k with
  | zero => intro b hb; simp [lo] at hb
  | succ k ih =>
    intro b hb
    simp only [lo, List.mem_cons] at hb
    rcases hb with rfl | hb
    · omega
    · exact ih b hb
theorem num_cons (b : Int) (l : List Int) : num (b :: l) = b * 256 ^ l.length + num l := by
  have := num_app [b] l
  simpa [num] using this
theorem num_lo (n : Int) (k : Nat) : num (lo n k) = n % 256 ^ k := by
  induction k with
  | zero => simp [lo, num, Int.emod_one]
  | succ k ih =>
    rw [lo, num_cons, ih, lo_len]
    have hp : (0 : Int) < 256 ^ k := Int.pow_pos (by omega)
    rw [Int.pow_succ]
    generalize (256 : Int) ^ k = P at hp
    have e1 := Int.emod_add_mul_ediv n P
    have e2 := Int.emod_add_mul_ediv (n / P) 256
    have h1 := Int.emod_nonneg n (by omega : P ≠ 0)
    have h2 := Int.emod_lt_of_pos n hp
    have h3 : 0 ≤ n / P % 256 ∧ n / P % 256 < 256 := by omega
    have h5 : n / P % 256 * P ≤ 255 * P := Int.mul_le_mul_of_nonneg_right (by omega) (by omega)
    have h6 : 0 ≤ n / P % 256 * P := Int.mul_nonneg (by omega) (by omega)
    have h8 : n / P % 256 * P + n % P = (n / P % 256 * P + n % P) % (P * 256) := (Int.emod_eq_of_lt (by omega) (by omega)).symm
    rw [h8]
    refine emod_of_dvd_sub ⟨-(n / P / 256), ?_⟩
    grind
theorem byte_words (n : Nat) (i : Nat) : wd (n : Int) (i / 8) / 2 ^ (8 * (i % 8)) % 256 = (n : Int) / 256 ^ i % 256 := by
  suffices ∀ j (n : Nat), ∀ r, r < 8 → wd (n : Int) j / 2 ^ (8 * r) % 256 = ((n / 2 ^ (8 * (8 * j + r)) % 256 : Nat) : Int) by
    have h := this (i / 8) n (i % 8) (Nat.mod_lt _ (by omega))
    rw [Nat.div_add_mod, Nat.pow_mul] at h
    rw [h, show (2 : Nat) ^ 8 = 256 from rfl, Int.natCast_emod, Int.natCast_ediv, Int.natCast_pow]
    rfl
  have e : (Wd : Int) = ((2 ^ 64 : Nat) : Int) := by simp [Wd]
  intro j
  induction j with
  | zero =>
    intro n r hr
    simp only [wd, Nat.mul_zero, Nat.zero_add]
    rw [e]
    have h : n % 2 ^ 64 / 2 ^ (8 * r) % 256 = n / 2 ^ (8 * r) % 256 := by
      have e64 : (2 : Nat) ^ 64 = 2 ^ (8 * r) * 2 ^ (64 - 8 * r) := by rw [← Nat.pow_add]; congr 1; omega
      rw [e64, Nat.mod_mul_right_div_self]
      exact Nat.mod_mod_of_dvd _ (Nat.pow_dvd_pow 2 (show 8 ≤ 64 - 8 * r by omega))
    have e2 : ((2 : Int) ^ (8 * r)) = ((2 ^ (8 * r) : Nat) : Int) := (Int.natCast_pow 2 (8 * r)).symm
    rw [e2, show (256 : Int) = ((256 : Nat) : Int) from rfl, ← Int.natCast_emod, ← Int.natCast_ediv, ← Int.natCast_emod, h]
  | succ j ih =>
    intro n r hr
    rw [show wd (n : Int) (j + 1) = wd ((n : Int) / Wd) j from rfl]
    rw [e, ← Int.natCast_ediv, ih (n / 2 ^ 64) r hr, Nat.div_div_eq_div_mul, ← Nat.pow_add]
    congr 4
    omega
end Go.Proofs.YtialfoccalobpaaDoor

/-! ## FrK -/
namespace Go.Proofs.YtialfoccalobpaaDoor
open Go.RowKit
/-- An array of bytes. -/
def ag8 (l : List Int) : Array Value := (l.map (Value.int .u8)).toArray
theorem ag8_size (l : List Int) : (ag8 l).size = l.length := by simp [ag8]
theorem ag8_one (l : List Int) : (ag8 l).all (·.oneCell') = true := by
  rw [Array.all_eq_true_iff_forall_mem]
  intro v hv
  simp only [ag8, List.mem_toArray, List.mem_map] at hv
  obtain ⟨_, _, rfl⟩ := hv
  rfl
theorem ag8_set (l : List Int) (i : Nat) (v : Int) : (ag8 l).setIfInBounds i (.int .u8 v) = ag8 (l.set i v) := by
  simp [ag8, List.map_set]
theorem set_lo (n : Int) (N k : Nat) (hk : k < N) : (List.replicate (N - k) (0 : Int) ++ lo n k).set (N - 1 - k) (n / 256 ^ k % 256) = List.replicate (N - (k + 1)) 0 ++ lo n (k + 1) := by
  obtain ⟨m, rfl⟩ : ∃ m, N = k + 1 + m := ⟨N - (k + 1), by omega⟩
  rw [show k + 1 + m - k = m + 1 by omega, show k + 1 + m - 1 - k = m by omega, show k + 1 + m - (k + 1) = m by omega]
  rw [List.set_append_left _ _ (by simp), List.replicate_succ', List.set_append_right _ _ (by simp)]
  simp [lo]
theorem ag8_at (l : List Int) (i : Nat) (h : i < l.length) : (ag8 l)[i]? = some (Value.int .u8 (gt l i)) := by
  simp [ag8, gt, h]
end Go.Proofs.YtialfoccalobpaaDoor

/-! ## FrL -/
namespace Go.Proofs.YtialfoccalobpaaDoor
open Go.RowKit
end Go.Proofs.YtialfoccalobpaaDoor

/-! ## Copy -/
namespace Go.Proofs.YtialfoccalobpaaDoor
open Go.RowKit
theorem byte_info : (Tryd.prog.info? 5).map (fun i => (i.zero, i.size, i.bytes)) = some (some (.int .u8 0), 1, 1) := by kernel_rfl
theorem Reads.at_ {w : World} {B n : Nat} {A : Option Addr} {bs : List Int} (h : Reads w B A n (bs.map (Value.int .u8))) {k : Nat} (hk : k < n) :
    ∃ b o, A = some ⟨b, o, none⟩ ∧ b < B ∧ w.cell? ⟨b, o + k, none⟩ = some (.int .u8 (gt bs k)) := by
  obtain ⟨b, o, e, hb, hc⟩ := h.2 (by omega)
  have hl : k < bs.length := by have := h.1; simp at this; omega
  exact ⟨b, o, e, hb, hc k _ (by rw [gt_eq hl]; simp [hl])⟩
theorem drewN_two (w : World) (m n : Nat) : (w.drewN m).drewN n = w.drewN (m + n) := by simp
set_option maxRecDepth 100000 in
set_option maxHeartbeats 400000 in
theorem same_any (w : World) (B1 B2 : Nat) (A : Option Addr) (n c : Nat) (A2 : Option Addr) (n2 c2 : Nat) (l1 l2 : List Int) (hr1 : Reads w B1 A n (l1.map (Value.int .u8))) (hr2 : Reads w B2 A2 n2 (l2.map (Value.int .u8))) (hn : n ≤ 281474976710656) (hn2 : n2 ≤ 281474976710656) :
    Calls Tryd.prog 14 #[.slice A n c, .slice A2 n2 c2] w fun e w' => e = .returned (.bool (decide (l1 = l2))) ∧ ∃ m, w' = w.drewN m := by
  have hl1 : l1.length = n := by simpa using hr1.1
  have hl2 : l2.length = n2 := by simpa using hr2.1
  have H1 := Lib.hid hr1
  have H2 := Lib.hid hr2
  have L1 := Lib.hid hl1
  have L2 := Lib.hid hl2
  clear hr1 hr2 hl1 hl2
  by_cases hne : n = n2
  · subst hne
    go_enter Tryd.func14, Tryd.ntmps14
    go_wp2_with fail
    go_loopw [5, 13] (fun _ i wr => ∃ k m : Nat, k ≤ n ∧ i = .int .i64 k ∧ wr = w.drewN m ∧ l1.take k = l2.take k) (fun _ i _ => n - (intOf i).toNat)
    case atStart => exact ⟨0, 0, Nat.zero_le _, rfl, rfl, rfl⟩
    case round =>
      obtain ⟨k, m, hk, rfl, rfl, htk⟩ := hrel
      have T := Lib.hid htk
      clear htk
      by_cases hlt : k < n
      · obtain ⟨b0, o0, rfl, hb0, hc0⟩ := H1.out.at_ hlt
        obtain ⟨b1, o1, rfl, hb1, hc1⟩ := H2.out.at_ hlt
        have i1 : (k : Int) < n := by omega
        have s1 := take_snoc l1 k (by rw [L1.out]; exact hlt)
        have s2 := take_snoc l2 k (by rw [L2.out]; exact hlt)
        by_cases hq : gt l1 k = gt l2 k
        · have hd : decide (gt l1 k = gt l2 k) = true := by simpa using hq
          rw [hq] at hc0 s1
          have S1 := Lib.hid s1
          have S2 := Lib.hid s2
          clear s1 s2 hd
          go_wp2_with fail
          go_quiet (fail)
          go_wp2_with fail
          exact ⟨⟨k + 1, _, by omega, by go_num, rfl, by rw [S1.out, S2.out, T.out]⟩, by simp [intOf]; omega⟩
        · have S1 := Lib.hid s1
          have S2 := Lib.hid s2
          clear s1 s2
          go_wp2_with fail
          go_quiet (fail)
          go_wp2_with fail
          go_ret
          refine ⟨?_, m + _, drewN_two w m _⟩
          have hd : decide (l1 = l2) = false := by
            simp only [decide_eq_false_iff_not]
            intro e
            exact hq (by rw [e])
          rw [hd]; rfl
      · obtain rfl : k = n := by omega
        have hd : decide (l1 = l2) = true := by
          have h := T.out
          rw [List.take_of_length_le (Nat.le_of_eq L1.out), List.take_of_length_le (Nat.le_of_eq L2.out)] at h
          simpa using h
        have HD := Lib.hid hd
        clear hd
        have i1 : ¬ ((k : Int) < k) := by omega
        go_wp2_with fail
        go_ret
        exact ⟨by rw [HD.out]; rfl, m, rfl⟩
  · have hd : decide (l1 = l2) = false := by
      simp only [decide_eq_false_iff_not]
      intro e
      exact hne (by rw [← L1.out, ← L2.out, e])
    rw [hd]
    have i1 : ¬ ((n : Int) = n2) := by omega
    go_enter Tryd.func14, Tryd.ntmps14
    go_wp2_with fail
    go_ret
    exact ⟨rfl, 0, rfl⟩
end Go.Proofs.YtialfoccalobpaaDoor

/-! ## FrBased -/
namespace Go.Proofs.YtialfoccalobpaaDoor
open Go.RowKit
theorem copy_reads {w : World} {g n : Nat} {t : TypeId} {bs : List Int} (h : Blk w g t (ag8 bs)) (hn : bs.length = n) : Reads w w.heap.size (some ⟨g, 0, none⟩) n (bs.map (Value.int .u8)) := by
  have := h.reads h.lt 0 n (by rw [ag8_size, hn]; omega)
  rwa [List.drop_zero, List.take_of_length_le (by simp [ag8, hn])] at this
end Go.Proofs.YtialfoccalobpaaDoor

/-! ## FrR -/
namespace Go.Proofs.YtialfoccalobpaaDoor
open Go.RowKit
theorem reads_part {w : World} {B n b o : Nat} {xs : List Value} (h : Reads w B (some ⟨b, o, none⟩) n xs) (k m : Nat) (hk : k + m ≤ n) (hm : 0 < m) : Reads w B (some ⟨b, o + k, none⟩) m ((xs.drop k).take m) := by
  refine ⟨by have := h.1; simp; omega, fun _ => ?_⟩
  obtain ⟨b', o', e, hb, hc⟩ := h.2 (by omega)
  obtain ⟨rfl, rfl⟩ : b = b' ∧ o = o' := by simpa using e
  refine ⟨b, o + k, rfl, hb, fun j u hu => ?_⟩
  rw [List.getElem?_take] at hu
  split at hu
  · rw [List.getElem?_drop] at hu
    rw [Nat.add_assoc]
    exact hc _ _ hu
  · cases hu
end Go.Proofs.YtialfoccalobpaaDoor
