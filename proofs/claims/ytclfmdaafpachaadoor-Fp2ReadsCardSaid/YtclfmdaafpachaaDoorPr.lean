/-
  Primes: Fermat's theorem, Pocklington's test; the two moduli are prime. Plain numbers: no program stands here.
-/
import Init
namespace Go.Proofs.YtclfmdaafpachaaDoor
/-- A prime. -/
def Pr (p : Nat) : Prop := 2 ≤ p ∧ ∀ d, d ∣ p → d = 1 ∨ d = p
theorem Pr.cop {p a : Nat} (h : Pr p) (ha : ¬ p ∣ a) : Nat.Coprime p a := by
  rcases h.2 _ (Nat.gcd_dvd_left p a) with e | e
  · exact e
  · exact absurd (e ▸ Nat.gcd_dvd_right p a) ha
theorem Pr.dvd_mul {p a b : Nat} (h : Pr p) (hd : p ∣ a * b) : p ∣ a ∨ p ∣ b := by
  by_cases ha : p ∣ a
  · exact .inl ha
  · exact .inr ((h.cop ha).dvd_of_dvd_mul_left hd)
def bch : Nat → Nat → Nat
  | _, 0 => 1
  | 0, _ + 1 => 0
  | n + 1, k + 1 => bch n k + bch n (k + 1)
theorem bch_big (n : Nat) : ∀ k, n < k → bch n k = 0 := by
  induction n with
  | zero => intro k h; cases k with
    | zero => omega
    | succ k => rfl
  | succ n ih => intro k h; cases k with
    | zero => omega
    | succ k => simp only [bch]; rw [ih k (by omega), ih (k + 1) (by omega)]
theorem bch_self (n : Nat) : bch n n = 1 := by
  induction n with
  | zero => rfl
  | succ n ih => simp only [bch]; rw [ih, bch_big n (n + 1) (by omega)]
theorem bch_zero (n : Nat) : bch n 0 = 1 := by cases n <;> rfl
theorem bch_mul (n : Nat) : ∀ k, (k + 1) * bch (n + 1) (k + 1) = (n + 1) * bch n k := by
  induction n with
  | zero => intro k; cases k with
    | zero => rfl
    | succ k => simp [bch]
  | succ n ih => intro k; cases k with
    | zero =>
      have := ih 0
      simp only [bch, bch_zero] at this ⊢
      omega
    | succ k =>
      have h1 := ih k
      have h2 := ih (k + 1)
      have e : bch (n + 1 + 1) (k + 1 + 1) = bch (n + 1) (k + 1) + bch (n + 1) (k + 1 + 1) := rfl
      have e2 : bch (n + 1) (k + 1) = bch n k + bch n (k + 1) := rfl
      rw [e]
      have e3 : (k + 1 + 1) * (bch (n + 1) (k + 1) + bch (n + 1) (k + 1 + 1)) = (k + 1) * bch (n + 1) (k + 1) + bch (n + 1) (k + 1) + (k + 1 + 1) * bch (n + 1) (k + 1 + 1) := by grind
      rw [e3, h1, h2, e2]
      grind
def su (f : Nat → Nat) : Nat → Nat
  | 0 => 0
  | n + 1 => su f n + f n
theorem bin_step (a n : Nat) (m : Nat) : su (fun k => bch (n + 1) k * a ^ k) (m + 1) = su (fun k => bch n k * a ^ k) (m + 1) + a * su (fun k => bch n k * a ^ k) m := by
  induction m with
  | zero => simp [su, bch_zero]
  | succ m ih =>
    rw [su, ih]
    simp only [su, bch, Nat.pow_succ]
    grind
theorem binom (a n : Nat) : (a + 1) ^ n = su (fun k => bch n k * a ^ k) (n + 1) := by
  induction n with
  | zero => simp [su, bch_zero]
  | succ n ih =>
    rw [bin_step, Nat.pow_succ, ih]
    have : su (fun k => bch n k * a ^ k) (n + 1 + 1) = su (fun k => bch n k * a ^ k) (n + 1) := by
      rw [su, bch_big n (n + 1) (by omega)]; simp
    rw [this]
    grind
theorem Pr.ch {p : Nat} (h : Pr p) (k : Nat) (h1 : k + 1 < p) : p ∣ bch p (k + 1) := by
  obtain ⟨n, rfl⟩ : ∃ n, p = n + 1 := ⟨p - 1, by have := h.1; omega⟩
  have hd : (n + 1) ∣ (k + 1) * bch (n + 1) (k + 1) := by rw [bch_mul]; exact Nat.dvd_mul_right _ _
  rcases h.dvd_mul hd with h2 | h2
  · have := Nat.le_of_dvd (by omega) h2; omega
  · exact h2
theorem Pr.mid {p : Nat} (h : Pr p) (a : Nat) (m : Nat) (hm : m < p) : su (fun k => bch p k * a ^ k) (m + 1) % p = 1 % p := by
  induction m with
  | zero => simp [su, bch_zero]
  | succ m ih =>
    rw [su, Nat.add_mod, ih (by omega)]
    have : bch p (m + 1) * a ^ (m + 1) % p = 0 := Nat.mod_eq_zero_of_dvd (Nat.dvd_trans (h.ch m hm) (Nat.dvd_mul_right _ _))
    rw [this]
    simp
/-- Fermat. -/
theorem Pr.fermat {p : Nat} (h : Pr p) (a : Nat) : a ^ p % p = a % p := by
  induction a with
  | zero => rw [Nat.zero_pow (by have := h.1; omega)]
  | succ a ih =>
    obtain ⟨n, rfl⟩ : ∃ n, p = n + 1 := ⟨p - 1, by have := h.1; omega⟩
    rw [binom, su, Nat.add_mod, h.mid a n (by omega), bch_self, Nat.one_mul, ih, ← Nat.add_mod, Nat.add_comm]
theorem Pr.little {p : Nat} (h : Pr p) (a : Nat) (ha : ¬ p ∣ a) : a ^ (p - 1) % p = 1 := by
  obtain ⟨n, rfl⟩ : ∃ n, p = n + 1 := ⟨p - 1, by have := h.1; omega⟩
  have hf := h.fermat a
  have hp := h.1
  rw [Nat.add_sub_cancel]
  have h1 : 1 ≤ a ^ n := by
    rcases Nat.eq_zero_or_pos a with rfl | h0
    · exact absurd (Nat.dvd_zero _) ha
    · exact Nat.one_le_pow _ _ h0
  obtain ⟨t, ht⟩ : ∃ t, a ^ n = t + 1 := ⟨a ^ n - 1, by omega⟩
  have hd : (n + 1) ∣ a * t := by
    have e : a ^ (n + 1) = a * t + a := by rw [Nat.pow_succ, ht]; grind
    rw [e] at hf
    apply Nat.dvd_of_mod_eq_zero
    have := Nat.sub_mod_eq_zero_of_mod_eq hf
    rwa [Nat.add_sub_cancel] at this
  rcases h.dvd_mul hd with h2 | h2
  · exact absurd h2 ha
  · rw [ht, Nat.add_mod, Nat.mod_eq_zero_of_dvd h2, Nat.zero_add, Nat.mod_mod, Nat.mod_eq_of_lt (by omega)]
theorem pow_one_mul {b d m : Nat} (h : b ^ m % d = 1 % d) (k : Nat) : b ^ (m * k) % d = 1 % d := by
  rw [Nat.pow_mul, Nat.pow_mod, h, ← Nat.pow_mod, Nat.one_pow]
theorem pow_gcd (b d : Nat) (m n : Nat) : b ^ m % d = 1 % d → b ^ n % d = 1 % d → b ^ (Nat.gcd m n) % d = 1 % d := by
  induction m, n using Nat.gcd.induction with
  | H0 n => intro _ h; rwa [Nat.gcd_zero_left]
  | H1 m n hm ih =>
    intro h1 h2
    rw [Nat.gcd_rec]
    refine ih ?_ h1
    have e : b ^ n = b ^ (m * (n / m)) * b ^ (n % m) := by rw [← Nat.pow_add, Nat.div_add_mod]
    rw [e, Nat.mul_mod, pow_one_mul h1, ← Nat.mul_mod, Nat.one_mul] at h2
    exact h2
theorem Pr.pow_dvd {q : Nat} (hq : Pr q) (e g : Nat) (hg : g ∣ q ^ (e + 1)) (hn : ¬ g ∣ q ^ e) : g = q ^ (e + 1) := by
  obtain ⟨h, hh⟩ := hg
  have q0 : 0 < q := by have := hq.1; omega
  by_cases hd : q ∣ h
  · obtain ⟨h', rfl⟩ := hd
    refine absurd ⟨h', ?_⟩ hn
    have : q * q ^ e = q * (g * h') := by rw [← Nat.pow_succ', hh]; grind
    exact Nat.eq_of_mul_eq_mul_left q0 this
  · have hc : Nat.Coprime (q ^ (e + 1)) h := (hq.cop hd).pow_left _
    have : h = 1 := Nat.Coprime.eq_one_of_dvd hc.symm ⟨g, by rw [hh, Nat.mul_comm]⟩
    rw [hh, this, Nat.mul_one]
theorem pock_step (N a q e d : Nat) (hN : 2 ≤ N) (hq : Pr q) (hd : Pr d) (hdN : d ∣ N) (hqe : q ^ (e + 1) ∣ N - 1) (h1 : a ^ (N - 1) % N = 1)
    (h2 : Nat.gcd (a ^ ((N - 1) / q) % N + (N - 1)) N = 1) : q ^ (e + 1) ∣ d - 1 := by
  obtain ⟨c, hc⟩ := hqe
  have q0 : 0 < q := by have := hq.1; omega
  have hdq : (N - 1) / q = c * q ^ e := by
    rw [hc, show q ^ (e + 1) * c = q * (c * q ^ e) by rw [Nat.pow_succ]; grind]
    exact Nat.mul_div_cancel_left _ q0
  have hm : ∀ x, x % N % d = x % d := fun x => Nat.mod_mod_of_dvd x hdN
  have d2 := hd.1
  have hb1 : (a ^ c) ^ (q ^ (e + 1)) % d = 1 % d := by
    rw [← Nat.pow_mul, Nat.mul_comm, ← hc, ← hm, h1]
  have hb2 : ¬ (a ^ c) ^ (q ^ e) % d = 1 % d := by
    intro h
    rw [← Nat.pow_mul, ← hdq, ← hm] at h
    have hdd : d ∣ a ^ ((N - 1) / q) % N + (N - 1) := by
      apply Nat.dvd_of_mod_eq_zero
      rw [Nat.add_mod, h, ← Nat.add_mod, show 1 + (N - 1) = N by omega]
      exact Nat.mod_eq_zero_of_dvd hdN
    have := Nat.dvd_gcd hdd hdN
    rw [h2] at this
    have := Nat.le_of_dvd (by omega) this
    omega
  have hnd : ¬ d ∣ a ^ c := by
    intro h
    have h0 : a ^ c % d = 0 := Nat.mod_eq_zero_of_dvd h
    rw [Nat.pow_mod, h0, Nat.zero_pow (Nat.pow_pos q0), Nat.zero_mod, Nat.mod_eq_of_lt (by omega)] at hb1
    omega
  have hb3 : (a ^ c) ^ (d - 1) % d = 1 % d := by rw [hd.little _ hnd, Nat.mod_eq_of_lt (by omega)]
  have hg := pow_gcd _ _ _ _ hb1 hb3
  have : Nat.gcd (q ^ (e + 1)) (d - 1) = q ^ (e + 1) := by
    refine hq.pow_dvd e _ (Nat.gcd_dvd_left _ _) ?_
    rintro ⟨k, hk⟩
    exact hb2 (by rw [hk]; exact pow_one_mul hg k)
  rw [← this]
  exact Nat.gcd_dvd_right _ _
theorem exists_pr (n : Nat) : 2 ≤ n → ∃ d, Pr d ∧ d ∣ n := by
  induction n using Nat.strongRecOn with
  | ind n ih =>
    intro h
    by_cases hp : Pr n
    · exact ⟨n, hp, Nat.dvd_refl _⟩
    · have : ∃ d, d ∣ n ∧ d ≠ 1 ∧ d ≠ n := by
        refine Classical.byContradiction fun hc => hp ⟨h, fun d hd => Classical.byContradiction fun hh => hc ⟨d, hd, ?_, ?_⟩⟩
        · exact fun e => hh (.inl e)
        · exact fun e => hh (.inr e)
      obtain ⟨d, hd, h1, h2⟩ := this
      have hle := Nat.le_of_dvd (by omega) hd
      have h0 : d ≠ 0 := by rintro rfl; have := Nat.eq_zero_of_zero_dvd hd; omega
      obtain ⟨k, hk, hkd⟩ := ih d (by omega) (by omega)
      exact ⟨k, hk, Nat.dvd_trans hkd hd⟩
theorem pr_of_small (n : Nat) (h : 2 ≤ n) (hs : ∀ d, Pr d → d ∣ n → n < d * d) : Pr n := by
  refine ⟨h, fun d hd => Classical.byContradiction fun hh => ?_⟩
  have h1 : d ≠ 1 := fun e => hh (.inl e)
  have h2 : d ≠ n := fun e => hh (.inr e)
  obtain ⟨k, hk⟩ := hd
  have h0 : d ≠ 0 := by rintro rfl; omega
  have k0 : k ≠ 0 := by rintro rfl; omega
  have k1 : k ≠ 1 := by rintro rfl; omega
  have hmin : ∀ x y, n = x * y → 2 ≤ x → 2 ≤ y → x ≤ y → False := by
    intro x y hxy hx hy hle
    obtain ⟨u, hu, hux⟩ := exists_pr x hx
    have := hs u hu (Nat.dvd_trans hux ⟨y, hxy⟩)
    have hux' := Nat.le_of_dvd (by omega) hux
    have : u * u ≤ x * y := Nat.mul_le_mul hux' (Nat.le_trans hux' hle)
    omega
  rcases Nat.le_total d k with hle | hle
  · exact hmin d k hk (by omega) (by omega) hle
  · exact hmin k d (by rw [hk, Nat.mul_comm]) (by omega) (by omega) hle
def powL : List (Nat × Nat) → Nat
  | [] => 1
  | (q, e) :: t => q ^ (e + 1) * powL t
/-- a ^ e modulo N, by halves; fuel bits. -/
def pm (a N : Nat) : Nat → Nat → Nat
  | 0, _ => 1 % N
  | f + 1, e => pm a N f (e / 2) ^ 2 * a ^ (e % 2) % N
theorem pm_eq (a N : Nat) (f : Nat) : ∀ e, e < 2 ^ f → pm a N f e = a ^ e % N := by
  induction f with
  | zero => intro e h; obtain rfl : e = 0 := by simp at h; omega
            rfl
  | succ f ih =>
    intro e h
    rw [pm, ih (e / 2) (by rw [Nat.pow_succ] at h; omega)]
    rw [Nat.mul_mod, ← Nat.pow_mod, ← Nat.pow_mul, ← Nat.mul_mod, ← Nat.pow_add, Nat.div_mul_self_eq_mod_sub_self]
    congr 2
    omega
def pk (N a f : Nat) : List (Nat × Nat) → Bool
  | [] => true
  | (q, e) :: t => (N - 1) % q ^ (e + 1) == 0 && Nat.gcd (pm a N f ((N - 1) / q) + (N - 1)) N == 1 && Nat.gcd (q ^ (e + 1)) (powL t) == 1 && pk N a f t
theorem pk_dvd (N a f d : Nat) (hN : 2 ≤ N) (hf : N < 2 ^ f) (h1 : a ^ (N - 1) % N = 1) (hd : Pr d) (hdN : d ∣ N) : ∀ l : List (Nat × Nat), (∀ x ∈ l, Pr x.1) → pk N a f l = true → powL l ∣ d - 1 := by
  intro l
  induction l with
  | nil => intro _ _; exact Nat.one_dvd _
  | cons x t ih =>
    obtain ⟨q, e⟩ := x
    intro hp hk
    simp only [pk, Bool.and_eq_true, beq_iff_eq] at hk
    obtain ⟨⟨⟨k1, k2⟩, k3⟩, k4⟩ := hk
    rw [pm_eq a N f _ (Nat.lt_of_le_of_lt (Nat.div_le_self _ _) (by omega))] at k2
    exact Nat.Coprime.mul_dvd_of_dvd_of_dvd k3 (pock_step N a q e d hN (hp (q, e) (by simp)) hd hdN (Nat.dvd_of_mod_eq_zero k1) h1 k2) (ih (fun x hx => hp x (by simp [hx])) k4)
/-- Pocklington. -/
theorem pock (N a f : Nat) (l : List (Nat × Nat)) (hp : ∀ x ∈ l, Pr x.1) (hc : (decide (2 ≤ N) && decide (N < 2 ^ f) && pm a N f (N - 1) == 1 && pk N a f l && decide (N < (powL l + 1) * (powL l + 1))) = true) : Pr N := by
  simp only [Bool.and_eq_true, decide_eq_true_eq, beq_iff_eq] at hc
  obtain ⟨⟨⟨⟨h2, hf⟩, h1⟩, hk⟩, hF⟩ := hc
  rw [pm_eq a N f _ (by omega)] at h1
  refine pr_of_small N h2 fun d hd hdN => ?_
  have hdv := pk_dvd N a f d h2 hf h1 hd hdN l hp hk
  have := hd.1
  have hle := Nat.le_of_dvd (by omega) hdv
  exact Nat.lt_of_lt_of_le hF (Nat.mul_le_mul (by omega) (by omega))
/-- No divisor from k on, fuel steps by two. -/
def noDiv (n : Nat) : Nat → Nat → Bool
  | 0, _ => true
  | f + 1, k => n % k != 0 && noDiv n f (k + 1)
theorem noDiv_spec (n : Nat) (f : Nat) : ∀ k, noDiv n f k = true → ∀ d, k ≤ d → d < k + f → ¬ d ∣ n := by
  induction f with
  | zero => intro k _ d h1 h2; omega
  | succ f ih =>
    intro k h d h1 h2
    simp only [noDiv, Bool.and_eq_true, bne_iff_ne] at h
    rcases Nat.eq_or_lt_of_le h1 with rfl | h3
    · exact fun hd => h.1 (Nat.mod_eq_zero_of_dvd hd)
    · exact ih (k + 1) h.2 d (by omega) (by omega)
theorem trial (n f : Nat) (h : (decide (2 ≤ n) && noDiv n f 2 && decide (n < (f + 2) * (f + 2))) = true) : Pr n := by
  simp only [Bool.and_eq_true, decide_eq_true_eq] at h
  obtain ⟨⟨h1, h2⟩, h3⟩ := h
  refine pr_of_small n h1 fun d hd hdn => ?_
  have := hd.1
  rcases Nat.lt_or_ge d (2 + f) with h4 | h4
  · exact absurd hdn (noDiv_spec n f 2 h2 d this h4)
  · exact Nat.lt_of_lt_of_le h3 (Nat.mul_le_mul (by omega) (by omega))
theorem pr_2653753 : Pr 2653753 := trial _ 1628 (by decide +kernel)
theorem pr_63690073 : Pr 63690073 := pock _ 2 26 [(2653753, 0)] (by
  intro x hx
  simp only [List.mem_cons, List.not_mem_nil, or_false] at hx
  rcases hx with rfl
  · exact pr_2653753) (by decide +kernel)
theorem pr_254760293 : Pr 254760293 := pock _ 2 28 [(63690073, 0)] (by
  intro x hx
  simp only [List.mem_cons, List.not_mem_nil, or_false] at hx
  rcases hx with rfl
  · exact pr_63690073) (by decide +kernel)
theorem pr_906349 : Pr 906349 := trial _ 951 (by decide +kernel)
theorem pr_2 : Pr 2 := trial _ 0 (by decide +kernel)
theorem pr_r : Pr 52435875175126190479447740508185965837690552500527637822603658699938581184513 := pock _ 5 255 [(254760293, 1), (906349, 1), (2, 31)] (by
  intro x hx
  simp only [List.mem_cons, List.not_mem_nil, or_false] at hx
  rcases hx with rfl | rfl | rfl
  · exact pr_254760293
  · exact pr_906349
  · exact pr_2) (by decide +kernel)
theorem pr_421987 : Pr 421987 := trial _ 648 (by decide +kernel)
theorem pr_13090036741 : Pr 13090036741 := pock _ 2 34 [(421987, 0)] (by
  intro x hx
  simp only [List.mem_cons, List.not_mem_nil, or_false] at hx
  rcases hx with rfl
  · exact pr_421987) (by decide +kernel)
theorem pr_755057 : Pr 755057 := trial _ 867 (by decide +kernel)
theorem pr_x18131021 : Pr 3819663927398918131021 := pock _ 2 72 [(13090036741, 0), (755057, 0)] (by
  intro x hx
  simp only [List.mem_cons, List.not_mem_nil, or_false] at hx
  rcases hx with rfl | rfl
  · exact pr_13090036741
  · exact pr_755057) (by decide +kernel)
theorem pr_x86709967 : Pr 1125266252156850182658904441386709967 := pock _ 2 120 [(3819663927398918131021, 0)] (by
  intro x hx
  simp only [List.mem_cons, List.not_mem_nil, or_false] at hx
  rcases hx with rfl
  · exact pr_x18131021) (by decide +kernel)
theorem pr_x27714659 : Pr 15778400344354997994418419698270088123916926905054652752758194827714659 := pock _ 2 234 [(1125266252156850182658904441386709967, 0)] (by
  intro x hx
  simp only [List.mem_cons, List.not_mem_nil, or_false] at hx
  rcases hx with rfl
  · exact pr_x86709967) (by decide +kernel)
theorem pr_p : Pr 4002409555221667393417789825735904156556882819939007885332058136124031650490837864442687629129015664037894272559787 := pock _ 2 381 [(15778400344354997994418419698270088123916926905054652752758194827714659, 0)] (by
  intro x hx
  simp only [List.mem_cons, List.not_mem_nil, or_false] at hx
  rcases hx with rfl
  · exact pr_x27714659) (by decide +kernel)
end Go.Proofs.YtclfmdaafpachaaDoor
