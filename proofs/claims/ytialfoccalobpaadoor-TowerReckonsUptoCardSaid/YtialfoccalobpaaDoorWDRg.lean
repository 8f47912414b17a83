/-
  A commutative ring, its polynomials with whole coefficients, and equations that a reckoning with polynomials decides; squares of some variables may be written by others. Plain mathematics: no program stands here.
-/
import Init
namespace Go.Proofs.YtialfoccalobpaaDoor
set_option linter.unusedSimpArgs false
set_option linter.unusedVariables false
/-- A commutative ring. -/
structure RG (K : Type) [Add K] [Sub K] [Neg K] [Mul K] [Zero K] [One K] : Prop where
  aa : ∀ x y z : K, x + y + z = x + (y + z)
  ac : ∀ x y : K, x + y = y + x
  az : ∀ x : K, x + 0 = x
  ma : ∀ x y z : K, x * y * z = x * (y * z)
  mc : ∀ x y : K, x * y = y * x
  mo : ∀ x : K, x * 1 = x
  md : ∀ x y z : K, x * (y + z) = x * y + x * z
  an : ∀ x : K, x + -x = 0
  sn : ∀ x y : K, x - y = x + -y
section
variable {K : Type} [Add K] [Sub K] [Neg K] [Mul K] [Zero K] [One K]
namespace RG
theorem za (h : RG K) (x : K) : 0 + x = x := by rw [h.ac, h.az]
theorem om (h : RG K) (x : K) : 1 * x = x := by rw [h.mc, h.mo]
theorem dm (h : RG K) (x y z : K) : (x + y) * z = x * z + y * z := by rw [h.mc, h.md, h.mc z, h.mc z]
theorem na (h : RG K) (x : K) : -x + x = 0 := by rw [h.ac, h.an]
theorem cancel (h : RG K) {x y z : K} (e : x + y = x + z) : y = z := by
  have := congrArg (-x + ·) e
  simp only [← h.aa, h.na, h.za] at this
  exact this
theorem mz (h : RG K) (x : K) : x * 0 = 0 := by
  have e : x * 0 + x * 0 = x * 0 + 0 := by rw [← h.md, h.az, h.az]
  exact h.cancel e
theorem zm (h : RG K) (x : K) : 0 * x = 0 := by rw [h.mc, h.mz]
theorem neg_of (h : RG K) {x y : K} (e : x + y = 0) : y = -x := h.cancel (x := x) (by rw [e, h.an])
theorem nn (h : RG K) (x : K) : - -x = x := (h.neg_of (h.na x)).symm
theorem nadd (h : RG K) (x y : K) : -(x + y) = -x + -y := by
  refine (h.neg_of ?_).symm
  rw [h.ac (-x), h.aa, ← h.aa y, h.an, h.za, h.an]
theorem nz (h : RG K) : -(0 : K) = 0 := (h.neg_of (h.az 0)).symm
theorem nmul (h : RG K) (x y : K) : -(x * y) = -x * y := by
  refine (h.neg_of ?_).symm
  rw [← h.dm, h.an, h.zm]
theorem muln (h : RG K) (x y : K) : x * -y = -(x * y) := by rw [h.mc, ← h.nmul, h.mc]
theorem alc (h : RG K) (x y z : K) : x + (y + z) = y + (x + z) := by rw [← h.aa, h.ac x, h.aa]
theorem mlc (h : RG K) (x y z : K) : x * (y * z) = y * (x * z) := by rw [← h.ma, h.mc x, h.ma]
theorem sub_self (h : RG K) (x : K) : x - x = 0 := by rw [h.sn, h.an]
theorem eq_of_sub (h : RG K) {x y : K} (e : x - y = 0) : x = y := by
  rw [h.sn] at e
  have := h.neg_of e
  rw [← h.nn y, this, h.nn]
end RG
/-- Natural and whole numbers in the ring. -/
def rgn : Nat → K
  | 0 => 0
  | n + 1 => rgn n + 1
def rgz : Int → K
  | .ofNat n => rgn n
  | .negSucc n => -(rgn n + 1)
theorem rgn_add (h : RG K) (a b : Nat) : (rgn (a + b) : K) = rgn a + rgn b := by
  induction b with
  | zero => exact (h.az _).symm
  | succ b ih => rw [← Nat.add_assoc, rgn, ih, h.aa]; rfl
theorem rgn_mul (h : RG K) (a b : Nat) : (rgn (a * b) : K) = rgn a * rgn b := by
  induction b with
  | zero => exact (h.mz _).symm
  | succ b ih => rw [Nat.mul_succ, rgn_add h, ih, rgn, h.md, h.mo]
theorem rgz_sub (h : RG K) (a b : Nat) : (rgz (Int.subNatNat a b) : K) = rgn a + -(rgn b) := by
  rcases Nat.le_total b a with hb | hb
  · obtain ⟨c, rfl⟩ := Nat.exists_eq_add_of_le hb
    rw [Int.subNatNat_of_le hb, Nat.add_sub_cancel_left]
    show rgn c = _
    rw [rgn_add h, h.ac (rgn b), h.aa, h.an, h.az]
  · obtain ⟨c, rfl⟩ := Nat.exists_eq_add_of_le hb
    cases c with
    | zero => rw [Nat.add_zero, Int.subNatNat_of_le (Nat.le_refl _), Nat.sub_self]; show rgn 0 = _; rw [h.an]; rfl
    | succ c =>
      rw [Int.subNatNat_of_lt (by omega), show a + (c + 1) - a = c + 1 by omega]
      show -(rgn (c + 1)) = _
      rw [rgn_add h a, h.nadd (rgn a), ← h.aa, h.an, h.za]
theorem rgz_add (h : RG K) (a b : Int) : (rgz (a + b) : K) = rgz a + rgz b := by
  cases a with
  | ofNat a => cases b with
    | ofNat b => exact rgn_add h a b
    | negSucc b => exact rgz_sub h a (b + 1)
  | negSucc a => cases b with
    | ofNat b => rw [h.ac]; exact rgz_sub h b (a + 1)
    | negSucc b =>
      show -(rgn (a + b).succ + 1) = -(rgn a + 1) + -(rgn b + 1)
      rw [← h.nadd]
      congr 1
      show rgn (a + b) + 1 + 1 = _
      rw [rgn_add h, h.aa, h.aa, h.aa, h.alc 1 (rgn b)]
theorem rgz_neg (h : RG K) (a : Int) : (rgz (-a) : K) = -rgz a := by
  cases a with
  | ofNat a => cases a with
    | zero => exact h.nz.symm
    | succ a => rfl
  | negSucc a => exact (h.nn _).symm
theorem rgz_mul (h : RG K) (a b : Int) : (rgz (a * b) : K) = rgz a * rgz b := by
  have key : ∀ (n : Nat) (b : Int), (rgz (n * b) : K) = rgn n * rgz b := fun n b => by
    cases b with
    | ofNat b => exact rgn_mul h n b
    | negSucc b =>
      show (rgz (Int.ofNat n * Int.negSucc b) : K) = rgn n * -(rgn b + 1)
      rw [show Int.ofNat n * Int.negSucc b = -(Int.ofNat (n * (b + 1))) from rfl, rgz_neg h, h.muln]
      congr 1
      exact rgn_mul h n (b + 1)
  cases a with
  | ofNat a => exact key a b
  | negSucc a =>
    rw [Int.negSucc_eq, Int.neg_mul, rgz_neg h]
    show -(rgz (((a + 1 : Nat) : Int) * b)) = -(rgn (a + 1)) * rgz b
    rw [key (a + 1) b, h.nmul]
def rgp (x : K) : Nat → K
  | 0 => 1
  | n + 1 => rgp x n * x
theorem rgp_add (h : RG K) (x : K) (a b : Nat) : rgp x (a + b) = rgp x a * rgp x b := by
  induction b with
  | zero => exact (h.mo _).symm
  | succ b ih => rw [← Nat.add_assoc, rgp, ih, h.ma]; rfl
/-- A monomial's value: the exponents are the code's digits, n of them, the first the j-th variable's. -/
def pmv (ρ : Nat → K) : Nat → Nat → Nat → K
  | 0, _, _ => 1
  | n + 1, j, c => rgp (ρ j) (c % 1048576) * pmv ρ n (j + 1) (c / 1048576)
/-- No digit is above d. -/
def pmok : Nat → Nat → Nat → Prop
  | 0, _, c => c = 0
  | n + 1, d, c => c % 1048576 ≤ d ∧ pmok n d (c / 1048576)
theorem pmok_le : ∀ {n d e c : Nat}, pmok n d c → d ≤ e → pmok n e c
  | 0, _, _, _, h, _ => h
  | n + 1, d, e, c, h, hd => ⟨Nat.le_trans h.1 hd, pmok_le h.2 hd⟩
theorem pm_add (h : RG K) (ρ : Nat → K) : ∀ (n j d e a b : Nat), pmok n d a → pmok n e b → d + e < 1048576 →
    pmok n (d + e) (a + b) ∧ pmv ρ n j (a + b) = pmv ρ n j a * pmv ρ n j b
  | 0, j, d, e, a, b, ha, hb, _ => ⟨by simp only [pmok] at *; omega, by simp only [pmv, h.mo]⟩
  | n + 1, j, d, e, a, b, ha, hb, hd => by
    have e1 : (a + b) % 1048576 = a % 1048576 + b % 1048576 := by have := ha.1; have := hb.1; omega
    have e2 : (a + b) / 1048576 = a / 1048576 + b / 1048576 := by have := ha.1; have := hb.1; omega
    obtain ⟨i1, i2⟩ := pm_add h ρ n (j + 1) d e _ _ ha.2 hb.2 hd
    refine ⟨⟨by have := ha.1; have := hb.1; omega, by rw [e2]; exact i1⟩, ?_⟩
    simp only [pmv]
    rw [e1, e2, i2, rgp_add h, h.ma, h.ma, h.mlc (rgp (ρ j) (b % 1048576))]
theorem pm_take (h : RG K) (ρ : Nat → K) : ∀ (i n j d c : Nat), 2 ≤ c / 1048576 ^ i % 1048576 → pmok n d c →
    pmok n d (c - 2 * 1048576 ^ i) ∧ pmv ρ n j c = ρ (j + i) * ρ (j + i) * pmv ρ n j (c - 2 * 1048576 ^ i)
  | i, 0, j, d, c, h2, hc => by
    simp only [pmok] at hc
    subst hc
    simp at h2
  | 0, n + 1, j, d, c, h2, hc => by
    simp only [Nat.pow_zero, Nat.div_one, Nat.mul_one, Nat.add_zero] at *
    have e1 : (c - 2) % 1048576 = c % 1048576 - 2 := by omega
    have e2 : (c - 2) / 1048576 = c / 1048576 := by omega
    refine ⟨⟨by have := hc.1; omega, by rw [e2]; exact hc.2⟩, ?_⟩
    simp only [pmv]
    rw [e1, e2]
    obtain ⟨k, hk⟩ : ∃ k, c % 1048576 = k + 2 := ⟨c % 1048576 - 2, by omega⟩
    rw [hk, Nat.add_sub_cancel]
    simp only [rgp, h.ma, h.mlc (rgp (ρ j) k)]
  | i + 1, n + 1, j, d, c, h2, hc => by
    obtain ⟨t, ht⟩ : ∃ t, t = 1048576 ^ i := ⟨_, rfl⟩
    have hp : 1048576 ^ (i + 1) = 1048576 * t := by rw [ht, Nat.pow_succ, Nat.mul_comm]
    have h3 : 2 ≤ c / 1048576 / 1048576 ^ i % 1048576 := by
      rw [Nat.div_div_eq_div_mul, Nat.mul_comm, ← Nat.pow_succ]; exact h2
    have h4 : 2 * t ≤ c / 1048576 := by
      rw [← ht] at h3
      have h5 : 2 ≤ c / 1048576 / t := Nat.le_trans h3 (Nat.mod_le _ _)
      have h6 := Nat.div_mul_le_self (c / 1048576) t
      exact Nat.le_trans (Nat.mul_le_mul_right t h5) h6
    have e1 : (c - 2 * 1048576 ^ (i + 1)) % 1048576 = c % 1048576 := by rw [hp]; omega
    have e2 : (c - 2 * 1048576 ^ (i + 1)) / 1048576 = c / 1048576 - 2 * 1048576 ^ i := by rw [hp, ← ht]; omega
    obtain ⟨i1, i2⟩ := pm_take h ρ i n (j + 1) d _ h3 hc.2
    refine ⟨⟨by rw [e1]; exact hc.1, by rw [e2]; exact i1⟩, ?_⟩
    simp only [pmv]
    rw [e1, e2, i2, show j + 1 + i = j + (i + 1) by omega, h.mlc]
/-- A polynomial: monomials and coefficients. -/
def prv (ρ : Nat → K) : List (Nat × Int) → K
  | [] => 0
  | t :: p => rgz t.2 * pmv ρ 12 0 t.1 + prv ρ p
def pok (d : Nat) (p : List (Nat × Int)) : Prop := ∀ t ∈ p, pmok 12 d t.1
theorem pok_le {d e : Nat} {p : List (Nat × Int)} (h : pok d p) (hd : d ≤ e) : pok e p := fun t ht => pmok_le (h t ht) hd
theorem pok_cons {d : Nat} {t : Nat × Int} {p : List (Nat × Int)} (h : pmok 12 d t.1) (hp : pok d p) : pok d (t :: p) := fun u hu => by
  rcases List.mem_cons.1 hu with rfl | hu
  · exact h
  · exact hp u hu
theorem pok_tail {d : Nat} {t : Nat × Int} {p : List (Nat × Int)} (h : pok d (t :: p)) : pok d p := fun u hu => h u (List.mem_cons_of_mem _ hu)
theorem pok_head {d : Nat} {t : Nat × Int} {p : List (Nat × Int)} (h : pok d (t :: p)) : pmok 12 d t.1 := h t (List.mem_cons_self ..)
def rgnil : Int → Bool
  | .ofNat n => Nat.beq n 0
  | _ => false
theorem rgnil_eq {a : Int} (h : rgnil a = true) : a = 0 := by
  cases a with
  | ofNat n => rw [Nat.eq_of_beq_eq_true h]; rfl
  | negSucc n => cases h
def rgput (m : Nat) (c : Int) (p : List (Nat × Int)) : List (Nat × Int) := cond (rgnil c) p ((m, c) :: p)
def rgadd : Nat → List (Nat × Int) → List (Nat × Int) → List (Nat × Int)
  | 0, p, q => p ++ q
  | _ + 1, [], q => q
  | _ + 1, p, [] => p
  | n + 1, (m, c) :: p, (k, d) :: q =>
    cond (Nat.beq m k) (rgput m (Int.add c d) (rgadd n p q))
      (cond (Nat.ble m k) ((k, d) :: rgadd n ((m, c) :: p) q) ((m, c) :: rgadd n p ((k, d) :: q)))
theorem prv_append (h : RG K) (ρ : Nat → K) (p q : List (Nat × Int)) : prv ρ (p ++ q) = prv ρ p + prv ρ q := by
  induction p with
  | nil => exact (h.za _).symm
  | cons t p ih => simp only [List.cons_append, prv, ih, h.aa]
theorem prv_put (h : RG K) (ρ : Nat → K) (m : Nat) (c : Int) (p : List (Nat × Int)) : prv ρ (rgput m c p) = rgz c * pmv ρ 12 0 m + prv ρ p := by
  unfold rgput
  cases e : rgnil c with
  | false => rfl
  | true =>
    rw [rgnil_eq e]
    show _ = (0 : K) * _ + _
    rw [h.zm, h.za]
    rfl
theorem prv_add (h : RG K) (ρ : Nat → K) : ∀ (n : Nat) (p q : List (Nat × Int)), prv ρ (rgadd n p q) = prv ρ p + prv ρ q
  | 0, p, q => prv_append h ρ p q
  | n + 1, [], q => by simp only [rgadd, prv, h.za]
  | n + 1, t :: p, [] => by simp only [rgadd, prv, h.az]
  | n + 1, (m, c) :: p, (k, d) :: q => by
    unfold rgadd
    cases e : Nat.beq m k with
    | true =>
      obtain rfl := Nat.eq_of_beq_eq_true e
      simp only [cond_true, prv_put h, prv, prv_add h ρ n p q]
      rw [show Int.add c d = c + d from rfl, rgz_add h, h.dm, h.aa, h.aa, h.alc (prv ρ p)]
    | false =>
      simp only [cond_false]
      cases Nat.ble m k with
      | true => simp only [cond_true, prv, prv_add h ρ n _ q]; rw [h.alc]
      | false => simp only [cond_false, prv, prv_add h ρ n p _]; rw [h.aa]
theorem pok_add {d : Nat} : ∀ (n : Nat) (p q : List (Nat × Int)), pok d p → pok d q → pok d (rgadd n p q)
  | 0, p, q, hp, hq => fun t ht => by
    rcases List.mem_append.1 ht with h | h
    · exact hp t h
    · exact hq t h
  | n + 1, [], q, hp, hq => by simpa only [rgadd] using hq
  | n + 1, t :: p, [], hp, hq => by simpa only [rgadd] using hp
  | n + 1, (m, c) :: p, (k, d') :: q, hp, hq => by
    unfold rgadd
    cases Nat.beq m k with
    | true =>
      have h1 := pok_add n p q (pok_tail hp) (pok_tail hq)
      simp only [cond_true, rgput]
      cases rgnil (Int.add c d') with
      | true => exact h1
      | false => exact pok_cons (t := (m, Int.add c d')) (show pmok 12 d m from pok_head hp) h1
    | false =>
      simp only [cond_false]
      cases Nat.ble m k with
      | true => exact pok_cons (pok_head hq) (pok_add n _ q hp (pok_tail hq))
      | false => exact pok_cons (pok_head hp) (pok_add n p _ (pok_tail hp) hq)
def rgscale (m : Nat) (c : Int) : List (Nat × Int) → List (Nat × Int)
  | [] => []
  | (k, d) :: q => (Nat.add m k, Int.mul c d) :: rgscale m c q
theorem prv_scale (h : RG K) (ρ : Nat → K) (m d e : Nat) (c : Int) (hm : pmok 12 d m) (hd : d + e < 1048576) (q : List (Nat × Int)) (hq : pok e q) :
    prv ρ (rgscale m c q) = rgz c * pmv ρ 12 0 m * prv ρ q ∧ pok (d + e) (rgscale m c q) := by
  induction q with
  | nil => exact ⟨(h.mz _).symm, fun t ht => by cases ht⟩
  | cons t q ih =>
    obtain ⟨i1, i2⟩ := ih (pok_tail hq)
    obtain ⟨a1, a2⟩ := pm_add h ρ 12 0 d e m t.1 hm (pok_head hq) hd
    refine ⟨?_, pok_cons a1 i2⟩
    simp only [rgscale, prv]
    rw [show Nat.add m t.1 = m + t.1 from rfl, show Int.mul c t.2 = c * t.2 from rfl, i1, a2, rgz_mul h, h.md]
    simp only [h.ma, h.mlc (rgz t.2)]
def rgmul : List (Nat × Int) → List (Nat × Int) → List (Nat × Int)
  | [], _ => []
  | (m, c) :: p, q => rgadd 1000000 (rgscale m c q) (rgmul p q)
theorem prv_mul (h : RG K) (ρ : Nat → K) (d e : Nat) (hd : d + e < 1048576) (p q : List (Nat × Int)) (hp : pok d p) (hq : pok e q) :
    prv ρ (rgmul p q) = prv ρ p * prv ρ q ∧ pok (d + e) (rgmul p q) := by
  induction p with
  | nil => exact ⟨(h.zm _).symm, fun t ht => by cases ht⟩
  | cons t p ih =>
    obtain ⟨i1, i2⟩ := ih (pok_tail hp)
    obtain ⟨s1, s2⟩ := prv_scale h ρ t.1 d e t.2 (pok_head hp) hd q hq
    exact ⟨by simp only [rgmul, prv, prv_add h, s1, i1, h.dm], pok_add _ _ _ s2 i2⟩
/-- A polynomial parted: what has no square of the i-th variable, and the rest, less that square; b is the i-th digit's place. -/
def rgpart (b : Nat) : List (Nat × Int) → List (Nat × Int) × List (Nat × Int)
  | [] => ([], [])
  | (m, c) :: p => match Nat.ble 2 (Nat.mod (Nat.div m b) 1048576), rgpart b p with
    | false, (lo, hi) => ((m, c) :: lo, hi)
    | true, (lo, hi) => (lo, (Nat.sub m (Nat.mul 2 b), c) :: hi)
theorem prv_part (h : RG K) (ρ : Nat → K) (i d : Nat) (p : List (Nat × Int)) (hp : pok d p) :
    prv ρ p = prv ρ (rgpart (1048576 ^ i) p).1 + ρ i * ρ i * prv ρ (rgpart (1048576 ^ i) p).2 ∧ pok d (rgpart (1048576 ^ i) p).1 ∧ pok d (rgpart (1048576 ^ i) p).2 := by
  induction p with
  | nil => exact ⟨by simp only [rgpart, prv, h.mz, h.az], fun t ht => (List.not_mem_nil ht).elim, fun t ht => (List.not_mem_nil ht).elim⟩
  | cons t p ih =>
    obtain ⟨m, c⟩ := t
    obtain ⟨i1, i2, i3⟩ := ih (pok_tail hp)
    have hm : pmok 12 d m := pok_head hp
    unfold rgpart
    cases e : Nat.ble 2 (Nat.mod (Nat.div m (1048576 ^ i)) 1048576) with
    | false => exact ⟨by simp only [prv]; rw [i1, h.aa], pok_cons hm i2, i3⟩
    | true =>
      obtain ⟨t1, t2⟩ := pm_take h ρ i 12 0 d m (Nat.le_of_ble_eq_true e) hm
      refine ⟨?_, i2, pok_cons t1 i3⟩
      simp only [prv]
      rw [i1, t2, Nat.zero_add, h.md, h.alc]
      congr 1
      rw [show Nat.sub m (Nat.mul 2 (1048576 ^ i)) = m - 2 * 1048576 ^ i from rfl, h.mlc]
def rgred (b : Nat) (q : List (Nat × Int)) : Nat → List (Nat × Int) → List (Nat × Int)
  | 0, p => p
  | n + 1, p => match rgpart b p with
    | (lo, []) => lo
    | (lo, t :: hi) => rgadd 1000000 lo (rgred b q n (rgmul q (t :: hi)))
theorem prv_red (h : RG K) (ρ : Nat → K) (i e : Nat) (q : List (Nat × Int)) (hq : ρ i * ρ i = prv ρ q) (hqe : pok e q) : ∀ (n d : Nat) (p : List (Nat × Int)), pok d p → e * n + d < 1048576 →
    prv ρ (rgred (1048576 ^ i) q n p) = prv ρ p ∧ pok (e * n + d) (rgred (1048576 ^ i) q n p)
  | 0, d, p, hp, _ => ⟨rfl, by simpa [rgred] using hp⟩
  | n + 1, d, p, hp, hd => by
    obtain ⟨p1, p2, p3⟩ := prv_part h ρ i d p hp
    have hs : e * (n + 1) + d = e * n + (e + d) := by rw [Nat.mul_succ, Nat.add_assoc]
    unfold rgred
    split
    · rename_i lo e1
      rw [e1] at p1 p2
      simp only [prv, h.mz, h.az] at p1
      exact ⟨p1.symm, pok_le p2 (by omega)⟩
    · rename_i lo t hi e1
      rw [e1] at p1 p2 p3
      obtain ⟨m1, m2⟩ := prv_mul h ρ e d (by omega) q (t :: hi) hqe p3
      obtain ⟨r1, r2⟩ := prv_red h ρ i e q hq hqe n (e + d) _ m2 (by omega)
      refine ⟨?_, ?_⟩
      · rw [prv_add h, r1, m1, ← hq, p1]
      · rw [hs]; exact pok_add _ _ _ (pok_le p2 (by omega)) r2
end
/-- An expression; red puts the rules' squares in. -/
inductive RE where
  | v (i : Nat)
  | o
  | z
  | add (a b : RE)
  | sub (a b : RE)
  | mul (a b : RE)
  | neg (a : RE)
  | red (a : RE)
  | p (l : List (Nat × Int)) (d : Nat)
/-- A rule: the variable, its square as a polynomial, and the highest exponent there. -/
structure RU where
  i : Nat
  q : List (Nat × Int)
  e : Nat
def RE.dg (r : List RU) : RE → Nat
  | .v _ => 1
  | .o => 0
  | .z => 0
  | .add a b => max (a.dg r) (b.dg r)
  | .sub a b => max (a.dg r) (b.dg r)
  | .mul a b => a.dg r + b.dg r
  | .neg a => a.dg r
  | .red a => r.foldl (fun d u => u.e * (d / 2 + 1) + d) (a.dg r)
  | .p _ d => d
def pmokb : Nat → Nat → Nat → Bool
  | 0, _, c => Nat.beq c 0
  | n + 1, d, c => Nat.ble (c % 1048576) d && pmokb n d (c / 1048576)
theorem pmokb_ok : ∀ {n d c : Nat}, pmokb n d c = true → pmok n d c
  | 0, _, _, h => Nat.eq_of_beq_eq_true h
  | n + 1, d, c, h => by
    simp only [pmokb, Bool.and_eq_true] at h
    exact ⟨Nat.le_of_ble_eq_true h.1, pmokb_ok h.2⟩
section
variable {K : Type} [Add K] [Sub K] [Neg K] [Mul K] [Zero K] [One K]
def RE.ev (ρ : Nat → K) : RE → K
  | .v i => ρ i
  | .o => 1
  | .z => 0
  | .add a b => a.ev ρ + b.ev ρ
  | .sub a b => a.ev ρ - b.ev ρ
  | .mul a b => a.ev ρ * b.ev ρ
  | .neg a => -a.ev ρ
  | .red a => a.ev ρ
  | .p l _ => prv ρ l
def RE.nf (r : List RU) : RE → List (Nat × Int)
  | .v i => [(1048576 ^ i, 1)]
  | .o => [(0, 1)]
  | .z => []
  | .add a b => rgadd 1000000 (a.nf r) (b.nf r)
  | .sub a b => rgadd 1000000 (a.nf r) (rgscale 0 (-1) (b.nf r))
  | .mul a b => rgmul (a.nf r) (b.nf r)
  | .neg a => rgscale 0 (-1) (a.nf r)
  | .red a => (r.foldl (fun (x : Nat × List (Nat × Int)) u => (u.e * (x.1 / 2 + 1) + x.1, rgred (1048576 ^ u.i) u.q (x.1 / 2 + 1) x.2)) (a.dg r, a.nf r)).2
  | .p l _ => l
/-- The variables' numbers are below 12, and the highest exponents that could come up are in bounds. -/
def RE.fine (r : List RU) : RE → Bool
  | .v i => Nat.blt i 12
  | .o => true
  | .z => true
  | .add a b => a.fine r && b.fine r
  | .sub a b => a.fine r && b.fine r
  | .mul a b => Nat.blt (a.dg r + b.dg r) 1048576 && (a.fine r && b.fine r)
  | .neg a => a.fine r
  | .red a => Nat.blt ((RE.red a).dg r) 1048576 && a.fine r
  | .p l d => l.all fun t => pmokb 12 d t.1
theorem blt_lt {a b : Nat} (h : Nat.blt a b = true) : a < b := Nat.le_of_ble_eq_true h
theorem pm_zero (h : RG K) (ρ : Nat → K) : ∀ (n j : Nat), pmok n 0 0 ∧ pmv ρ n j 0 = 1
  | 0, _ => ⟨rfl, rfl⟩
  | n + 1, j => by
    obtain ⟨i1, i2⟩ := pm_zero h ρ n (j + 1)
    refine ⟨⟨by omega, by rw [Nat.zero_div]; exact i1⟩, ?_⟩
    simp only [pmv, Nat.zero_mod, Nat.zero_div, i2, rgp, h.mo]
theorem pm_var (h : RG K) (ρ : Nat → K) : ∀ (i n j : Nat), i < n → pmok n 1 (1048576 ^ i) ∧ pmv ρ n j (1048576 ^ i) = ρ (j + i)
  | i, 0, _, hi => absurd hi (by omega)
  | 0, n + 1, j, _ => by
    obtain ⟨i1, i2⟩ := pm_zero h ρ n (j + 1)
    refine ⟨⟨by simp, ?_⟩, ?_⟩
    · show pmok n 1 (1 / 1048576)
      exact pmok_le (d := 0) (by simpa using i1) (by omega)
    · show rgp (ρ j) (1 % 1048576) * pmv ρ n (j + 1) (1 / 1048576) = _
      simp only [Nat.reduceMod, Nat.reduceDiv, i2, rgp, h.mo, h.om, Nat.add_zero]
  | i + 1, n + 1, j, hi => by
    obtain ⟨i1, i2⟩ := pm_var h ρ i n (j + 1) (by omega)
    have e1 : 1048576 ^ (i + 1) % 1048576 = 0 := by rw [Nat.pow_succ, Nat.mul_mod_left]
    have e2 : 1048576 ^ (i + 1) / 1048576 = 1048576 ^ i := by rw [Nat.pow_succ, Nat.mul_div_cancel _ (by omega)]
    refine ⟨⟨by omega, by rw [e2]; exact i1⟩, ?_⟩
    simp only [pmv]
    rw [e1, e2, i2]
    simp only [rgp, h.om]
    congr 1
    omega
theorem rgz_one (h : RG K) : (rgz 1 : K) = 1 := h.za 1
theorem prv_neg (h : RG K) (ρ : Nat → K) (d : Nat) (hd : d < 1048576) (q : List (Nat × Int)) (hq : pok d q) : prv ρ (rgscale 0 (-1) q) = -prv ρ q ∧ pok d (rgscale 0 (-1) q) := by
  obtain ⟨z1, z2⟩ := pm_zero h ρ 12 0
  obtain ⟨s1, s2⟩ := prv_scale h ρ 0 0 d (-1) z1 (by omega) q hq
  refine ⟨?_, by rwa [Nat.zero_add] at s2⟩
  rw [s1, z2, rgz_neg h, rgz_one h, h.mo, ← h.nmul, h.om]
theorem prv_reds (h : RG K) (ρ : Nat → K) : ∀ (r : List RU) (d : Nat) (p : List (Nat × Int)), pok d p → (∀ u ∈ r, ρ u.i * ρ u.i = prv ρ u.q ∧ pok u.e u.q) → r.foldl (fun d u => u.e * (d / 2 + 1) + d) d < 1048576 →
    prv ρ (r.foldl (fun (x : Nat × List (Nat × Int)) u => (u.e * (x.1 / 2 + 1) + x.1, rgred (1048576 ^ u.i) u.q (x.1 / 2 + 1) x.2)) (d, p)).2 = prv ρ p ∧
    pok (r.foldl (fun d u => u.e * (d / 2 + 1) + d) d) (r.foldl (fun (x : Nat × List (Nat × Int)) u => (u.e * (x.1 / 2 + 1) + x.1, rgred (1048576 ^ u.i) u.q (x.1 / 2 + 1) x.2)) (d, p)).2
  | [], d, p, hp, _, _ => ⟨rfl, hp⟩
  | u :: r, d, p, hp, hr, hd => by
    have mono : ∀ (r : List RU) (d : Nat), d ≤ r.foldl (fun d u => u.e * (d / 2 + 1) + d) d := fun r => by
      induction r with
      | nil => exact fun d => Nat.le_refl _
      | cons u r ih => exact fun d => Nat.le_trans (Nat.le_add_left _ _) (ih _)
    obtain ⟨h1, h2⟩ := hr u (List.mem_cons_self ..)
    have hlt : u.e * (d / 2 + 1) + d < 1048576 := Nat.lt_of_le_of_lt (mono r _) hd
    obtain ⟨a1, a2⟩ := prv_red h ρ u.i u.e u.q h1 h2 (d / 2 + 1) d p hp hlt
    obtain ⟨b1, b2⟩ := prv_reds h ρ r _ _ a2 (fun x hx => hr x (List.mem_cons_of_mem _ hx)) hd
    exact ⟨b1.trans a1, b2⟩
theorem RE.nf_ev (h : RG K) (ρ : Nat → K) (r : List RU) (hr : ∀ u ∈ r, ρ u.i * ρ u.i = prv ρ u.q ∧ pok u.e u.q) : ∀ e : RE, e.fine r = true → e.dg r < 1048576 → prv ρ (e.nf r) = e.ev ρ ∧ pok (e.dg r) (e.nf r)
  | .v i, hf, _ => by
    obtain ⟨a1, a2⟩ := pm_var h ρ i 12 0 (blt_lt hf)
    exact ⟨by simp only [RE.nf, RE.ev, prv, rgz_one h, a2, h.om, h.az, Nat.zero_add], pok_cons a1 (fun t ht => by cases ht)⟩
  | .o, _, _ => by
    obtain ⟨z1, z2⟩ := pm_zero h ρ 12 0
    exact ⟨by simp only [RE.nf, RE.ev, prv, rgz_one h, z2, h.mo, h.az], pok_cons z1 (fun t ht => by cases ht)⟩
  | .z, _, _ => ⟨rfl, fun t ht => by cases ht⟩
  | .add a b, hf, hd => by
    simp only [RE.fine, Bool.and_eq_true] at hf
    simp only [RE.dg] at hd
    obtain ⟨a1, a2⟩ := RE.nf_ev h ρ r hr a hf.1 (by omega)
    obtain ⟨b1, b2⟩ := RE.nf_ev h ρ r hr b hf.2 (by omega)
    exact ⟨by simp only [RE.nf, RE.ev, prv_add h, a1, b1], pok_add _ _ _ (pok_le a2 (Nat.le_max_left _ _)) (pok_le b2 (Nat.le_max_right _ _))⟩
  | .sub a b, hf, hd => by
    simp only [RE.fine, Bool.and_eq_true] at hf
    simp only [RE.dg] at hd
    obtain ⟨a1, a2⟩ := RE.nf_ev h ρ r hr a hf.1 (by omega)
    obtain ⟨b1, b2⟩ := RE.nf_ev h ρ r hr b hf.2 (by omega)
    obtain ⟨n1, n2⟩ := prv_neg h ρ _ (by omega) _ b2
    exact ⟨by simp only [RE.nf, RE.ev, prv_add h, a1, n1, b1, h.sn], pok_add _ _ _ (pok_le a2 (Nat.le_max_left _ _)) (pok_le n2 (Nat.le_max_right _ _))⟩
  | .mul a b, hf, hd => by
    simp only [RE.fine, Bool.and_eq_true] at hf
    simp only [RE.dg] at hd
    obtain ⟨a1, a2⟩ := RE.nf_ev h ρ r hr a hf.2.1 (by omega)
    obtain ⟨b1, b2⟩ := RE.nf_ev h ρ r hr b hf.2.2 (by omega)
    obtain ⟨m1, m2⟩ := prv_mul h ρ _ _ hd _ _ a2 b2
    exact ⟨by simp only [RE.nf, RE.ev, m1, a1, b1], m2⟩
  | .neg a, hf, hd => by
    simp only [RE.fine] at hf
    simp only [RE.dg] at hd
    obtain ⟨a1, a2⟩ := RE.nf_ev h ρ r hr a hf hd
    obtain ⟨n1, n2⟩ := prv_neg h ρ _ hd _ a2
    exact ⟨by simp only [RE.nf, RE.ev, n1, a1], n2⟩
  | .red a, hf, hd => by
    simp only [RE.fine, Bool.and_eq_true] at hf
    have hd2 : r.foldl (fun d u => u.e * (d / 2 + 1) + d) (a.dg r) < 1048576 := hd
    have mono : ∀ (r : List RU) (d : Nat), d ≤ r.foldl (fun d u => u.e * (d / 2 + 1) + d) d := fun r => by
      induction r with
      | nil => exact fun d => Nat.le_refl _
      | cons u r ih => exact fun d => Nat.le_trans (Nat.le_add_left _ _) (ih _)
    obtain ⟨a1, a2⟩ := RE.nf_ev h ρ r hr a hf.2 (Nat.lt_of_le_of_lt (mono r _) hd2)
    obtain ⟨b1, b2⟩ := prv_reds h ρ r _ _ a2 hr hd2
    exact ⟨b1.trans a1, b2⟩
  | .p l d, hf, _ => ⟨rfl, fun t ht => pmokb_ok (List.all_eq_true.1 hf t ht)⟩
/-- A rule out of an expression. -/
def ruOf (x : Nat × RE) : RU := ⟨x.1, x.2.nf [], x.2.dg []⟩
def rgsame (r : List (Nat × RE)) (a b : RE) : Bool :=
  r.all (fun x => x.2.fine [] && Nat.blt (x.2.dg []) 1048576) &&
    (Nat.blt ((RE.red (.sub a b)).dg (r.map ruOf)) 1048576 && ((RE.red (.sub a b)).fine (r.map ruOf) && ((RE.red (.sub a b)).nf (r.map ruOf)).isEmpty))
/-- An equation holds if the two sides come to the same polynomial, the rules' squares put in. -/
theorem rg_eq (h : RG K) (ρ : Nat → K) (r : List (Nat × RE)) (a b : RE) (hn : rgsame r a b = true) (hr : ∀ x ∈ r, ρ x.1 * ρ x.1 = x.2.ev ρ) : a.ev ρ = b.ev ρ := by
  simp only [rgsame, Bool.and_eq_true] at hn
  obtain ⟨h0, h1, h2, h3⟩ := hn
  have hru : ∀ u ∈ r.map ruOf, ρ u.i * ρ u.i = prv ρ u.q ∧ pok u.e u.q := fun u hu => by
    obtain ⟨x, hx, rfl⟩ := List.mem_map.1 hu
    have hx2 := List.all_eq_true.1 h0 x hx
    simp only [Bool.and_eq_true] at hx2
    obtain ⟨e1, e2⟩ := RE.nf_ev h ρ [] (fun _ hx => by cases hx) x.2 hx2.1 (blt_lt hx2.2)
    exact ⟨(hr x hx).trans e1.symm, e2⟩
  obtain ⟨e1, -⟩ := RE.nf_ev h ρ (r.map ruOf) hru (.red (.sub a b)) h2 (blt_lt h1)
  rw [List.isEmpty_iff.1 h3] at e1
  exact h.eq_of_sub e1.symm
theorem rg_eq0 (h : RG K) (ρ : Nat → K) (a b : RE) (hn : rgsame [] a b = true) : a.ev ρ = b.ev ρ := rg_eq h ρ [] a b hn (fun _ hx => by cases hx)
end
/-- The variables' values, listed. -/
def rgl {K : Type} [Zero K] (l : List K) : Nat → K := fun i => l.getD i 0
end Go.Proofs.YtialfoccalobpaaDoor
