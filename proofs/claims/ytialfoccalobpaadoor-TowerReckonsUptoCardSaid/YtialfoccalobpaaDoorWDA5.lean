/-
  Fld, Fv, Fw, in one text.
-/
import Derived.Test.YtialfoccalobpaaDoorWDA0
import Derived.Test.YtialfoccalobpaaDoorWDA3
import Derived.Test.YtialfoccalobpaaDoorWDA1b
/-! ## Fld -/
namespace Go.Proofs.YtialfoccalobpaaDoor
set_option linter.unusedSimpArgs false
set_option linter.unusedVariables false
def Pn : Nat := 4002409555221667393417789825735904156556882819939007885332058136124031650490837864442687629129015664037894272559787
theorem Pn_pos : 0 < Pn := by decide +kernel
instance : NeZero Pn := ⟨Nat.ne_of_gt Pn_pos⟩
abbrev Fp := Fin Pn
theorem Fp.mz (a : Fp) : a * 0 = 0 := Fin.mul_zero a
theorem Fp.zm (a : Fp) : 0 * a = 0 := Fin.zero_mul a
theorem Fp.zz : (0 : Fp) - 0 = 0 := Fin.sub_self
theorem Fp.za : (0 : Fp) + 0 = 0 := Fin.add_zero 0
theorem Fp.nz : -(0 : Fp) = 0 := by grind
/-- a + b i, i squared being -1. -/
structure F2 where
  a : Fp
  b : Fp
/-- a + b v + c v^2, v cubed being 1 + i. -/
structure C3 where
  a : F2
  b : F2
  c : F2
/-- a + b w, w squared being v. -/
structure T12 where
  a : C3
  b : C3
theorem F2.same {x y : F2} (h : x.a = y.a) (k : x.b = y.b) : x = y := by cases x; cases y; simp_all
theorem C3.same {x y : C3} (h : x.a = y.a) (k : x.b = y.b) (l : x.c = y.c) : x = y := by cases x; cases y; simp_all
theorem T12.same {x y : T12} (h : x.a = y.a) (k : x.b = y.b) : x = y := by cases x; cases y; simp_all
instance : Add F2 := ⟨fun x y => ⟨x.a + y.a, x.b + y.b⟩⟩
instance : Sub F2 := ⟨fun x y => ⟨x.a - y.a, x.b - y.b⟩⟩
instance : Neg F2 := ⟨fun x => ⟨-x.a, -x.b⟩⟩
instance : Mul F2 := ⟨fun x y => ⟨x.a * y.a - x.b * y.b, x.a * y.b + x.b * y.a⟩⟩
instance : Zero F2 := ⟨⟨0, 0⟩⟩
instance : One F2 := ⟨⟨1, 0⟩⟩
/-- x times 1 + i. -/
def F2.up (x : F2) : F2 := ⟨x.a - x.b, x.a + x.b⟩
def F2.conj (x : F2) : F2 := ⟨x.a, -x.b⟩
def F2.norm (x : F2) : Fp := x.a * x.a + x.b * x.b
theorem F2.add_a (x y : F2) : (x + y).a = x.a + y.a := rfl
theorem F2.add_b (x y : F2) : (x + y).b = x.b + y.b := rfl
theorem F2.sub_a (x y : F2) : (x - y).a = x.a - y.a := rfl
theorem F2.sub_b (x y : F2) : (x - y).b = x.b - y.b := rfl
theorem F2.neg_a (x : F2) : (-x).a = -x.a := rfl
theorem F2.neg_b (x : F2) : (-x).b = -x.b := rfl
theorem F2.mul_a (x y : F2) : (x * y).a = x.a * y.a - x.b * y.b := rfl
theorem F2.mul_b (x y : F2) : (x * y).b = x.a * y.b + x.b * y.a := rfl
theorem F2.up_a (x : F2) : x.up.a = x.a - x.b := rfl
theorem F2.up_b (x : F2) : x.up.b = x.a + x.b := rfl
theorem F2.zero_a : (0 : F2).a = 0 := rfl
theorem F2.zero_b : (0 : F2).b = 0 := rfl
theorem F2.one_a : (1 : F2).a = 1 := rfl
theorem F2.one_b : (1 : F2).b = 0 := rfl
instance : Add C3 := ⟨fun x y => ⟨x.a + y.a, x.b + y.b, x.c + y.c⟩⟩
instance : Sub C3 := ⟨fun x y => ⟨x.a - y.a, x.b - y.b, x.c - y.c⟩⟩
instance : Neg C3 := ⟨fun x => ⟨-x.a, -x.b, -x.c⟩⟩
instance : Mul C3 := ⟨fun x y => ⟨x.a * y.a + (x.b * y.c + x.c * y.b).up, x.a * y.b + x.b * y.a + (x.c * y.c).up, x.a * y.c + x.b * y.b + x.c * y.a⟩⟩
instance : Zero C3 := ⟨⟨0, 0, 0⟩⟩
instance : One C3 := ⟨⟨1, 0, 0⟩⟩
def C3.shift (x : C3) : C3 := ⟨x.c.up, x.a, x.b⟩
theorem C3.add_a (x y : C3) : (x + y).a = x.a + y.a := rfl
theorem C3.add_b (x y : C3) : (x + y).b = x.b + y.b := rfl
theorem C3.add_c (x y : C3) : (x + y).c = x.c + y.c := rfl
theorem C3.sub_a (x y : C3) : (x - y).a = x.a - y.a := rfl
theorem C3.sub_b (x y : C3) : (x - y).b = x.b - y.b := rfl
theorem C3.sub_c (x y : C3) : (x - y).c = x.c - y.c := rfl
theorem C3.neg_a (x : C3) : (-x).a = -x.a := rfl
theorem C3.neg_b (x : C3) : (-x).b = -x.b := rfl
theorem C3.neg_c (x : C3) : (-x).c = -x.c := rfl
theorem C3.mul_a (x y : C3) : (x * y).a = x.a * y.a + (x.b * y.c + x.c * y.b).up := rfl
theorem C3.mul_b (x y : C3) : (x * y).b = x.a * y.b + x.b * y.a + (x.c * y.c).up := rfl
theorem C3.mul_c (x y : C3) : (x * y).c = x.a * y.c + x.b * y.b + x.c * y.a := rfl
theorem C3.zero_a : (0 : C3).a = 0 := rfl
theorem C3.zero_b : (0 : C3).b = 0 := rfl
theorem C3.zero_c : (0 : C3).c = 0 := rfl
theorem C3.one_a : (1 : C3).a = 1 := rfl
theorem C3.one_b : (1 : C3).b = 0 := rfl
theorem C3.one_c : (1 : C3).c = 0 := rfl
theorem C3.shift_a (x : C3) : x.shift.a = x.c.up := rfl
theorem C3.shift_b (x : C3) : x.shift.b = x.a := rfl
theorem C3.shift_c (x : C3) : x.shift.c = x.b := rfl
instance : Add T12 := ⟨fun x y => ⟨x.a + y.a, x.b + y.b⟩⟩
instance : Mul T12 := ⟨fun x y => ⟨x.a * y.a + (x.b * y.b).shift, x.a * y.b + x.b * y.a⟩⟩
instance : Zero T12 := ⟨⟨0, 0⟩⟩
instance : One T12 := ⟨⟨1, 0⟩⟩
def T12.conj (x : T12) : T12 := ⟨x.a, -x.b⟩
theorem T12.add_a (x y : T12) : (x + y).a = x.a + y.a := rfl
theorem T12.add_b (x y : T12) : (x + y).b = x.b + y.b := rfl
theorem T12.mul_a (x y : T12) : (x * y).a = x.a * y.a + (x.b * y.b).shift := rfl
theorem T12.mul_b (x y : T12) : (x * y).b = x.a * y.b + x.b * y.a := rfl
theorem T12.zero_a : (0 : T12).a = 0 := rfl
theorem T12.zero_b : (0 : T12).b = 0 := rfl
theorem T12.one_a : (1 : T12).a = 1 := rfl
theorem T12.one_b : (1 : T12).b = 0 := rfl
/-- A commutative ring, without its negatives. -/
structure CR (R : Type) [Add R] [Mul R] [Zero R] [One R] : Prop where
  add_assoc : ∀ x y z : R, x + y + z = x + (y + z)
  add_comm : ∀ x y : R, x + y = y + x
  add_zero : ∀ x : R, x + 0 = x
  mul_assoc : ∀ x y z : R, x * y * z = x * (y * z)
  mul_comm : ∀ x y : R, x * y = y * x
  mul_one : ∀ x : R, x * 1 = x
  mul_zero : ∀ x : R, x * 0 = 0
  mul_add : ∀ x y z : R, x * (y + z) = x * y + x * z
theorem F2.cr : CR F2 where
  add_assoc x y z := by apply F2.same <;> simp only [F2.add_a, F2.add_b] <;> grind
  add_comm x y := by apply F2.same <;> simp only [F2.add_a, F2.add_b] <;> grind
  add_zero x := by apply F2.same <;> simp only [F2.add_a, F2.add_b, F2.zero_a, F2.zero_b] <;> grind
  mul_assoc x y z := by apply F2.same <;> simp only [F2.mul_a, F2.mul_b] <;> grind
  mul_comm x y := by apply F2.same <;> simp only [F2.mul_a, F2.mul_b] <;> grind
  mul_one x := by apply F2.same <;> simp only [F2.mul_a, F2.mul_b, F2.one_a, F2.one_b] <;> grind
  mul_zero x := by apply F2.same <;> simp only [F2.mul_a, F2.mul_b, F2.zero_a, F2.zero_b, Fp.mz, Fp.zz, Fp.za]
  mul_add x y z := by apply F2.same <;> simp only [F2.mul_a, F2.mul_b, F2.add_a, F2.add_b] <;> grind
theorem C3.cr : CR C3 where
  add_assoc x y z := by apply C3.same <;> apply F2.same <;> simp only [C3.add_a, C3.add_b, C3.add_c, F2.add_a, F2.add_b] <;> grind
  add_comm x y := by apply C3.same <;> apply F2.same <;> simp only [C3.add_a, C3.add_b, C3.add_c, F2.add_a, F2.add_b] <;> grind
  add_zero x := by apply C3.same <;> apply F2.same <;> simp only [C3.add_a, C3.add_b, C3.add_c, C3.zero_a, C3.zero_b, C3.zero_c, F2.add_a, F2.add_b, F2.zero_a, F2.zero_b] <;> grind
  mul_assoc x y z := by apply C3.same <;> apply F2.same <;> simp only [C3.mul_a, C3.mul_b, C3.mul_c, F2.add_a, F2.add_b, F2.mul_a, F2.mul_b, F2.up_a, F2.up_b] <;> grind
  mul_comm x y := by apply C3.same <;> apply F2.same <;> simp only [C3.mul_a, C3.mul_b, C3.mul_c, F2.add_a, F2.add_b, F2.mul_a, F2.mul_b, F2.up_a, F2.up_b] <;> grind
  mul_one x := by apply C3.same <;> apply F2.same <;> simp only [C3.mul_a, C3.mul_b, C3.mul_c, C3.one_a, C3.one_b, C3.one_c, F2.add_a, F2.add_b, F2.mul_a, F2.mul_b, F2.up_a, F2.up_b, F2.one_a, F2.one_b, F2.zero_a, F2.zero_b] <;> grind
  mul_zero x := by apply C3.same <;> apply F2.same <;> simp only [C3.mul_a, C3.mul_b, C3.mul_c, C3.zero_a, C3.zero_b, C3.zero_c, F2.add_a, F2.add_b, F2.mul_a, F2.mul_b, F2.up_a, F2.up_b, F2.zero_a, F2.zero_b, Fp.mz, Fp.zz, Fp.za]
  mul_add x y z := by apply C3.same <;> apply F2.same <;> simp only [C3.mul_a, C3.mul_b, C3.mul_c, C3.add_a, C3.add_b, C3.add_c, F2.add_a, F2.add_b, F2.mul_a, F2.mul_b, F2.up_a, F2.up_b] <;> grind

theorem C3.shift_add (x y : C3) : (x + y).shift = x.shift + y.shift := by
  apply C3.same <;> apply F2.same <;> simp only [C3.shift_a, C3.shift_b, C3.shift_c, C3.add_a, C3.add_b, C3.add_c, F2.up_a, F2.up_b, F2.add_a, F2.add_b] <;> grind
theorem C3.shift_mul (x y : C3) : (x * y).shift = x.shift * y := by
  apply C3.same <;> apply F2.same <;> simp only [C3.shift_a, C3.shift_b, C3.shift_c, C3.mul_a, C3.mul_b, C3.mul_c, F2.up_a, F2.up_b, F2.add_a, F2.add_b, F2.mul_a, F2.mul_b] <;> grind
section
variable {R : Type} [Add R] [Mul R] [Zero R] [One R]
theorem CR.add_mul (h : CR R) (x y z : R) : (x + y) * z = x * z + y * z := by rw [h.mul_comm, h.mul_add, h.mul_comm z, h.mul_comm z]
theorem CR.zero_mul (h : CR R) (x : R) : 0 * x = 0 := by rw [h.mul_comm, h.mul_zero]
theorem CR.one_mul (h : CR R) (x : R) : 1 * x = x := by rw [h.mul_comm, h.mul_one]
theorem CR.zero_add (h : CR R) (x : R) : 0 + x = x := by rw [h.add_comm, h.add_zero]
theorem CR.add_lc (h : CR R) (x y z : R) : x + (y + z) = y + (x + z) := by rw [← h.add_assoc, h.add_comm x, h.add_assoc]
end
theorem T12.cr : CR T12 where
  add_assoc x y z := by apply T12.same <;> exact C3.cr.add_assoc _ _ _
  add_comm x y := by apply T12.same <;> exact C3.cr.add_comm _ _
  add_zero x := by apply T12.same <;> exact C3.cr.add_zero _
  mul_assoc x y z := by
    have e : ∀ p q : C3, p.shift * q = p * q.shift := fun p q => by rw [← C3.shift_mul, C3.cr.mul_comm, C3.shift_mul, C3.cr.mul_comm]
    apply T12.same <;> simp only [T12.mul_a, T12.mul_b, C3.cr.mul_add, C3.cr.add_mul, C3.shift_add, C3.shift_mul, C3.cr.mul_assoc, e]
    · simp only [C3.cr.add_assoc]
      congr 1
      rw [C3.cr.add_comm, C3.cr.add_assoc]
    · simp only [C3.cr.add_assoc]
      congr 1
      rw [C3.cr.add_comm, C3.cr.add_assoc]
  mul_comm x y := by
    apply T12.same <;> simp only [T12.mul_a, T12.mul_b, C3.cr.mul_comm y.a, C3.cr.mul_comm y.b]
    rw [C3.cr.add_comm]
  mul_one x := by
    apply T12.same <;> simp only [T12.mul_a, T12.mul_b, T12.one_a, T12.one_b, C3.cr.mul_zero, C3.cr.mul_one]
    · rw [show C3.shift 0 = 0 from by apply C3.same <;> apply F2.same <;> simp only [C3.shift_a, C3.shift_b, C3.shift_c, C3.zero_a, C3.zero_b, C3.zero_c, F2.up_a, F2.up_b, F2.zero_a, F2.zero_b, Fp.zz, Fp.za], C3.cr.add_zero]
    · rw [C3.cr.add_comm, C3.cr.add_zero]
  mul_zero x := by
    apply T12.same <;> simp only [T12.mul_a, T12.mul_b, T12.zero_a, T12.zero_b, C3.cr.mul_zero, C3.cr.add_zero]
    · apply C3.same <;> apply F2.same <;> simp only [C3.shift_a, C3.shift_b, C3.shift_c, C3.zero_a, C3.zero_b, C3.zero_c, F2.up_a, F2.up_b, F2.zero_a, F2.zero_b, Fp.zz, Fp.za, C3.add_a, C3.add_b, C3.add_c, F2.add_a, F2.add_b]
  mul_add x y z := by
    apply T12.same <;> simp only [T12.mul_a, T12.mul_b, T12.add_a, T12.add_b, C3.cr.mul_add, C3.shift_add, C3.cr.add_assoc] <;> congr 1 <;> exact C3.cr.add_lc _ _ _

/-- A power. -/
def pw {R : Type} [Mul R] [One R] (x : R) : Nat → R
  | 0 => 1
  | n + 1 => pw x n * x
theorem pw_succ {R : Type} [Mul R] [One R] (x : R) (n : Nat) : pw x (n + 1) = pw x n * x := rfl
section
variable {R : Type} [Add R] [Mul R] [Zero R] [One R]
/-- A natural number in the ring. -/
def nr : Nat → R
  | 0 => 0
  | n + 1 => nr n + 1
theorem pw_one (h : CR R) (x : R) : pw x 1 = x := h.one_mul x
theorem pw_add (h : CR R) (x : R) (m n : Nat) : pw x (m + n) = pw x m * pw x n := by
  induction n with
  | zero => exact (h.mul_one _).symm
  | succ n ih => rw [← Nat.add_assoc, pw_succ, ih, h.mul_assoc]; rfl
theorem pw_mul (h : CR R) (x : R) (m n : Nat) : pw x (m * n) = pw (pw x m) n := by
  induction n with
  | zero => rfl
  | succ n ih => rw [Nat.mul_succ, pw_add h, ih]; rfl
theorem one_pw (h : CR R) (n : Nat) : pw (1 : R) n = 1 := by
  induction n with
  | zero => rfl
  | succ n ih => rw [pw_succ, ih, h.mul_one]
/-- The first m terms of the binomial. -/
def bs (x y : R) (n : Nat) : Nat → R
  | 0 => 0
  | m + 1 => bs x y n m + nr (bch n m) * (pw x (n - m) * pw y m)
end

theorem pr_pn : Pr Pn := pr_p
theorem Fp.cr : CR Fp where
  add_assoc x y z := by grind
  add_comm x y := by grind
  add_zero x := by grind
  mul_assoc x y z := by grind
  mul_comm x y := by grind
  mul_one x := by grind
  mul_zero x := Fp.mz x
  mul_add x y z := by grind
theorem Fp.pw_val (x : Fp) (n : Nat) : (pw x n).val = x.val ^ n % Pn := by
  induction n with
  | zero => rfl
  | succ n ih => rw [pw_succ, Fin.val_mul, ih, Nat.pow_succ, Nat.mod_mul_mod]
theorem Fp.fermat (x : Fp) : pw x Pn = x := by
  apply Fin.ext
  rw [Fp.pw_val, pr_pn.fermat, Nat.mod_eq_of_lt x.isLt]
theorem Fp.prime {x y : Fp} (h : x * y = 0) : x = 0 ∨ y = 0 := by
  have h1 : (x * y).val = 0 := by rw [h]; rfl
  rw [Fin.val_mul] at h1
  rcases pr_pn.dvd_mul (Nat.dvd_of_mod_eq_zero h1) with h2 | h2
  · left; apply Fin.ext; have := x.isLt; exact Nat.eq_zero_of_dvd_of_lt h2 this
  · right; apply Fin.ext; have := y.isLt; exact Nat.eq_zero_of_dvd_of_lt h2 this
/-- A number of the field beneath. -/
def F2.of (x : Fp) : F2 := ⟨x, 0⟩
def C3.of (x : F2) : C3 := ⟨x, 0, 0⟩
def T12.of (x : C3) : T12 := ⟨x, 0⟩
theorem F2.of_a (x : Fp) : (F2.of x).a = x := rfl
theorem F2.of_b (x : Fp) : (F2.of x).b = 0 := rfl
theorem C3.of_a (x : F2) : (C3.of x).a = x := rfl
theorem C3.of_b (x : F2) : (C3.of x).b = 0 := rfl
theorem C3.of_c (x : F2) : (C3.of x).c = 0 := rfl
theorem T12.of_a (x : C3) : (T12.of x).a = x := rfl
theorem T12.of_b (x : C3) : (T12.of x).b = 0 := rfl
theorem F2.of_mul (x y : Fp) : F2.of (x * y) = F2.of x * F2.of y := by
  apply F2.same <;> simp only [F2.mul_a, F2.mul_b, F2.of_a, F2.of_b, Fp.mz, Fp.zm, Fp.za] <;> grind
theorem F2.up_zero : (0 : F2).up = 0 := by apply F2.same <;> simp only [F2.up_a, F2.up_b, F2.zero_a, F2.zero_b, Fp.zz, Fp.za]
theorem C3.of_mul (x y : F2) : C3.of (x * y) = C3.of x * C3.of y := by
  apply C3.same <;> simp only [C3.mul_a, C3.mul_b, C3.mul_c, C3.of_a, C3.of_b, C3.of_c, F2.cr.mul_zero, F2.cr.zero_mul, F2.cr.add_zero, F2.up_zero]
theorem C3.shift_zero : (0 : C3).shift = 0 := by apply C3.same <;> simp only [C3.shift_a, C3.shift_b, C3.shift_c, C3.zero_a, C3.zero_b, C3.zero_c, F2.up_zero]
theorem T12.of_mul (x y : C3) : T12.of (x * y) = T12.of x * T12.of y := by
  apply T12.same <;> simp only [T12.mul_a, T12.mul_b, T12.of_a, T12.of_b, C3.cr.mul_zero, C3.cr.zero_mul, C3.cr.add_zero, C3.shift_zero]
theorem F2.pw_of (x : Fp) (n : Nat) : pw (F2.of x) n = F2.of (pw x n) := by
  induction n with
  | zero => rfl
  | succ n ih => rw [pw_succ, ih, ← F2.of_mul]; rfl
theorem C3.pw_of (x : F2) (n : Nat) : pw (C3.of x) n = C3.of (pw x n) := by
  induction n with
  | zero => rfl
  | succ n ih => rw [pw_succ, ih, ← C3.of_mul]; rfl
theorem T12.pw_of (x : C3) (n : Nat) : pw (T12.of x) n = T12.of (pw x n) := by
  induction n with
  | zero => rfl
  | succ n ih => rw [pw_succ, ih, ← T12.of_mul]; rfl
def Pm : Nat := 667068259203611232236298304289317359426147136656501314222009689354005275081806310740447938188169277339649045426631
theorem pm_six : Pn = 6 * Pm + 1 := by decide +kernel
/-- i. -/
def F2.I : F2 := ⟨0, 1⟩
theorem Fp.zs (x : Fp) : 0 - x = -x := by grind
theorem F2.ii : F2.I * F2.I = -1 := by
  apply F2.same <;> simp only [F2.mul_a, F2.mul_b, F2.neg_a, F2.neg_b, F2.one_a, F2.one_b, F2.I, Fp.mz, Fp.zm, Fp.nz, Fp.za, Fp.cr.mul_one, Fp.zs]
theorem F2.neg_mul (x y : F2) : -x * y = -(x * y) := by
  apply F2.same <;> simp only [F2.mul_a, F2.mul_b, F2.neg_a, F2.neg_b] <;> grind
theorem F2.neg_neg (x : F2) : - -x = x := by
  apply F2.same <;> simp only [F2.neg_a, F2.neg_b] <;> grind
theorem F2.mul_neg (x y : F2) : x * -y = -(x * y) := by
  apply F2.same <;> simp only [F2.mul_a, F2.mul_b, F2.neg_a, F2.neg_b] <;> grind
theorem F2.i2 : pw F2.I 2 = -1 := by
  show pw F2.I 1 * F2.I = -1
  rw [pw_one F2.cr, F2.ii]
theorem F2.i4 : pw F2.I 4 = 1 := by
  show pw F2.I (2 + 2) = 1
  rw [pw_add F2.cr, F2.i2, F2.neg_mul, F2.mul_neg, F2.neg_neg, F2.cr.mul_one]
theorem F2.i3 (n : Nat) : pw F2.I (4 * n + 3) = -F2.I := by
  have h3 : pw F2.I 3 = -F2.I := by
    show pw F2.I 2 * F2.I = _
    rw [F2.i2, F2.neg_mul, F2.cr.one_mul]
  rw [pw_add F2.cr, pw_mul F2.cr, F2.i4, one_pw F2.cr, F2.cr.one_mul, h3]
theorem F2.split (x : F2) : x = F2.of x.a + F2.of x.b * F2.I := by
  apply F2.same <;> simp only [F2.mul_a, F2.mul_b, F2.add_a, F2.add_b, F2.of_a, F2.of_b, F2.I, Fp.mz, Fp.zm] <;> grind
/-- 1 + i; v; w. -/
def F2.xi : F2 := ⟨1, 1⟩
def C3.V : C3 := ⟨0, 1, 0⟩
def T12.W : T12 := ⟨0, 1⟩
theorem C3.mul_V (x : C3) : C3.V * x = x.shift := by
  apply C3.same <;> simp only [C3.mul_a, C3.mul_b, C3.mul_c, C3.shift_a, C3.shift_b, C3.shift_c, C3.V, F2.cr.one_mul, F2.cr.zero_mul, F2.cr.zero_add, F2.cr.add_zero, F2.up_zero]
theorem C3.v3 : pw C3.V 3 = C3.of F2.xi := by
  show 1 * C3.V * C3.V * C3.V = _
  rw [C3.cr.one_mul, C3.cr.mul_assoc, C3.mul_V, C3.mul_V]
  rfl
theorem T12.ww : T12.W * T12.W = T12.of C3.V := by
  apply T12.same <;> simp only [T12.mul_a, T12.mul_b, T12.W, T12.of_a, T12.of_b, C3.cr.mul_one, C3.cr.mul_zero, C3.cr.zero_mul, C3.cr.zero_add, C3.cr.add_zero]
  rfl
theorem T12.w6 : pw T12.W 6 = T12.of (C3.of F2.xi) := by
  rw [show 6 = 2 * 3 from rfl, pw_mul T12.cr, show pw T12.W 2 = T12.W * T12.W from by show 1 * T12.W * T12.W = _; rw [T12.cr.one_mul], T12.ww, T12.pw_of, C3.v3]
/-- The root: 1 + i to the power of a sixth of the modulus. -/
def F2.R : F2 := pw F2.xi Pm
theorem pw_two {R : Type} [Add R] [Mul R] [Zero R] [One R] (h : CR R) (x : R) : pw x 2 = x * x := by
  show 1 * x * x = x * x
  rw [h.one_mul]
theorem C3.split_a (x : C3) : (C3.of x.a + ((C3.of x.b).shift + (C3.of x.c).shift.shift)).a = x.a := by rw [C3.add_a, C3.add_a, C3.shift_a, C3.shift_a, C3.shift_c, C3.of_a, C3.of_c, C3.of_b, F2.up_zero, F2.cr.add_zero, F2.cr.add_zero]
theorem C3.split_b (x : C3) : (C3.of x.a + ((C3.of x.b).shift + (C3.of x.c).shift.shift)).b = x.b := by rw [C3.add_b, C3.add_b, C3.shift_b, C3.shift_b, C3.shift_a, C3.of_b, C3.of_a, C3.of_c, F2.up_zero, F2.cr.add_zero, F2.cr.zero_add]
theorem C3.split_c (x : C3) : (C3.of x.a + ((C3.of x.b).shift + (C3.of x.c).shift.shift)).c = x.c := by rw [C3.add_c, C3.add_c, C3.shift_c, C3.shift_c, C3.shift_b, C3.of_b, C3.of_c, C3.of_a, F2.cr.zero_add, F2.cr.zero_add]
theorem C3.split (x : C3) : x = C3.of x.a + (C3.of x.b * C3.V + C3.of x.c * (C3.V * C3.V)) := by
  have e1 : C3.of x.b * C3.V = (C3.of x.b).shift := by rw [C3.cr.mul_comm, C3.mul_V]
  have e2 : C3.of x.c * (C3.V * C3.V) = (C3.of x.c).shift.shift := by rw [← C3.cr.mul_assoc, C3.cr.mul_comm, C3.cr.mul_comm (C3.of x.c), C3.mul_V, C3.mul_V]
  rw [e1, e2]
  exact C3.same (C3.split_a x).symm (C3.split_b x).symm (C3.split_c x).symm
theorem T12.split (x : T12) : x = T12.of x.a + T12.of x.b * T12.W := by
  apply T12.same <;> simp only [T12.add_a, T12.add_b, T12.mul_a, T12.mul_b, T12.of_a, T12.of_b, T12.W, C3.cr.mul_zero, C3.cr.zero_mul, C3.shift_zero, C3.cr.add_zero, C3.cr.zero_add, C3.cr.mul_one]
end Go.Proofs.YtialfoccalobpaaDoor

/-! ## Fv -/
namespace Go.Proofs.YtialfoccalobpaaDoor
set_option linter.unusedSimpArgs false
set_option linter.unusedVariables false
open Go.RowKit
theorem Mp_pn : Mp = (Pn : Int) := by unfold Mp Pn; rfl
/-- The element of a number. -/
def Fp.n (k : Int) : Fp := ⟨(k % Mp).toNat, by
  have := Mp_lo.1
  have h1 := Int.emod_nonneg k (show Mp ≠ 0 by omega)
  have h2 := Int.emod_lt_of_pos k Mp_lo.1
  have h3 := Mp_pn
  omega⟩
theorem Fp.n_val (k : Int) : ((Fp.n k).val : Int) = k % Mp := by
  have h1 := Int.emod_nonneg k (show Mp ≠ 0 by have := Mp_lo.1; omega)
  show ((k % Mp).toNat : Int) = _
  omega
theorem Fp.val_mod (x : Fp) : (x.val : Int) % Mp = x.val := by
  rw [Mp_pn]
  exact Int.emod_eq_of_lt (by omega) (by have := x.isLt; omega)
theorem Fp.n_of (x : Fp) : Fp.n x.val = x := by
  apply Fin.ext
  have := Fp.n_val x.val
  rw [Fp.val_mod] at this
  omega
theorem Fp.n_inj {a b : Int} : Fp.n a = Fp.n b ↔ a % Mp = b % Mp := by
  constructor
  · intro h; rw [← Fp.n_val, ← Fp.n_val, h]
  · intro h; apply Fin.ext; have h1 := Fp.n_val a; have h2 := Fp.n_val b; omega
theorem Fp.n_add (a b : Int) : Fp.n (a + b) = Fp.n a + Fp.n b := by
  apply Fin.ext
  have h := Fp.n_val (a + b)
  have e : ((Fp.n a + Fp.n b).val : Int) = (a % Mp + b % Mp) % Mp := by
    rw [Fin.val_add, Int.natCast_emod, Int.natCast_add, Fp.n_val, Fp.n_val, ← Mp_pn]
  rw [← Int.add_emod] at e
  omega
theorem Fp.n_mul (a b : Int) : Fp.n (a * b) = Fp.n a * Fp.n b := by
  apply Fin.ext
  have h := Fp.n_val (a * b)
  have e : ((Fp.n a * Fp.n b).val : Int) = (a % Mp * (b % Mp)) % Mp := by
    rw [Fin.val_mul, Int.natCast_emod, Int.natCast_mul, Fp.n_val, Fp.n_val, ← Mp_pn]
  rw [← Int.mul_emod] at e
  omega
theorem Fp.n_zero : Fp.n 0 = 0 := by
  apply Fin.ext
  have h := Fp.n_val 0
  show _ = 0
  simpa using h
theorem Fp.n_neg (a : Int) : Fp.n (-a) = -Fp.n a := by
  have h := Fp.n_add a (-a)
  rw [Int.add_right_neg, Fp.n_zero] at h
  grind
theorem Fp.n_sub (a b : Int) : Fp.n (a - b) = Fp.n a - Fp.n b := by
  rw [Int.sub_eq_add_neg, Fp.n_add, Fp.n_neg]
  grind
/-- The cells of an element. -/
def pc (x : Fp) : Array Value := (pv (x.val : Int)).cells
theorem pv_pc (x : Fp) : pv (x.val : Int) = .agg (pc x) := rfl
theorem pv_n (k : Int) : pv k = .agg (pc (Fp.n k)) := by
  rw [← pv_pc, Fp.n_val]
  exact pv_cast (Int.emod_emod_of_dvd _ (Int.dvd_refl _)).symm
theorem pc_size (x : Fp) : (pc x).size = 6 := rfl
theorem pc_one (x : Fp) : (pc x).all (·.oneCell') = true := by
  unfold pc pv arr6
  simp [Value.cells, Value.oneCell']
def c2 (x : F2) : Array Value := pc x.a ++ pc x.b
def c3 (x : C3) : Array Value := c2 x.a ++ (c2 x.b ++ c2 x.c)
def c12 (x : T12) : Array Value := c3 x.a ++ c3 x.b
theorem c2_size (x : F2) : (c2 x).size = 12 := by simp [c2, pc_size]
theorem c3_size (x : C3) : (c3 x).size = 36 := by simp [c3, c2_size]
theorem c12_size (x : T12) : (c12 x).size = 72 := by simp [c12, c3_size]
theorem c2_one (x : F2) : (c2 x).all (·.oneCell') = true := by simp only [c2, Array.all_append, pc_one]; rfl
theorem c3_one (x : C3) : (c3 x).all (·.oneCell') = true := by simp only [c3, Array.all_append, c2_one]; rfl
theorem c12_one (x : T12) : (c12 x).all (·.oneCell') = true := by simp only [c12, Array.all_append, c3_one]; rfl
theorem sl_2a (x : F2) (cs : Array Value) (o : Nat) (h : Sl cs o (c2 x)) : Sl cs o (pc x.a) := Sl.left h
theorem sl_2b (x : F2) (cs : Array Value) (o m : Nat) (h : Sl cs o (c2 x)) (hm : o + 6 = m) : Sl cs m (pc x.b) := Sl.right h 6 (pc_size _) m hm
theorem sl_3a (x : C3) (cs : Array Value) (o : Nat) (h : Sl cs o (c3 x)) : Sl cs o (c2 x.a) := Sl.left h
theorem sl_3b (x : C3) (cs : Array Value) (o m : Nat) (h : Sl cs o (c3 x)) (hm : o + 12 = m) : Sl cs m (c2 x.b) := Sl.left (Sl.right h 12 (c2_size _) m hm)
theorem sl_3c (x : C3) (cs : Array Value) (o m : Nat) (h : Sl cs o (c3 x)) (hm : o + 24 = m) : Sl cs m (c2 x.c) := Sl.right (Sl.right h 12 (c2_size _) (o + 12) rfl) 12 (c2_size _) m (by omega)
theorem sl_12a (x : T12) (cs : Array Value) (o : Nat) (h : Sl cs o (c12 x)) : Sl cs o (c3 x.a) := Sl.left h
theorem sl_12b (x : T12) (cs : Array Value) (o m : Nat) (h : Sl cs o (c12 x)) (hm : o + 36 = m) : Sl cs m (c3 x.b) := Sl.right h 36 (c3_size _) m hm
theorem hi_1 (x : Fp) : (Tryd.prog.info? 35).map (·.size) = some (pc x).size := by rw [pc_size]; kernel_rfl
theorem hi_2 (x : F2) : (Tryd.prog.info? 37).map (·.size) = some (c2 x).size := by rw [c2_size]; kernel_rfl
theorem hi_3 (x : C3) : (Tryd.prog.info? 81).map (·.size) = some (c3 x).size := by rw [c3_size]; kernel_rfl
theorem hi_12 (x : T12) : (Tryd.prog.info? 83).map (·.size) = some (c12 x).size := by rw [c12_size]; kernel_rfl
theorem pc_zero : pc 0 = (List.replicate 6 (Value.int .u64 0)).toArray := by
  have h := pv_zero
  have e : ((0 : Fp).val : Int) = 0 := rfl
  unfold pc
  rw [e, ← h, arr6_zero]
  rfl
theorem c2_zero : c2 0 = (List.replicate 12 (Value.int .u64 0)).toArray := by
  show pc 0 ++ pc 0 = _
  rw [pc_zero]; rfl
theorem c3_zero : c3 0 = (List.replicate 36 (Value.int .u64 0)).toArray := by
  show c2 0 ++ (c2 0 ++ c2 0) = _
  rw [c2_zero]; rfl
theorem c12_zero : c12 0 = (List.replicate 72 (Value.int .u64 0)).toArray := by
  show c3 0 ++ c3 0 = _
  rw [c3_zero]; rfl
/-- The variables of fp hold what they are given: the modulus, the square. -/
structure Glo (w : World) : Prop where
  m : GMp w
  s : GSqp w
theorem Glo.keep {w w' : World} (h : Glo w) (hb : Below w.heap.size w w') : Glo w' := ⟨h.m.keep hb, h.s.keep hb⟩
/-- The same, of what does not look the modulus up. -/
structure Glo0 (w : World) : Prop where
  m : GM0 w
  s : GSqp w
theorem Glo0.keep {w w' : World} (h : Glo0 w) (hb : Below w.heap.size w w') : Glo0 w' := ⟨trivial, h.s.keep hb⟩
theorem Glo.none {w : World} (h : Glo w) : Glo0 w := ⟨trivial, h.s⟩
instance {w : World} : Coe (Glo w) (Glo0 w) := ⟨Glo.none⟩
/-- A function returns v, and memory only grows. -/
def Rets (f : FuncId) (args : Array Value) (w : World) (v : Value) : Prop := Calls Tryd.prog f args w fun e w' => e = .returned v ∧ Below w.heap.size w w'
theorem v_add (x y : Fp) (w : World) (hG : Glo0 w) : Rets 112 #[.agg (pc x), .agg (pc y)] w (.agg (pc (x + y))) := by
  have h := fp_add x.val y.val w hG.m
  rwa [pv_n (_ + _), Fp.n_add, Fp.n_of, Fp.n_of, pv_pc, pv_pc] at h
theorem v_sub (x y : Fp) (w : World) (hG : Glo0 w) : Rets 127 #[.agg (pc x), .agg (pc y)] w (.agg (pc (x - y))) := by
  have h := fp_sub x.val y.val w hG.m
  rwa [pv_n (_ - _), Fp.n_sub, Fp.n_of, Fp.n_of, pv_pc, pv_pc] at h
theorem v_mul (x y : Fp) (w : World) (hG : Glo0 w) : Rets 111 #[.agg (pc x), .agg (pc y)] w (.agg (pc (x * y))) := by
  have h := fp_mul x.val y.val w hG.m
  rwa [pv_n (_ * _), Fp.n_mul, Fp.n_of, Fp.n_of, pv_pc, pv_pc] at h
theorem v_of (k : Int) (w : World) (hG : Glo0 w) (h0 : 0 ≤ k) (hk : k < Wd) : Rets 120 #[.int .u64 k] w (.agg (pc (Fp.n k))) := by
  have h := fp_of k w hG.m hG.s h0 hk
  rwa [pv_n] at h
end Go.Proofs.YtialfoccalobpaaDoor

/-! ## Fw -/
namespace Go.Proofs.YtialfoccalobpaaDoor
set_option linter.unusedSimpArgs false
set_option linter.unusedVariables false
open Go.RowKit
theorem z_1 : (Tryd.prog.info? 35).map (·.zero) = some (some (.agg (pc 0))) := by rw [pc_zero]; kernel_rfl
theorem z_2 : (Tryd.prog.info? 37).map (·.zero) = some (some (.agg (c2 0))) := by rw [c2_zero]; kernel_rfl
theorem z_3 : (Tryd.prog.info? 81).map (·.zero) = some (some (.agg (c3 0))) := by rw [c3_zero]; kernel_rfl
theorem z_12 : (Tryd.prog.info? 83).map (·.zero) = some (some (.agg (c12 0))) := by rw [c12_zero]; kernel_rfl
section
variable {S : World → Prop} {l : List (Nat × Value)} {dst : Option Tmp} {ty : TypeId} {parts : Array (Nat × Operand)} {pos : String} {after : Array Edge} {gd : Option (Nat × Bool)}
theorem gb_fp2 (ps : List (Nat × Array Value)) (hf : fits [6, 6] ps) (he : (parts.toList.map fun x => (x.1, rho l x.2)) = ps.map fun p => (p.1, Value.agg p.2)) (out : Array Value) (ho : joinA (putsA [pc 0, pc 0] ps) = out) :
    Gives Tryd.prog S (.agg out) (execOp (rho l) ⟨dst, .build 37 parts, ty, pos, after, gd⟩) :=
  gives_build _ #[(0, 6), (6, 6)] _ Tryd.underlying37 z_2 (fun _ => by kernel_rfl) [6, 6] (fun i h => by
    simp only [List.length_cons, List.length_nil] at h
    obtain rfl | rfl : i = 0 ∨ i = 1 := by omega
    all_goals rfl) [pc 0, pc 0] rfl rfl ps hf he out ho
theorem gb_cubic (ps : List (Nat × Array Value)) (hf : fits [12, 12, 12] ps) (he : (parts.toList.map fun x => (x.1, rho l x.2)) = ps.map fun p => (p.1, Value.agg p.2)) (out : Array Value) (ho : joinA (putsA [c2 0, c2 0, c2 0] ps) = out) :
    Gives Tryd.prog S (.agg out) (execOp (rho l) ⟨dst, .build 81 parts, ty, pos, after, gd⟩) :=
  gives_build _ #[(0, 12), (12, 12), (24, 12)] _ Tryd.underlying81 z_3 (fun _ => by kernel_rfl) [12, 12, 12] (fun i h => by
    simp only [List.length_cons, List.length_nil] at h
    obtain rfl | rfl | rfl : i = 0 ∨ i = 1 ∨ i = 2 := by omega
    all_goals rfl) [c2 0, c2 0, c2 0] (by simp only [List.map_cons, List.map_nil, c2_size]) rfl ps hf he out ho
theorem gb_tower (ps : List (Nat × Array Value)) (hf : fits [36, 36] ps) (he : (parts.toList.map fun x => (x.1, rho l x.2)) = ps.map fun p => (p.1, Value.agg p.2)) (out : Array Value) (ho : joinA (putsA [c3 0, c3 0] ps) = out) :
    Gives Tryd.prog S (.agg out) (execOp (rho l) ⟨dst, .build 83 parts, ty, pos, after, gd⟩) :=
  gives_build _ #[(0, 36), (36, 36)] _ Tryd.underlying83 z_12 (fun _ => by kernel_rfl) [36, 36] (fun i h => by
    simp only [List.length_cons, List.length_nil] at h
    obtain rfl | rfl : i = 0 ∨ i = 1 := by omega
    all_goals rfl) [c3 0, c3 0] (by simp only [List.map_cons, List.map_nil, c3_size]) rfl ps hf he out ho
end
end Go.Proofs.YtialfoccalobpaaDoor
