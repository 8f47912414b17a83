/-
  What the laws of the groups say of points.
-/
import Derived.Test.YtifnnckbcjafgaaDoorQGh
namespace Go.Proofs.YtifnnckbcjafgaaDoor
set_option linter.unusedSimpArgs false
set_option linter.unusedVariables false
set_option linter.unusedSectionVars false
open Go.RowKit
theorem gb0_fr {S : World → Prop} {l : List (Nat × Value)} {dst : Option Nat} {ty : TypeId} {pos : String} {after : Array Edge} {gd : Option (Nat × Bool)} : Gives Tryd.prog S (.agg (frc 0)) (execOp (rho l) ⟨dst, .build 36 #[], ty, pos, after, gd⟩) := gives_value _ fun w => by
  have h : (Instr.build 36 #[]).run Tryd.prog w = .ok (.agg (frc 0)) w := by rw [frc_zero]; kernel_rfl
  simp [execOp, h]
section
variable {K : Type} [Add K] [Sub K] [Neg K] [Mul K] [Zero K] [One K] [DecidableEq K] {inv : K → K} {b : K}
/-- A point of the group. -/
def InG (inv : K → K) (b : K) (p : Pt K) : Prop := OnC b p ∧ ecN inv Mr.toNat p = 0
theorem Mr_nat : ((Mr.toNat : Nat) : Int) = Mr := Int.toNat_of_nonneg (Int.le_of_lt Mr_lo.1)
theorem ing_per (E : EC inv b) {p : Pt K} (h : InG inv b p) (n : Nat) : ecN inv n p = ecN inv (n % Mr.toNat) p := by
  have e : ecN inv (Mr.toNat * (n / Mr.toNat) + n % Mr.toNat) p = ecN inv (n % Mr.toNat) p := by
    rw [E.ec_nadd h.1, E.ec_nmul h.1, h.2, E.n_zero, EC.zero_add]
  rwa [Nat.div_add_mod] at e
theorem ing_cong (E : EC inv b) {p : Pt K} (h : InG inv b p) {m n : Nat} (e : (m : Int) % Mr = (n : Int) % Mr) : ecN inv m p = ecN inv n p := by
  rw [ing_per E h m, ing_per E h n]
  rw [← Mr_nat, ← Int.natCast_emod, ← Int.natCast_emod] at e
  rw [Int.ofNat.inj e]
theorem xm (x : Int) : (((x % Mr).toNat : Nat) : Int) = x % Mr := Int.toNat_of_nonneg (Int.emod_nonneg _ (by unfold Mr; decide))
theorem on_mul (E : EC inv b) (h0 : inv 0 = 0) {p : Pt K} (h : OnC b p) (x : Int) : OnC b (gMul inv p x) := by
  rw [g_mul E h0 h]
  exact E.on_n h _
theorem ing_mul (E : EC inv b) (h0 : inv 0 = 0) {p : Pt K} (h : InG inv b p) (x : Int) : InG inv b (gMul inv p x) := by
  refine ⟨on_mul E h0 h.1 x, ?_⟩
  rw [g_mul E h0 h.1, ← E.ec_nmul h.1, Nat.mul_comm, E.ec_nmul h.1, h.2, E.n_zero]
theorem on_gadd (E : EC inv b) (h0 : inv 0 = 0) {p q : Pt K} (hp : OnC b p) (hq : OnC b q) : OnC b (gAdd inv p q) := by
  rw [g_add E h0 hp hq]
  exact E.on_add hp hq
theorem mul_sum (E : EC inv b) (h0 : inv 0 = 0) {p : Pt K} (h : InG inv b p) (x y : Int) : gAdd inv (gMul inv p x) (gMul inv p y) = gMul inv p (x + y) := by
  rw [g_add E h0 (on_mul E h0 h.1 x) (on_mul E h0 h.1 y), g_mul E h0 h.1, g_mul E h0 h.1, g_mul E h0 h.1, ← E.ec_nadd h.1]
  refine ing_cong E h ?_
  rw [Int.natCast_add, xm, xm, xm, Int.emod_emod, ← Int.add_emod]
theorem mul_mul (E : EC inv b) (h0 : inv 0 = 0) {p : Pt K} (h : InG inv b p) (x y : Int) : gMul inv (gMul inv p x) y = gMul inv p (x * y) := by
  rw [g_mul E h0 (on_mul E h0 h.1 x), g_mul E h0 h.1, g_mul E h0 h.1, ← E.ec_nmul h.1]
  refine ing_cong E h ?_
  rw [Int.natCast_mul, xm, xm, xm, Int.emod_emod, ← Int.mul_emod]
theorem mul_zero (E : EC inv b) (h0 : inv 0 = 0) {p : Pt K} (h : OnC b p) : gMul inv p 0 = 0 := by
  rw [g_mul E h0 h, Int.zero_emod]
  rfl
theorem mul_one (E : EC inv b) (h0 : inv 0 = 0) {p : Pt K} (h : OnC b p) : gMul inv p 1 = p := by
  rw [g_mul E h0 h, show (1 % Mr).toNat = 1 by decide +kernel, EC.n_one]
theorem mul_neg (E : EC inv b) (h0 : inv 0 = 0) {p : Pt K} (h : InG inv b p) (x : Int) : -gMul inv p x = gMul inv p (-x) := by
  have e := mul_sum E h0 h x (-x)
  rw [Int.add_right_neg, mul_zero E h0 h.1, g_add E h0 (on_mul E h0 h.1 _) (on_mul E h0 h.1 _)] at e
  rw [E.sum_zero (on_mul E h0 h.1 _) (on_mul E h0 h.1 _) e, E.neg_neg]
theorem mul_minus (E : EC inv b) (h0 : inv 0 = 0) {p : Pt K} (h : InG inv b p) : gMul inv p (-1) = -p := by
  rw [← mul_neg E h0 h, mul_one E h0 h.1]
/-- In: it comes to nought when taken r times. -/
theorem in_iff (E : EC inv b) (h0 : inv 0 = 0) {p : Pt K} (h : OnC b p) : gMul inv p (-1) = -p ↔ ecN inv Mr.toNat p = 0 := by
  constructor
  · intro e
    rw [g_mul E h0 h] at e
    have e2 : Mr.toNat = ((-1) % Mr).toNat + 1 := by decide +kernel
    rw [e2, E.ec_nadd h, e, EC.n_one, E.neg_add_self h]
  · intro e
    exact mul_minus E h0 ⟨h, e⟩
theorem gadd_assoc (E : EC inv b) (h0 : inv 0 = 0) {p q r : Pt K} (hp : OnC b p) (hq : OnC b q) (hr : OnC b r) : gAdd inv (gAdd inv p q) r = gAdd inv p (gAdd inv q r) := by
  rw [g_add E h0 (on_gadd E h0 hp hq) hr, g_add E h0 hp hq, g_add E h0 hp (on_gadd E h0 hq hr), g_add E h0 hq hr, E.assoc hp hq hr]
theorem gadd_comm (E : EC inv b) (h0 : inv 0 = 0) {p q : Pt K} (hp : OnC b p) (hq : OnC b q) : gAdd inv p q = gAdd inv q p := by
  rw [g_add E h0 hp hq, g_add E h0 hq hp, E.add_comm hp hq]
theorem gadd_zero (E : EC inv b) (h0 : inv 0 = 0) {p : Pt K} (hp : OnC b p) : gAdd inv p 0 = p := by
  rw [g_add E h0 hp (.inl rfl), EC.add_zero]
theorem gzero_add (E : EC inv b) (h0 : inv 0 = 0) {p : Pt K} (hp : OnC b p) : gAdd inv 0 p = p := by
  rw [g_add E h0 (.inl rfl) hp, EC.zero_add]
theorem gadd_back (E : EC inv b) (h0 : inv 0 = 0) {p : Pt K} (hp : OnC b p) : gAdd inv p (-p) = 0 := by
  rw [g_add E h0 hp (E.on_neg hp), E.add_neg hp]
theorem gneg_sum (E : EC inv b) (h0 : inv 0 = 0) {p q : Pt K} (hp : OnC b p) (hq : OnC b q) : -gAdd inv p q = gAdd inv (-p) (-q) := by
  rw [g_add E h0 hp hq, g_add E h0 (E.on_neg hp) (E.on_neg hq), E.neg_sum hp hq]
theorem gsum_three (E : EC inv b) (h0 : inv 0 = 0) {p q r : Pt K} (hp : OnC b p) (hq : OnC b q) (hr : OnC b r) : gSum inv [p, q, r] = gAdd inv (gAdd inv p q) r := by
  rw [g_sum E h0 _ (by
    intro P hP
    simp only [List.mem_cons, List.not_mem_nil, or_false] at hP
    rcases hP with rfl | rfl | rfl <;> assumption), g_add E h0 (on_gadd E h0 hp hq) hr, g_add E h0 hp hq]
  show ecAdd inv (ecAdd inv (ecAdd inv 0 p) q) r = _
  rw [EC.zero_add]
theorem gsum_none (E : EC inv b) (h0 : inv 0 = 0) : gSum inv [] = 0 := g_sum E h0 [] (fun P hP => by cases hP)
end
theorem ing_gen2 : InG F2.inv (F2.sm 4 4) gen2 := ⟨on_gen2, gen2_r⟩
theorem ing2 {k : Pt F2} (hk : k = gen2) (x : Int) : InG F2.inv (F2.sm 4 4) (gMul F2.inv k x) := by rw [hk]; exact ing_mul ec2 F2.inv_zero ing_gen2 x
end Go.Proofs.YtifnnckbcjafgaaDoor
