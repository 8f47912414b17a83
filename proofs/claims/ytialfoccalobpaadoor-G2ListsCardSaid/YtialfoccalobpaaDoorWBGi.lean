/-
  What the laws of the groups say of points.
-/
import Derived.Test.YtialfoccalobpaaDoorWBGh
namespace Go.Proofs.YtialfoccalobpaaDoor
set_option linter.unusedSimpArgs false
set_option linter.unusedVariables false
set_option linter.unusedSectionVars false
open Go.RowKit
theorem gb0_fr {S : World → Prop} {l : List (Nat × Value)} {dst : Option Nat} {ty : TypeId} {pos : String} {after : Array Edge} {gd : Option (Nat × Bool)} : Gives Tryd.prog S (.agg (frc 0)) (execOp (rho l) ⟨dst, .build 60 #[], ty, pos, after, gd⟩) := gives_value _ fun w => by
  have h : (Instr.build 60 #[]).run Tryd.prog w = .ok (.agg (frc 0)) w := by rw [frc_zero]; kernel_rfl
  simp [execOp, h]
section
variable {K : Type} [Add K] [Sub K] [Neg K] [Mul K] [Zero K] [One K] [DecidableEq K] {inv : K → K} {b : K}
/-- A point of the group. -/
def InG (inv : K → K) (b : K) (p : Pt K) : Prop := OnC b p ∧ ecN inv Mr.toNat p = 0
theorem Mr_nat : ((Mr.toNat : Nat) : Int) = Mr := Int.toNat_of_nonneg (Int.le_of_lt Mr_lo.1)
theorem ing_per (E : EC inv b) {p : Pt K} (h : InG inv b p) (n : Nat) : ecN inv n p = ecN inv (n % Mr.toNat) p := by
  have e : ecN inv (Mr.toNat * (n / Mr.toNat) + n % Mr.toNat) p = ecN inv (n % Mr.toNat) p := by
    rw [E.ec_nadd h.1, E.ec_nmul h.1, h.2, E.n_zero, EC.zero_add]
  rwa [Nat.div_add_mod] at e
theorem ing_cong (E : EC inv b) {p : Pt K} (h : InG inv b p) {m n : Nat} (e : (m : Int) % Mr = (n : Int) % Mr) : ecN inv m p = ecN inv n p := by
  rw [ing_per E h m, ing_per E h n]
  rw [← Mr_nat, ← Int.natCast_emod, ← Int.natCast_emod] at e
  rw [Int.ofNat.inj e]
theorem xm (x : Int) : (((x % Mr).toNat : Nat) : Int) = x % Mr := Int.toNat_of_nonneg (Int.emod_nonneg _ (by unfold Mr; decide))
theorem on_mul (E : EC inv b) (h0 : inv 0 = 0) {p : Pt K} (h : OnC b p) (x : Int) : OnC b (gMul inv p x) := by
  rw [g_mul E h0 h]
  exact E.on_n h _
theorem mul_sum (E : EC inv b) (h0 : inv 0 = 0) {p : Pt K} (h : InG inv b p) (x y : Int) : gAdd inv (gMul inv p x) (gMul inv p y) = gMul inv p (x + y) := by
  rw [g_add E h0 (on_mul E h0 h.1 x) (on_mul E h0 h.1 y), g_mul E h0 h.1, g_mul E h0 h.1, g_mul E h0 h.1, ← E.ec_nadd h.1]
  refine ing_cong E h ?_
  rw [Int.natCast_add, xm, xm, xm, Int.emod_emod, ← Int.add_emod]
theorem mul_zero (E : EC inv b) (h0 : inv 0 = 0) {p : Pt K} (h : OnC b p) : gMul inv p 0 = 0 := by
  rw [g_mul E h0 h, Int.zero_emod]
  rfl
theorem mul_one (E : EC inv b) (h0 : inv 0 = 0) {p : Pt K} (h : OnC b p) : gMul inv p 1 = p := by
  rw [g_mul E h0 h, show (1 % Mr).toNat = 1 by decide +kernel, EC.n_one]
theorem mul_neg (E : EC inv b) (h0 : inv 0 = 0) {p : Pt K} (h : InG inv b p) (x : Int) : -gMul inv p x = gMul inv p (-x) := by
  have e := mul_sum E h0 h x (-x)
  rw [Int.add_right_neg, mul_zero E h0 h.1, g_add E h0 (on_mul E h0 h.1 _) (on_mul E h0 h.1 _)] at e
  rw [E.sum_zero (on_mul E h0 h.1 _) (on_mul E h0 h.1 _) e, E.neg_neg]
end
theorem ing_gen2 : InG F2.inv (F2.sm 4 4) gen2 := ⟨on_gen2, gen2_r⟩
end Go.Proofs.YtialfoccalobpaaDoor
