/-
  The reference's powers, roots and signs; FpRoots: the walk.
-/
import Derived.Test.YtnebmgiajfbnaaaDoorR3Z
namespace Go.Proofs.YtnebmgiajfbnaaaDoor
set_option linter.unusedSimpArgs false
set_option linter.unusedVariables false
open Go.RowKit
theorem reads_cells {w : World} {B n : Nat} {A : Option Addr} {q : IntKind} {l : List Int} (h : Reads w B A n (l.map (Value.int q))) (h0 : 0 < n) :
    ∃ b o, A = some ⟨b, o, none⟩ ∧ b < B ∧ ∀ k, k < n → w.cell? ⟨b, o + k, none⟩ = some (.int q (gt l k)) := by
  obtain ⟨b, o, e, hb, -⟩ := reads_cell h h0
  refine ⟨b, o, e, hb, fun k hk => ?_⟩
  obtain ⟨b2, o2, e2, -, hc⟩ := reads_cell h hk
  rw [e] at e2
  simp only [Option.some.injEq, Addr.mk.injEq] at e2
  obtain ⟨rfl, rfl, -⟩ := e2
  exact hc
/-! ### Half -/
theorem half_digit (l : List Int) (h : W16 l) (k : Nat) : gt l k / 2 + gt l (k + 1) % 2 * 32768 = va l / 2 / 65536 ^ k % 65536 := by
  have h1 := va_word l h k
  have h2 := va_word l h (k + 1)
  rw [div_next] at h2
  have e : va l / 2 / 65536 ^ k = va l / 65536 ^ k / 2 := by
    rw [← edd _ _ _ (by omega), ← edd _ _ _ (Int.le_of_lt (bp k)), Int.mul_comm]
  rw [e]
  generalize va l / 65536 ^ k = W at *
  omega
theorem half_last (l : List Int) (h : W16 l) (k : Nat) (hk : l.length ≤ k + 1) : gt l k / 2 = va l / 2 / 65536 ^ k % 65536 := by
  have e := half_digit l h k
  rw [gt_none l (k + 1) hk] at e
  omega
theorem shr_1 (a : Int) (h0 : 0 ≤ a) : a.fdiv (2 ^ (min (1 : Int).toNat IntKind.u32.bits)) = a / 2 := by
  have e : (2 : Int) ^ (min (1 : Int).toNat IntKind.u32.bits) = 2 := by decide
  rw [e, Int.fdiv_eq_ediv_of_nonneg _ (by omega)]
theorem shl_15 (a : Int) (h0 : 0 ≤ a) (h : a ≤ 1) : IntKind.u32.wrap (a * 2 ^ (min (15 : Int).toNat IntKind.u32.bits)) = a * 32768 := by
  have e : (2 : Int) ^ (min (15 : Int).toNat IntKind.u32.bits) = 32768 := by decide
  rw [e, w32 _ (by omega) (by omega)]
theorem or_15 (a b : Int) (h0 : 0 ≤ a) (h : a < 32768) (b0 : 0 ≤ b) (b1 : b ≤ 1) : IntKind.u32.wrap (((a % 2 ^ IntKind.u32.bits).toNat ||| ((b * 32768) % 2 ^ IntKind.u32.bits).toNat : Nat) : Int) = a + b * 32768 :=
  or_low a b 15 h0 (by simpa using h) b0 (by simp; omega) (by omega) (by simp; omega)
theorem half_three (k n : Nat) : (k < n ∧ k + 1 < n) ∨ (k < n ∧ ¬ k + 1 < n) ∨ ¬ k < n := by omega
/-! ### Power -/
theorem pow_zero' (a p : Int) (l : List Int) (h : W16 l) (n : Nat) (hn : l.length = n) : a ^ (va l / 2 ^ (16 * n)).toNat % p = 1 % p := by
  have h1 := va_lt l h
  rw [hn, show (65536 : Int) = 2 ^ 16 from rfl, ← Int.pow_mul] at h1
  rw [Int.ediv_eq_zero_of_lt h1.1 h1.2]
  simp
theorem pow_even (a p E : Int) (r : Nat) (hr : 0 < r) (h0 : 0 ≤ E) (hb : E / 2 ^ (r - 1) % 2 = 0) : a ^ (E / 2 ^ r).toNat % p * (a ^ (E / 2 ^ r).toNat % p) % p = a ^ (E / 2 ^ (r - 1)).toNat % p := by
  obtain ⟨i, rfl⟩ : ∃ i, r = i + 1 := ⟨r - 1, by omega⟩
  have e : E / 2 ^ (i + 1) = E / 2 ^ i / 2 := by rw [Int.pow_succ, edd _ _ _ (Int.le_of_lt (Int.pow_pos (by omega)))]
  rw [e]
  simp only [Nat.add_sub_cancel] at *
  have hq : 0 ≤ E / 2 ^ i := Int.ediv_nonneg h0 (Int.le_of_lt (Int.pow_pos (by omega)))
  generalize E / 2 ^ i = Q at *
  rw [← Int.mul_emod, ← Int.pow_add]
  congr 2
  omega
theorem pow_odd (a p E : Int) (r : Nat) (hr : 0 < r) (h0 : 0 ≤ E) (hb : E / 2 ^ (r - 1) % 2 = 1) : a ^ (E / 2 ^ r).toNat % p * (a ^ (E / 2 ^ r).toNat % p) % p * a % p = a ^ (E / 2 ^ (r - 1)).toNat % p := by
  obtain ⟨i, rfl⟩ : ∃ i, r = i + 1 := ⟨r - 1, by omega⟩
  have e : E / 2 ^ (i + 1) = E / 2 ^ i / 2 := by rw [Int.pow_succ, edd _ _ _ (Int.le_of_lt (Int.pow_pos (by omega)))]
  rw [e]
  simp only [Nat.add_sub_cancel] at *
  have hq : 0 ≤ E / 2 ^ i := Int.ediv_nonneg h0 (Int.le_of_lt (Int.pow_pos (by omega)))
  generalize E / 2 ^ i = Q at *
  rw [← Int.mul_emod, ← Int.pow_add, Int.mul_emod (_ % p) a p, Int.emod_emod_of_dvd _ (Int.dvd_refl p), ← Int.mul_emod, ← Int.pow_succ]
  congr 2
  omega
theorem pow_three (r : Nat) (q : Int) : (0 < r ∧ q % 2 = 1) ∨ (0 < r ∧ q % 2 = 0) ∨ r = 0 := by omega
theorem one_num {w : World} {g : Nat} (hB : Blk w g 64 #[.int .u32 1]) : NumAt w (some ⟨g, 0, none⟩) 1 1 :=
  (show WB #[.int .u32 1] 1 1 1 from ⟨rfl, by omega, by omega, rfl⟩).num hB ⟨by omega, by simp⟩ (by omega)
section
variable {P : Program} {fn : Func} {E : Ending → World → Prop} {n : Nat} {sl : List (Nat × Value)} {w : World}
theorem ret_tmp_tmp {s s' : Nat} {u u' : Value} (hres : fn.results = #[.tmp s, .tmp s']) (hl : inFr n sl = true) (hs : look sl s = u) (hs' : look sl s' = u') (hE : E (.returned (.tuple #[u, u'])) w) : bodyPost P fn E .ret (fr n sl) w := by
  refine bodyPost_ret (v := .tuple #[u, u']) ?_ (fr_defers n sl) hE
  simp [results, hres, fr_at n sl hl, hs, hs']
end
section
variable {P : Program} {S : World → Prop}
theorem gives_eqbb {l : List (Nat × Value)} {dst : Option Tmp} {t ct ty : TypeId} {x y : Operand} {pos : String} {after : Array Edge} {gd : Option (Nat × Bool)} (a b : Bool) (hx : rho l x = .bool a) (hy : rho l y = .bool b)
    (ht : P.underlying t = some .bool) (h : a = b) : Gives P S (.bool true) (execOp (rho l) ⟨dst, .binOp .eql t x y ct, ty, pos, after, gd⟩) := gives_value _ fun w => by
  subst h
  have h' : (Op.equal t (.bool a) (.bool a)).run P w = .ok true w := by
    unfold Op.equal
    rw [show Op.maxDepth = 9999 + 1 from rfl, run_equalIn_bool w 9999 t a a ht]
    simp
  simp [execOp, hx, hy, eqGuard, binOp, h']
theorem gives_nebb {l : List (Nat × Value)} {dst : Option Tmp} {t ct ty : TypeId} {x y : Operand} {pos : String} {after : Array Edge} {gd : Option (Nat × Bool)} (a : Bool) (hx : rho l x = .bool a) (hy : rho l y = .bool a)
    (ht : P.underlying t = some .bool) : Gives P S (.bool false) (execOp (rho l) ⟨dst, .binOp .neq t x y ct, ty, pos, after, gd⟩) := gives_value _ fun w => by
  have h' : (Op.equal t (.bool a) (.bool a)).run P w = .ok true w := by
    unfold Op.equal
    rw [show Op.maxDepth = 9999 + 1 from rfl, run_equalIn_bool w 9999 t a a ht]
    simp
  simp [execOp, hx, hy, eqGuard, binOp, h']
end
theorem n_less' (w : World) (A0 : Option Addr) (n0 c0 : Nat) (a : Int) (A1 : Option Addr) (n1 c1 : Nat) (b : Int) (ha : NumAt w A0 n0 a) (hb : NumAt w A1 n1 b) : Rets 81 #[.slice A0 n0 c0, .slice A1 n1 c1] w (.bool (decide (a < b))) := by
  have s0 := ha.sz
  have s1 := hb.sz
  have e := r3_less w A0 n0 c0 _ A1 n1 c1 _ ha.rd hb.rd (wl_w16 _ _) (wl_w16 _ _) (by omega) (by omega)
  rw [ha.va, hb.va] at e
  exact e
/-! ### Roots as numbers -/
theorem Qp_half : ((Mp + 1) / 2 / 2).toNat = Qp := by unfold Mp Qp; decide +kernel
theorem rt_n (X : Int) : (Fp.n X).rt = Fp.n ((X % Mp) ^ Qp % Mp) := by
  unfold Fp.rt
  rw [Fp.n_mod, Fp.n_pow, Fp.n_mod]
theorem rt_val (X : Int) : ((Fp.n X).rt.val : Int) = (X % Mp) ^ Qp % Mp := by
  rw [rt_n, Fp.n_val]
  exact Int.emod_emod_of_dvd _ (Int.dvd_refl _)
theorem rt_sq (X : Int) : (X % Mp) ^ Qp % Mp * ((X % Mp) ^ Qp % Mp) % Mp = X % Mp ↔ (Fp.n X).rt * (Fp.n X).rt = Fp.n X := by
  rw [rt_n, ← Fp.n_mul, Fp.n_inj]
theorem up_iff (X : Int) : Up ≤ ((Fp.n X).val : Int) ↔ Mp < X % Mp + X % Mp := by
  rw [Fp.n_val]
  generalize X % Mp = a
  unfold Up Mp
  omega
theorem odd_iff (X : Int) : (Fp.n X).val % 2 = 1 ↔ X % Mp % 65536 % 2 = 1 := by
  have h := Fp.n_val X
  omega
attribute [local irreducible] wpL wpF fr Code.wp bodyPost
theorem half_rng {a : Int} {n : Nat} (h0 : 0 ≤ a) (h : a < 65536 ^ n) : 0 ≤ a / 2 ∧ a / 2 < 65536 ^ n := by omega
theorem mp1_rng : 0 ≤ Mp + 1 ∧ Mp + 1 < 65536 ^ 25 := by unfold Mp; decide
theorem v_zero_z' (w : World) (hG : Glo w) : Rets 17 #[.agg (pc 0)] w (.bool true) := by
  have h := v_zero 0 w hG
  rwa [decide_eq_true rfl] at h
theorem word0 {cs : Array Value} {cap : Nat} {a : Int} (h : WB cs cap 24 a) : cs[0 + 0]? = some (Value.int .u32 (a % 65536)) := by
  rw [h.two.at_ 0 (by omega), gt_wl a 24 0 (by omega)]
  simp
end Go.Proofs.YtnebmgiajfbnaaaDoor
