/-
  fr: the contracts of Inv and Bytes.
-/
import Derived.Test.YtclfmdaafpachaaDoorFrI
import Derived.Test.YtclfmdaafpachaaDoorFrG
namespace Go.Proofs.YtclfmdaafpachaaDoor
open Go.RowKit
/-- The exponent of the inverse. -/
def Er : Nat := 52435875175126190479447740508185965837690552500527637822603658699938581184511
theorem Er_agg : (.agg #[.int .u64 (IntKind.u64.wrap (wd Mr 0 - 2)), .int .u64 (wd Mr 1), .int .u64 (wd Mr 2), .int .u64 (wd Mr 3)] : Value) = arr4 (Er : Int) := by
  have h0 : IntKind.u64.wrap (wd Mr 0 - 2) = wd (Er : Int) 0 := by decide +kernel
  have h1 : wd Mr 1 = wd (Er : Int) 1 := by decide +kernel
  have h2 : wd Mr 2 = wd (Er : Int) 2 := by decide +kernel
  have h3 : wd Mr 3 = wd (Er : Int) 3 := by decide +kernel
  unfold arr4
  rw [h0, h1, h2, h3]
set_option maxRecDepth 100000 in
set_option maxHeartbeats 2000000 in
theorem fr_inv (x : Int) (w : World) (hG : GMr w) (hS : GSq w) :
    Calls Tryd.prog 110 #[fv x] w fun e w' => e = .returned (fv (x ^ Er)) ∧ Below w.heap.size w w' := by
  have HG := Lib.hid hG
  have HS := Lib.hid hS
  obtain ⟨g0, g1, g2, g3⟩ := hG
  have g9 := World.block_lt_of_cell? w _ g0
  clear hS
  have hc := fr_power x Er
  have HA := Lib.hid Er_agg
  obtain ⟨V, hV⟩ : ∃ V, V = fv (x ^ Er) := ⟨_, rfl⟩
  rw [← hV]
  have HV := Lib.hid hV
  rw [← hV] at hc
  unfold fv at hc
  obtain ⟨X, hX⟩ : ∃ X, X = fe Mr (Wd ^ 4) x := ⟨_, rfl⟩
  rw [← hX] at hc
  have HC := Lib.hid hc
  clear hV hc
  conv => arg 3; unfold fv arr4
  rw [← hX]
  clear hX
  go_enter Tryd.func110, Tryd.ntmps110
  go_wp2_with fail
  rw [HA.out]
  refine (HC.out _ (HG.out.keep (by repeat (first | exact Below.refl _ _ | refine Below.drew ?_ | refine Below.alloc ?_ (by simp; try omega) _))) (HS.out.keep (by repeat (first | exact Below.refl _ _ | refine Below.drew ?_ | refine Below.alloc ?_ (by simp; try omega) _))) (by decide +kernel)).mono ?_
  rintro e w1 ⟨rfl, hB⟩
  obtain ⟨f0, f1, f2, f3, z0, z1, z2, z3, hg⟩ := res4 (t := 28) (c0 := .int .u64 0) (c1 := .int .u64 0) (c2 := .int .u64 0) (c3 := .int .u64 0) ((bump1 w _ _ _).alloc _) hB
  have hW : Below w.heap.size w w1 := Below.trans (by repeat (first | exact Below.refl _ _ | refine Below.drew ?_ | refine Below.alloc ?_ (by simp; try omega) _)) (hB.mono (by simp; try omega))
  have HW := Lib.hid hW
  clear hB hW g0 g1 g2 g3
  rw [HV.out]
  unfold fv arr4
  go_wp2_with fail
  refine bodyPost_ret (v := fv (x ^ Er)) (by simp [fv, arr4, results, Tryd.results110, go_sem, f0, f1, f2, f3]) rfl ⟨by rw [HV.out], ?_⟩
  repeat (first | exact HW.out | refine Below.drew ?_ | refine Below.alloc ?_ (by first | assumption | (simp; done) | (simp; omega)) _ | refine Below.setCell ?_ (by simp; try omega) _)
/-- The last k bytes of a number, the highest first. -/
def lo (n : Int) : Nat → List Int
  | 0 => []
  | k + 1 => (n / 256 ^ k % 256) :: lo n k
theorem lo_len (n : Int) (k : Nat) : (lo n k).length = k := by
  induction k with
  | zero => rfl
  | succ k ih => simp [lo, ih]
theorem lo_oct (n : Int) (k : Nat) : Oct (lo n k) := by
  induction k with
  | zero => intro b hb; simp [lo] at hb
  | succ k ih =>
    intro b hb
    simp only [lo, List.mem_cons] at hb
    rcases hb with rfl | hb
    · omega
    · exact ih b hb
theorem num_cons (b : Int) (l : List Int) : num (b :: l) = b * 256 ^ l.length + num l := by
  have := num_app [b] l
  simpa [num] using this
theorem num_lo (n : Int) (k : Nat) : num (lo n k) = n % 256 ^ k := by
  induction k with
  | zero => simp [lo, num, Int.emod_one]
  | succ k ih =>
    rw [lo, num_cons, ih, lo_len]
    have hp : (0 : Int) < 256 ^ k := Int.pow_pos (by omega)
    rw [Int.pow_succ]
    generalize (256 : Int) ^ k = P at hp
    have e1 := Int.emod_add_mul_ediv n P
    have e2 := Int.emod_add_mul_ediv (n / P) 256
    have h1 := Int.emod_nonneg n (by omega : P ≠ 0)
    have h2 := Int.emod_lt_of_pos n hp
    have h3 : 0 ≤ n / P % 256 ∧ n / P % 256 < 256 := by omega
    have h5 : n / P % 256 * P ≤ 255 * P := Int.mul_le_mul_of_nonneg_right (by omega) (by omega)
    have h6 : 0 ≤ n / P % 256 * P := Int.mul_nonneg (by omega) (by omega)
    have h8 : n / P % 256 * P + n % P = (n / P % 256 * P + n % P) % (P * 256) := (Int.emod_eq_of_lt (by omega) (by omega)).symm
    rw [h8]
    refine emod_of_dvd_sub ⟨-(n / P / 256), ?_⟩
    grind
theorem byte_words (n : Nat) (i : Nat) : wd (n : Int) (i / 8) / 2 ^ (8 * (i % 8)) % 256 = (n : Int) / 256 ^ i % 256 := by
  suffices ∀ j (n : Nat), ∀ r, r < 8 → wd (n : Int) j / 2 ^ (8 * r) % 256 = ((n / 2 ^ (8 * (8 * j + r)) % 256 : Nat) : Int) by
    have h := this (i / 8) n (i % 8) (Nat.mod_lt _ (by omega))
    rw [Nat.div_add_mod, Nat.pow_mul] at h
    rw [h, show (2 : Nat) ^ 8 = 256 from rfl, Int.natCast_emod, Int.natCast_ediv, Int.natCast_pow]
    rfl
  have e : (Wd : Int) = ((2 ^ 64 : Nat) : Int) := by simp [Wd]
  intro j
  induction j with
  | zero =>
    intro n r hr
    simp only [wd, Nat.mul_zero, Nat.zero_add]
    rw [e]
    have h : n % 2 ^ 64 / 2 ^ (8 * r) % 256 = n / 2 ^ (8 * r) % 256 := by
      have e64 : (2 : Nat) ^ 64 = 2 ^ (8 * r) * 2 ^ (64 - 8 * r) := by rw [← Nat.pow_add]; congr 1; omega
      rw [e64, Nat.mod_mul_right_div_self]
      exact Nat.mod_mod_of_dvd _ (Nat.pow_dvd_pow 2 (show 8 ≤ 64 - 8 * r by omega))
    have e2 : ((2 : Int) ^ (8 * r)) = ((2 ^ (8 * r) : Nat) : Int) := (Int.natCast_pow 2 (8 * r)).symm
    rw [e2, show (256 : Int) = ((256 : Nat) : Int) from rfl, ← Int.natCast_emod, ← Int.natCast_ediv, ← Int.natCast_emod, h]
  | succ j ih =>
    intro n r hr
    rw [show wd (n : Int) (j + 1) = wd ((n : Int) / Wd) j from rfl]
    rw [e, ← Int.natCast_ediv, ih (n / 2 ^ 64) r hr, Nat.div_div_eq_div_mul, ← Nat.pow_add]
    congr 4
    omega
end Go.Proofs.YtclfmdaafpachaaDoor
