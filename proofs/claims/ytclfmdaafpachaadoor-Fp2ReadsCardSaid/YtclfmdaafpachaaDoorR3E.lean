/-
  The reference of fr: words of sixteen bits of a number; what Number's rounds do to them.
-/
import Derived.Test.YtclfmdaafpachaaDoorR3D
namespace Go.Proofs.YtclfmdaafpachaaDoor
open Go.RowKit
/-- The first m words of a number. -/
def wl (v : Int) : Nat → List Int
  | 0 => []
  | m + 1 => (v % 65536) :: wl (v / 65536) m
theorem wl_len (v : Int) (m : Nat) : (wl v m).length = m := by
  induction m generalizing v with
  | zero => rfl
  | succ m ih => simp [wl, ih]
theorem wl_w16 (v : Int) (m : Nat) : W16 (wl v m) := by
  induction m generalizing v with
  | zero => intro b hb; simp [wl] at hb
  | succ m ih =>
    intro b hb
    simp only [wl, List.mem_cons] at hb
    rcases hb with rfl | hb
    · omega
    · exact ih _ b hb
theorem va_wl (v : Int) (m : Nat) (h0 : 0 ≤ v) (h : v < 65536 ^ m) : va (wl v m) = v := by
  induction m generalizing v with
  | zero => simp at h; simp [wl, va]; omega
  | succ m ih =>
    rw [Int.pow_succ] at h
    have h1 := ih (v / 65536) (by omega) (by omega)
    simp only [wl, va, h1]
    omega
theorem wl_zero (m : Nat) : wl 0 m = List.replicate m 0 := by
  induction m with
  | zero => rfl
  | succ m ih => simp [wl, ih, List.replicate_succ]
/-- A word more at its place, the words above being nought. -/
theorem wl_set (v x : Int) (m j : Nat) (hj : j < m) (h0 : 0 ≤ v) (x0 : 0 ≤ x) (h : v / 65536 ^ j + x < 65536) : wl (v + 65536 ^ j * x) m = (wl v m).set j (v / 65536 ^ j + x) := by
  induction m generalizing v j with
  | zero => omega
  | succ m ih =>
    cases j with
    | zero =>
      simp only [Int.pow_zero, Int.one_mul, Int.ediv_one] at *
      have e1 : (v + x) / 65536 = v / 65536 := by omega
      have e2 : (v + x) % 65536 = v + x := by omega
      simp [wl, e1, e2]
    | succ j =>
      have e : (65536 : Int) ^ (j + 1) * x = 65536 * (65536 ^ j * x) := by rw [Int.pow_succ]; grind
      have e1 : (v + 65536 * (65536 ^ j * x)) / 65536 = v / 65536 + 65536 ^ j * x := by omega
      have e2 : (v + 65536 * (65536 ^ j * x)) % 65536 = v % 65536 := by omega
      have e3 : v / 65536 ^ (j + 1) = v / 65536 / 65536 ^ j := by rw [Int.pow_succ, Int.mul_comm, edd _ _ _ (by omega)]
      rw [e3] at h ⊢
      rw [e, wl, e1, e2, ih (v / 65536) j (by omega) (by omega) h]
      rfl
end Go.Proofs.YtclfmdaafpachaaDoor
