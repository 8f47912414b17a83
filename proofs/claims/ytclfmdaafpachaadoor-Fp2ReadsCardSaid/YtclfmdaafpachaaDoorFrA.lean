/-
  fr: the contracts of mulAdd, minus, reduced, below.
-/
import Derived.Test.YtclfmdaafpachaaDoorWord
namespace Go.Proofs.YtclfmdaafpachaaDoor
open Go.RowKit
set_option maxRecDepth 100000 in
set_option maxHeartbeats 1000000 in
theorem fr_mulAdd (x y a b : Int) (w : World) (hx0 : 0 ≤ x) (hx : x < Wd) (hy0 : 0 ≤ y) (hy : y < Wd) (ha0 : 0 ≤ a) (ha : a < Wd) (hb0 : 0 ≤ b) (hb : b < Wd) :
    Calls Tryd.prog 121 #[.int .u64 x, .int .u64 y, .int .u64 a, .int .u64 b] w fun e w' => e = .returned (.tuple #[.int .u64 (hiW (x * y + a + b)), .int .u64 (loW (x * y + a + b))]) ∧ w = w' := by
  obtain ⟨h1, l1, C1, E1, p1, p2, p3, p4⟩ := mul64_ex x y hx0 hx hy0 hy
  obtain ⟨l2, k2, C2, E2, q1, q2, q3, q4⟩ := addc_ex l1 a 0 p3 p4 ha0 ha (by omega) (by omega)
  obtain ⟨l3, k3, C3, E3, r1, r2, r3, r4⟩ := addc_ex l2 b 0 q1 q2 hb0 hb (by omega) (by omega)
  have hf1 : h1 + k2 + k3 = hiW (x * y + a + b) ∧ l3 = loW (x * y + a + b) := by
    have e1 := E1.out
    have e2 := E2.out
    have e3 := E3.out
    have : x * y + a + b = l3 + Wd * (h1 + k2 + k3) := by grind
    rw [this]
    unfold hiW loW
    rw [Int.add_mul_ediv_left _ _ (by simp [Wd]), Int.ediv_eq_zero_of_lt r1 r2, Int.add_mul_emod_self_left, Int.emod_eq_of_lt r1 r2]
    omega
  have hf2 := hi2 x y a b hx0 hx hy0 hy ha0 ha hb0 hb
  have F1 := Lib.hid hf1
  have F2 := Lib.hid hf2
  clear hf1 hf2
  go_enter Tryd.func121, Tryd.ntmps121
  go_wp2_with fail
  refine (C1.out _).mono ?_
  rintro e w' ⟨rfl, rfl⟩
  go_wp2_with (first | rw [C2.out] | rw [C3.out])
  go_ret2
  refine ⟨?_, rfl⟩
  rw [wrapU, wrapU, loW_add, F1.out.1, loW_of F2.out.1 F2.out.2, F1.out.2]
  rfl
end Go.Proofs.YtclfmdaafpachaaDoor
