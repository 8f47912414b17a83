/-
  fp: the contract of Inv.
-/
import Derived.Test.YtclfmdaafpachaaDoorFpI
import Derived.Test.YtclfmdaafpachaaDoorFrJ
namespace Go.Proofs.YtclfmdaafpachaaDoor
open Go.RowKit
/-- The exponent of the inverse. -/
def Ep : Nat := 4002409555221667393417789825735904156556882819939007885332058136124031650490837864442687629129015664037894272559785
theorem Ep_agg : (.agg #[.int .u64 (IntKind.u64.wrap (wd Mp 0 - 2)), .int .u64 (wd Mp 1), .int .u64 (wd Mp 2), .int .u64 (wd Mp 3), .int .u64 (wd Mp 4), .int .u64 (wd Mp 5)] : Value) = arr6 (Ep : Int) := by
  have h0 : IntKind.u64.wrap (wd Mp 0 - 2) = wd (Ep : Int) 0 := by decide +kernel
  have h1 : wd Mp 1 = wd (Ep : Int) 1 := by decide +kernel
  have h2 : wd Mp 2 = wd (Ep : Int) 2 := by decide +kernel
  have h3 : wd Mp 3 = wd (Ep : Int) 3 := by decide +kernel
  have h4 : wd Mp 4 = wd (Ep : Int) 4 := by decide +kernel
  have h5 : wd Mp 5 = wd (Ep : Int) 5 := by decide +kernel
  unfold arr6
  rw [h0, h1, h2, h3, h4, h5]
set_option maxRecDepth 100000 in
set_option maxHeartbeats 2000000 in
theorem fp_inv (x : Int) (w : World) (hG : GMp w) (hS : GSqp w) :
    Calls Tryd.prog 136 #[pv x] w fun e w' => e = .returned (pv (x ^ Ep)) ∧ Below w.heap.size w w' := by
  have HG := Lib.hid hG
  have HS := Lib.hid hS
  obtain ⟨g0, g1, g2, g3, g4, g5⟩ := hG
  have g9 := World.block_lt_of_cell? w _ g0
  clear hS
  have hc := fp_power x Ep
  have HA := Lib.hid Ep_agg
  obtain ⟨V, hV⟩ : ∃ V, V = pv (x ^ Ep) := ⟨_, rfl⟩
  rw [← hV]
  have HV := Lib.hid hV
  rw [← hV] at hc
  unfold pv at hc
  obtain ⟨X, hX⟩ : ∃ X, X = fe Mp (Wd ^ 6) x := ⟨_, rfl⟩
  rw [← hX] at hc
  have HC := Lib.hid hc
  clear hV hc
  conv => arg 3; unfold pv arr6
  rw [← hX]
  clear hX
  go_enter Tryd.func136, Tryd.ntmps136
  go_wp2_with fail
  rw [HA.out]
  refine (HC.out _ (HG.out.keep (by repeat (first | (with_reducible exact Below.refl _ _) | (with_reducible refine Below.drew ?_) | (with_reducible refine Below.alloc ?_ (by simp; try omega) _)))) (HS.out.keep (by repeat (first | (with_reducible exact Below.refl _ _) | (with_reducible refine Below.drew ?_) | (with_reducible refine Below.alloc ?_ (by simp; try omega) _)))) (by decide +kernel)).mono ?_
  rintro e w1 ⟨rfl, hB⟩
  obtain ⟨f0, f1, f2, f3, f4, f5, z0, z1, z2, z3, z4, z5, hg⟩ := res6 (t := 52) (c0 := .int .u64 0) (c1 := .int .u64 0) (c2 := .int .u64 0) (c3 := .int .u64 0) (c4 := .int .u64 0) (c5 := .int .u64 0) ((bump1 w _ _ _).alloc _) hB
  have hW : Below w.heap.size w w1 := Below.trans (by repeat (first | (with_reducible exact Below.refl _ _) | (with_reducible refine Below.drew ?_) | (with_reducible refine Below.alloc ?_ (by simp; try omega) _))) (hB.mono (by simp; try omega))
  have HW := Lib.hid hW
  clear hB hW g0 g1 g2 g3 g4 g5
  rw [HV.out]
  unfold pv arr6
  go_wp2_with fail
  refine bodyPost_ret (v := pv (x ^ Ep)) (by simp [pv, arr6, results, Tryd.results136, go_sem, f0, f1, f2, f3, f4, f5]) rfl ⟨by rw [HV.out], ?_⟩
  repeat (first | (with_reducible exact HW.out) | (with_reducible refine Below.drew ?_) | (with_reducible refine Below.alloc ?_ (by first | assumption | (simp; done) | (simp; omega)) _) | (with_reducible refine Below.setCell ?_ (by simp; try omega) _))
end Go.Proofs.YtclfmdaafpachaaDoor
