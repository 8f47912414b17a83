/-
  fr: the contracts of Sub, Neg, Zero, below.
-/
import Derived.Test.YtclfmdaafpachaaDoorFrC
namespace Go.Proofs.YtclfmdaafpachaaDoor
open Go.RowKit
set_option maxRecDepth 100000 in
set_option maxHeartbeats 2000000 in
theorem fr_sub_ge (x y : Int) (w : World) (hx0 : 0 ≤ x) (hx : x < Mr) (hy0 : 0 ≤ y) (hge : y ≤ x) :
    Calls Tryd.prog 38 #[arr4 x, arr4 y] w fun e w' => e = .returned (arr4 (x - y)) ∧ Below w.heap.size w w' := by
  have hM := Mr_lo
  have HX := Lib.hid (show x < Wd ^ 4 by omega)
  clear hM
  conv => arg 3; unfold arr4
  go_enter Tryd.func38, Tryd.ntmps38
  go_wp2_with fail
  refine (fr_minus_ge x y _ hx0 HX.out hy0 hge).mono ?_
  rintro e w1 ⟨rfl, hB⟩
  obtain ⟨f0, f1, f2, f3, z0, z1, z2, z3, hg⟩ := res4 (t := 28) (c0 := .int .u64 0) (c1 := .int .u64 0) (c2 := .int .u64 0) (c3 := .int .u64 0) (bump2 w _ _ _ _) hB
  have hW : Below w.heap.size w w1 := Below.trans (by repeat (first | exact Below.refl _ _ | refine Below.drew ?_ | refine Below.alloc ?_ (by simp; try omega) _)) (hB.mono (by simp; try omega))
  have HW := Lib.hid hW
  clear hB hW
  unfold arr4
  go_wp2_with fail
  refine bodyPost_ret (v := arr4 (x - y)) (by simp [arr4, results, Tryd.results38, go_sem, f0, f1, f2, f3, hg]) rfl ⟨rfl, ?_⟩
  repeat (first | exact HW.out | refine Below.drew ?_ | refine Below.alloc ?_ (by simp; omega) _ | refine Below.setCell ?_ (by simp; try omega) _)
set_option maxRecDepth 100000 in
set_option maxHeartbeats 2000000 in
theorem fr_sub_lt (x y : Int) (w : World) (hG : GMr w) (hx0 : 0 ≤ x) (hy0 : 0 ≤ y) (hy : y < Mr) (hlt : x < y) :
    Calls Tryd.prog 38 #[arr4 x, arr4 y] w fun e w' => e = .returned (arr4 (x - y + Mr)) ∧ Below w.heap.size w w' := by
  have hM := Mr_lo
  have HX := Lib.hid (show y < Wd ^ 4 by omega)
  obtain ⟨z, hz⟩ : ∃ z, z = x - y + Wd ^ 4 := ⟨_, rfl⟩
  have ez := nu4 z (by omega) (by omega)
  have em := nu4 Mr (by omega) (by omega)
  obtain ⟨s0, k0, C0, E0, p1, p2, p3, p4⟩ := addc_ex _ _ 0 (wd_lo z 0).1 (wd_lo z 0).2 (wd_lo Mr 0).1 (wd_lo Mr 0).2 (by omega) (by omega)
  obtain ⟨s1, k1, C1, E1, q1, q2, q3, q4⟩ := addc_ex _ _ k0 (wd_lo z 1).1 (wd_lo z 1).2 (wd_lo Mr 1).1 (wd_lo Mr 1).2 p3 p4
  obtain ⟨s2, k2, C2, E2, r1, r2, r3, r4⟩ := addc_ex _ _ k1 (wd_lo z 2).1 (wd_lo z 2).2 (wd_lo Mr 2).1 (wd_lo Mr 2).2 q3 q4
  obtain ⟨s3, k3, C3, E3, t1, t2, t3, t4⟩ := addc_ex _ _ k2 (wd_lo z 3).1 (wd_lo z 3).2 (wd_lo Mr 3).1 (wd_lo Mr 3).2 r3 r4
  have hfin : (.agg #[.int .u64 s0, .int .u64 s1, .int .u64 s2, .int .u64 s3] : Value) = arr4 (x - y + Mr) := by
    refine arr4_of s0 s1 s2 s3 (x - y + Mr) ⟨p1, p2⟩ ⟨q1, q2⟩ ⟨r1, r2⟩ ⟨t1, t2⟩ ?_
    have e := add4 _ _ _ _ _ _ _ _ _ _ _ _ _ _ _ _ _ _ E0.out E1.out E2.out E3.out
    rw [← ez, ← em, Int.add_zero] at e
    have hk : k3 = 1 := by
      rcases (by omega : k3 = 0 ∨ k3 = 1) with h | h
      · subst h
        unfold Wd Mr at *
        omega
      · exact h
    subst hk
    omega
  have FIN := Lib.hid hfin
  have HZ := Lib.hid hz
  clear hz hfin E0 E1 E2 E3 ez em p1 p2 p3 p4 q1 q2 q3 q4 r1 r2 r3 r4 t1 t2 t3 t4 hM hy
  have HG := Lib.hid hG
  clear hG
  conv => arg 3; unfold arr4
  go_enter Tryd.func38, Tryd.ntmps38
  go_wp2_with fail
  refine (fr_minus_lt x y _ hx0 hy0 HX.out hlt).mono ?_
  rintro e w1 ⟨rfl, hB⟩
  rw [← HZ.out]
  obtain ⟨f0, f1, f2, f3, z0, z1, z2, z3, hg⟩ := res4 (t := 28) (c0 := .int .u64 0) (c1 := .int .u64 0) (c2 := .int .u64 0) (c3 := .int .u64 0) (bump2 w _ _ _ _) hB
  have hW : Below w.heap.size w w1 := Below.trans (by repeat (first | exact Below.refl _ _ | refine Below.drew ?_ | refine Below.alloc ?_ (by simp; try omega) _)) (hB.mono (by simp; try omega))
  obtain ⟨g0, g1, g2, g3⟩ := HG.out.keep hW
  have g9 := World.block_lt_of_cell? w1 _ g0
  have HW := Lib.hid hW
  clear hB hW hlt
  have c0 := C0.out
  have c1 := C1.out
  have c2 := C2.out
  have c3 := C3.out
  clear C0 C1 C2 C3
  unfold arr4
  go_wp2_with fail
  refine wp_loop_rounds 5 ?_
  iterate 4
    rw [rounds_succ]
    go_wp2_with fail
    go_region
    go_wp2_with fail
  rw [rounds_succ]
  go_wp2_with fail
  clear c0 c1 c2 c3
  refine bodyPost_ret (v := .agg #[.int .u64 s0, .int .u64 s1, .int .u64 s2, .int .u64 s3]) (by simp [results, Tryd.results38, go_sem, f0, f1, f2, f3, hg]) rfl ⟨by rw [FIN.out], ?_⟩
  repeat (first | exact HW.out | refine Below.drew ?_ | refine Below.alloc ?_ (by simp; omega) _ | refine Below.setCell ?_ (by simp; try omega) _)
theorem fr_sub0 (x y : Int) (w : World) (hG : GMr w) (hx0 : 0 ≤ x) (hx : x < Mr) (hy0 : 0 ≤ y) (hy : y < Mr) :
    Calls Tryd.prog 38 #[arr4 x, arr4 y] w fun e w' => e = .returned (arr4 ((x - y) % Mr)) ∧ Below w.heap.size w w' := by
  rcases Int.lt_or_le x y with h | h
  · rw [show (x - y) % Mr = x - y + Mr by rw [← Int.add_emod_right]; exact Int.emod_eq_of_lt (by omega) (by omega)]
    exact fr_sub_lt x y w hG hx0 hy0 hy h
  · rw [Int.emod_eq_of_lt (by omega : 0 ≤ x - y) (by omega)]
    exact fr_sub_ge x y w hx0 hx hy0 h
end Go.Proofs.YtclfmdaafpachaaDoor
