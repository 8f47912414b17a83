/-
  fr: the contracts of Add, Sub, Neg, Zero, below.
-/
import Derived.Test.YtclfmdaafpachaaDoorFrB
namespace Go.Proofs.YtclfmdaafpachaaDoor
open Go.RowKit
theorem GMr.keep {w w' : World} (h : GMr w) (hb : Below w.heap.size w w') : GMr w' := by
  have hl := World.block_lt_of_cell? w _ h.c0
  exact ⟨(hb.cell (p := ⟨_, _, none⟩) hl).trans h.c0, (hb.cell (p := ⟨_, 1, none⟩) hl).trans h.c1, (hb.cell (p := ⟨_, 2, none⟩) hl).trans h.c2, (hb.cell (p := ⟨_, 3, none⟩) hl).trans h.c3⟩
theorem add4 (W x0 x1 x2 x3 y0 y1 y2 y3 s0 s1 s2 s3 k0 k1 k2 k3 c : Int) (e0 : s0 + W * k0 = x0 + y0 + c) (e1 : s1 + W * k1 = x1 + y1 + k0) (e2 : s2 + W * k2 = x2 + y2 + k1) (e3 : s3 + W * k3 = x3 + y3 + k2) :
    s0 + W * (s1 + W * (s2 + W * s3)) + W ^ 4 * k3 = x0 + W * (x1 + W * (x2 + W * x3)) + (y0 + W * (y1 + W * (y2 + W * y3))) + c := by grind
theorem bump1 (w : World) (o : Obj) (t : TypeId) (cs : Array Value) : Blk ((w.alloc o).alloc (.cells cs t)) (w.heap.size + 1) t cs := by
  have h := Blk.new (w.alloc o) t cs
  rwa [World.size_alloc] at h
theorem bump2 (w : World) (o o2 : Obj) (t : TypeId) (cs : Array Value) : Blk (((w.alloc o).alloc o2).alloc (.cells cs t)) (w.heap.size + 1 + 1) t cs := by
  have h := Blk.new ((w.alloc o).alloc o2) t cs
  rwa [World.size_alloc, World.size_alloc] at h
theorem bump3 (w : World) (o o2 o3 : Obj) (t : TypeId) (cs : Array Value) : Blk ((((w.alloc o).alloc o2).alloc o3).alloc (.cells cs t)) (w.heap.size + 1 + 1 + 1) t cs := by
  have h := Blk.new (((w.alloc o).alloc o2).alloc o3) t cs
  rwa [World.size_alloc, World.size_alloc, World.size_alloc] at h
/-- Four cells of the call's own behind a call. -/
theorem res4 {W w1 : World} {g : Nat} {t : TypeId} {c0 c1 c2 c3 : Value} (h : Blk W g t #[c0, c1, c2, c3]) (hB : Below W.heap.size W w1) :
    w1.cell? ⟨g, 0, none⟩ = some c0 ∧ w1.cell? ⟨g, 1, none⟩ = some c1 ∧ w1.cell? ⟨g, 2, none⟩ = some c2 ∧ w1.cell? ⟨g, 3, none⟩ = some c3 ∧
    w1.frozen? ⟨g, 0, none⟩ = false ∧ w1.frozen? ⟨g, 1, none⟩ = false ∧ w1.frozen? ⟨g, 2, none⟩ = false ∧ w1.frozen? ⟨g, 3, none⟩ = false ∧ g < w1.heap.size := by
  have h1 := h.keep hB
  exact ⟨h1.at_ rfl, h1.at_ rfl, h1.at_ rfl, h1.at_ rfl, h1.frozen 0, h1.frozen 1, h1.frozen 2, h1.frozen 3, h1.lt⟩
theorem Mr_lo : 0 < Mr ∧ 2 * Mr < Wd ^ 4 := by simp [Mr, Wd]
set_option maxRecDepth 100000 in
set_option maxHeartbeats 2000000 in
theorem fr_add0 (x y : Int) (w : World) (hG : GMr w) (hx0 : 0 ≤ x) (hx : x < Mr) (hy0 : 0 ≤ y) (hy : y < Mr) :
    Calls Tryd.prog 36 #[arr4 x, arr4 y] w fun e w' => e = .returned (arr4 ((x + y) % Mr)) ∧ Below w.heap.size w w' := by
  have hM := Mr_lo
  have ex := nu4 x hx0 (by omega)
  have ey := nu4 y hy0 (by omega)
  obtain ⟨s0, k0, C0, E0, p1, p2, p3, p4⟩ := addc_ex _ _ 0 (wd_lo x 0).1 (wd_lo x 0).2 (wd_lo y 0).1 (wd_lo y 0).2 (by omega) (by omega)
  obtain ⟨s1, k1, C1, E1, q1, q2, q3, q4⟩ := addc_ex _ _ k0 (wd_lo x 1).1 (wd_lo x 1).2 (wd_lo y 1).1 (wd_lo y 1).2 p3 p4
  obtain ⟨s2, k2, C2, E2, r1, r2, r3, r4⟩ := addc_ex _ _ k1 (wd_lo x 2).1 (wd_lo x 2).2 (wd_lo y 2).1 (wd_lo y 2).2 q3 q4
  obtain ⟨s3, k3, C3, E3, t1, t2, t3, t4⟩ := addc_ex _ _ k2 (wd_lo x 3).1 (wd_lo x 3).2 (wd_lo y 3).1 (wd_lo y 3).2 r3 r4
  have hfin : (.agg #[.int .u64 s0, .int .u64 s1, .int .u64 s2, .int .u64 s3] : Value) = arr4 (x + y) := by
    refine arr4_of s0 s1 s2 s3 (x + y) ⟨p1, p2⟩ ⟨q1, q2⟩ ⟨r1, r2⟩ ⟨t1, t2⟩ ?_
    have e := add4 _ _ _ _ _ _ _ _ _ _ _ _ _ _ _ _ _ _ E0.out E1.out E2.out E3.out
    rw [← ex, ← ey, Int.add_zero] at e
    have hk : k3 = 0 := by
      rcases (by omega : k3 = 0 ∨ k3 = 1) with h | h
      · exact h
      · subst h
        unfold Wd at *
        omega
    subst hk
    omega
  have FIN := Lib.hid hfin
  have HX := Lib.hid (show 0 ≤ x + y ∧ x + y < 2 * Mr by omega)
  clear hfin E0 E1 E2 E3 ex ey p1 p2 p3 p4 q1 q2 q3 q4 r1 r2 r3 r4 t1 t2 t3 t4 hx0 hx hy0 hy hM
  have c0 := C0.out
  have c1 := C1.out
  have c2 := C2.out
  have c3 := C3.out
  have HG := Lib.hid hG
  clear C0 C1 C2 C3 hG
  conv => arg 3; unfold arr4
  go_enter Tryd.func36, Tryd.ntmps36
  go_wp2_with fail
  refine wp_loop_rounds 5 ?_
  iterate 4
    rw [rounds_succ]
    go_wp2_with fail
    go_region
    go_wp2_with fail
  rw [rounds_succ]
  go_wp2_with fail
  clear c0 c1 c2 c3
  rw [FIN.out]
  refine (fr_reduced (x + y) _ (HG.out.keep (by repeat (first | exact Below.refl _ _ | refine Below.drew ?_ | refine Below.alloc ?_ (by simp; try omega) _))) HX.out.1 HX.out.2).mono ?_
  rintro e w1 ⟨rfl, hB⟩
  obtain ⟨f0, f1, f2, f3, z0, z1, z2, z3, hg⟩ := res4 (t := 28) (c0 := .int .u64 0) (c1 := .int .u64 0) (c2 := .int .u64 0) (c3 := .int .u64 0) ((bump2 w _ _ _ _).alloc _).drew.drew.drew.drew hB
  have hW : Below w.heap.size w w1 := Below.trans (by repeat (first | exact Below.refl _ _ | refine Below.drew ?_ | refine Below.alloc ?_ (by simp; try omega) _)) (hB.mono (by simp; try omega))
  have HW := Lib.hid hW
  clear hB hW FIN
  unfold arr4
  go_wp2_with fail
  refine bodyPost_ret (v := arr4 ((x + y) % Mr)) (by simp [arr4, results, Tryd.results36, go_sem, f0, f1, f2, f3]) rfl ⟨rfl, ?_⟩
  repeat (first | exact HW.out | refine Below.drew ?_ | refine Below.alloc ?_ (by simp; omega) _ | refine Below.setCell ?_ (by simp; try omega) _)
end Go.Proofs.YtclfmdaafpachaaDoor
