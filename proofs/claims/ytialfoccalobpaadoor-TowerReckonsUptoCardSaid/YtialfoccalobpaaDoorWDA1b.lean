/-
  FpS, FpBased, FpR, FpQ, in one text.
-/
import Derived.Test.YtialfoccalobpaaDoorWDA1
import Derived.Test.YtialfoccalobpaaDoorWDA0
/-! ## FpS -/
namespace Go.Proofs.YtialfoccalobpaaDoor
open Go.RowKit
end Go.Proofs.YtialfoccalobpaaDoor

/-! ## FpBased -/
namespace Go.Proofs.YtialfoccalobpaaDoor
open Go.RowKit
theorem pv_zero : arr6 0 = pv 0 := by unfold pv; rw [pe_zero]
end Go.Proofs.YtialfoccalobpaaDoor

/-! ## FpR -/
namespace Go.Proofs.YtialfoccalobpaaDoor
open Go.RowKit
theorem num_six (bs : List Int) (h : bs.length = 48) : num ((bs.drop 40).take 8) + Wd * (num ((bs.drop 32).take 8) + Wd * (num ((bs.drop 24).take 8) + Wd * (num ((bs.drop 16).take 8) + Wd * (num ((bs.drop 8).take 8) + Wd * num ((bs.drop 0).take 8))))) = num bs := by
  have hw : (256 : Int) ^ 8 = Wd := by simp [Wd]
  have p : ∀ k, bs.drop k = (bs.drop k).take 8 ++ bs.drop (k + 8) := fun k => by rw [← List.drop_drop, List.take_append_drop]
  have f5 : num (bs.drop 40) = num ((bs.drop 40).take 8) := congrArg num (List.take_of_length_le (by simp; omega)).symm
  have f4 : num (bs.drop 32) = num ((bs.drop 32).take 8) * Wd + num (bs.drop 40) := by
    have := congrArg num (p 32)
    rw [num_app] at this
    rw [this, show (bs.drop (32 + 8)).length = 8 by simp; omega, hw]
  have f3 : num (bs.drop 24) = num ((bs.drop 24).take 8) * Wd ^ 2 + num (bs.drop 32) := by
    have := congrArg num (p 24)
    rw [num_app] at this
    rw [this, show (bs.drop (24 + 8)).length = 8 * 2 by simp; omega, Int.pow_mul, hw]
  have f2 : num (bs.drop 16) = num ((bs.drop 16).take 8) * Wd ^ 3 + num (bs.drop 24) := by
    have := congrArg num (p 16)
    rw [num_app] at this
    rw [this, show (bs.drop (16 + 8)).length = 8 * 3 by simp; omega, Int.pow_mul, hw]
  have f1 : num (bs.drop 8) = num ((bs.drop 8).take 8) * Wd ^ 4 + num (bs.drop 16) := by
    have := congrArg num (p 8)
    rw [num_app] at this
    rw [this, show (bs.drop (8 + 8)).length = 8 * 4 by simp; omega, Int.pow_mul, hw]
  have f0 : num (bs.drop 0) = num ((bs.drop 0).take 8) * Wd ^ 5 + num (bs.drop 8) := by
    have := congrArg num (p 0)
    rw [num_app] at this
    rw [this, show (bs.drop (0 + 8)).length = 8 * 5 by simp; omega, Int.pow_mul, hw]
  rw [show num bs = num (bs.drop 0) from rfl, f0, f1, f2, f3, f4, f5]
  grind
set_option maxRecDepth 100000 in
set_option maxHeartbeats 4000000 in
theorem fp_read_ok (w : World) (hG : GMp w) (hS : GSqp w) (A : Option Addr) (c : Nat) (bs : List Int) (hr : Reads w w.heap.size A 48 (bs.map (Value.int .u8))) (ho : Oct bs) (hc : 48 ≤ c) (hlt : num bs < Mp) :
    Calls Tryd.prog 71 #[.slice A 48 c] w fun e w' => e = .returned (.tuple #[pv (num bs), .int .i64 0]) ∧ Below w.heap.size w w' := by
  have hl : bs.length = 48 := by simpa using hr.1
  obtain ⟨b, o, rfl, hb, -⟩ := hr.2 (by omega)
  have HG := Lib.hid hG
  have HS := Lib.hid hS
  have h4 := num_six bs hl
  have hpart : ∀ k, k + 8 ≤ 48 → Reads w w.heap.size (some ⟨b, o + k, none⟩) 8 (((bs.drop k).take 8).map (Value.int .u8)) := fun k hk => by
    have := reads_part hr k 8 hk (by omega)
    rwa [← List.map_drop, ← List.map_take] at this
  have hnum : ∀ k, k + 8 ≤ 48 → ∀ W c', Below w.heap.size w W → Calls Tryd.prog 113 #[.slice (some ⟨b, o + k, none⟩) 8 c'] W fun e w' => e = .returned (.int .u64 (num ((bs.drop k).take 8))) ∧ W = w' := fun k hk W c' hW =>
    fp_number W _ _ 8 c' _ ((hpart k hk).below hW) ((ho.drop k).take 8) (Nat.le_refl _)
  have hrange : ∀ k, k + 8 ≤ 48 → 0 ≤ num ((bs.drop k).take 8) ∧ num ((bs.drop k).take 8) < Wd := fun k hk => by
    have := num_lt _ ((ho.drop k).take 8)
    rw [show ((bs.drop k).take 8).length = 8 by simp; omega] at this
    unfold Wd
    omega
  have hn0 := num_lt bs ho
  obtain ⟨a0, ha0⟩ : ∃ a, a = num ((bs.drop 40).take 8) := ⟨_, rfl⟩
  obtain ⟨a1, ha1⟩ : ∃ a, a = num ((bs.drop 32).take 8) := ⟨_, rfl⟩
  obtain ⟨a2, ha2⟩ : ∃ a, a = num ((bs.drop 24).take 8) := ⟨_, rfl⟩
  obtain ⟨a3, ha3⟩ : ∃ a, a = num ((bs.drop 16).take 8) := ⟨_, rfl⟩
  obtain ⟨a4, ha4⟩ : ∃ a, a = num ((bs.drop 8).take 8) := ⟨_, rfl⟩
  obtain ⟨a5, ha5⟩ : ∃ a, a = num ((bs.drop 0).take 8) := ⟨_, rfl⟩
  have n0 := hnum 40 (by omega)
  have n1 := hnum 32 (by omega)
  have n2 := hnum 24 (by omega)
  have n3 := hnum 16 (by omega)
  have n4 := hnum 8 (by omega)
  have n5 := hnum 0 (by omega)
  have r0 := hrange 40 (by omega)
  have r1 := hrange 32 (by omega)
  have r2 := hrange 24 (by omega)
  have r3 := hrange 16 (by omega)
  have r4 := hrange 8 (by omega)
  have r5 := hrange 0 (by omega)
  rw [← ha0] at n0 r0
  rw [← ha1] at n1 r1
  rw [← ha2] at n2 r2
  rw [← ha3] at n3 r3
  rw [← ha4] at n4 r4
  rw [← ha5] at n5 r5
  rw [← ha0, ← ha1, ← ha2, ← ha3, ← ha4, ← ha5] at h4
  obtain ⟨x, hx⟩ : ∃ x, x = num bs := ⟨_, rfl⟩
  rw [← hx] at h4 hlt hn0 ⊢
  have hagg := arr6_of a0 a1 a2 a3 a4 a5 x r0 r1 r2 r3 r4 r5 h4
  have hM := Mp_lo
  have N0 := Lib.hid n0
  have N1 := Lib.hid n1
  have N2 := Lib.hid n2
  have N3 := Lib.hid n3
  have N4 := Lib.hid n4
  rw [Nat.add_zero] at n5
  have N5 := Lib.hid n5
  have AG := Lib.hid hagg
  have XL := Lib.hid (show 0 ≤ x ∧ x < Mp ∧ Mp < Wd ^ 6 by omega)
  clear hnum hpart hrange n0 n1 n2 n3 n4 n5 r0 r1 r2 r3 r4 r5 ha0 ha1 ha2 ha3 ha4 ha5 h4 hx hagg hM hlt hn0 hl hG hS hr ho
  have i1 : (48 : Int) ≤ c := by omega
  go_enter Tryd.func71, Tryd.ntmps71
  go_wp2_with fail
  refine wp_loop_rounds 7 ?_
  rw [rounds_succ]
  go_wp2_with fail
  refine (N0.out _ _ (by repeat (first | (with_reducible exact Below.refl _ _) | (with_reducible refine Below.drew ?_) | (with_reducible refine Below.alloc ?_ (by simp; try omega) _)))).mono ?_
  rintro e w' ⟨rfl, rfl⟩
  go_wp2_with fail
  rw [rounds_succ]
  go_wp2_with fail
  refine (N1.out _ _ (by repeat (first | (with_reducible exact Below.refl _ _) | (with_reducible refine Below.drew ?_) | (with_reducible refine Below.alloc ?_ (by simp; try omega) _)))).mono ?_
  rintro e w' ⟨rfl, rfl⟩
  go_wp2_with fail
  rw [rounds_succ]
  go_wp2_with fail
  refine (N2.out _ _ (by repeat (first | (with_reducible exact Below.refl _ _) | (with_reducible refine Below.drew ?_) | (with_reducible refine Below.alloc ?_ (by simp; try omega) _)))).mono ?_
  rintro e w' ⟨rfl, rfl⟩
  go_wp2_with fail
  rw [rounds_succ]
  go_wp2_with fail
  refine (N3.out _ _ (by repeat (first | (with_reducible exact Below.refl _ _) | (with_reducible refine Below.drew ?_) | (with_reducible refine Below.alloc ?_ (by simp; try omega) _)))).mono ?_
  rintro e w' ⟨rfl, rfl⟩
  go_wp2_with fail
  rw [rounds_succ]
  go_wp2_with fail
  refine (N4.out _ _ (by repeat (first | (with_reducible exact Below.refl _ _) | (with_reducible refine Below.drew ?_) | (with_reducible refine Below.alloc ?_ (by simp; try omega) _)))).mono ?_
  rintro e w' ⟨rfl, rfl⟩
  go_wp2_with fail
  rw [rounds_succ]
  go_wp2_with fail
  refine (N5.out _ _ (by repeat (first | (with_reducible exact Below.refl _ _) | (with_reducible refine Below.drew ?_) | (with_reducible refine Below.alloc ?_ (by simp; try omega) _)))).mono ?_
  rintro e w' ⟨rfl, rfl⟩
  go_wp2_with fail
  obtain ⟨g0, g1, g2, g3, g4, g5⟩ := HG.out
  have g9 := World.block_lt_of_cell? w _ g0
  have g10 : 0 < w.heap.size := by omega
  rw [rounds_succ]
  go_wp2_with fail
  rw [AG.out]
  refine (fp_below_lt x Mp _ XL.out.1 (by have := XL.out; omega) XL.out.2.2 XL.out.2.1).mono ?_
  rintro e w1 ⟨rfl, hB⟩
  clear g0 g1 g2 g3 g4 g5 g9
  obtain ⟨f0, f1, f2, f3, f4, f5, z0, z1, z2, z3, z4, z5, hg⟩ := res6 (t := 35) (c0 := .int .u64 0) (c1 := .int .u64 0) (c2 := .int .u64 0) (c3 := .int .u64 0) (c4 := .int .u64 0) (c5 := .int .u64 0) ((Blk.new w _ _).alloc _) hB
  obtain ⟨p0, p1, p2, p3, p4, p5, y0, y1, y2, y3, y4, y5, hg2⟩ := res6 (t := 33) (c0 := .int .u64 a0) (c1 := .int .u64 a1) (c2 := .int .u64 a2) (c3 := .int .u64 a3) (c4 := .int .u64 a4) (c5 := .int .u64 a5) (bump1 w _ _ _) hB
  have hW : Below w.heap.size w w1 := Below.trans (by repeat (first | (with_reducible exact Below.refl _ _) | (with_reducible refine Below.drew ?_) | (with_reducible refine Below.alloc ?_ (by simp; try omega) _))) (hB.mono (by simp; try omega))
  have R1 := Lib.hid ((((Blk.new w 35 #[.int .u64 0, .int .u64 0, .int .u64 0, .int .u64 0, .int .u64 0, .int .u64 0]).alloc (Obj.cells #[.int .u64 a0, .int .u64 a1, .int .u64 a2, .int .u64 a3, .int .u64 a4, .int .u64 a5] 33)).keep hB))
  have HW := Lib.hid hW
  clear hB hW
  go_wp2_with fail
  rw [AG.out]
  refine (fp_formed x _ (HG.out.keep HW.out) (HS.out.keep HW.out) XL.out.1 (by have := XL.out; omega)).mono ?_
  rintro e w2 ⟨rfl, hB⟩
  clear f0 f1 f2 f3 f4 f5 z0 z1 z2 z3 z4 z5 hg p0 p1 p2 p3 p4 p5 y0 y1 y2 y3 y4 y5 hg2
  obtain ⟨f0, f1, f2, f3, f4, f5, z0, z1, z2, z3, z4, z5, hg⟩ := res6 R1.out hB
  have hW2 : Below w.heap.size w w2 := HW.out.trans (hB.mono HW.out.size)
  have HW2 := Lib.hid hW2
  clear hB hW2
  unfold pv arr6
  go_wp2_with fail
  refine bodyPost_ret (v := .tuple #[pv x, .int .i64 0]) (by simp [pv, arr6, results, Tryd.results71, go_sem, f0, f1, f2, f3, f4, f5]) rfl ⟨rfl, ?_⟩
  exact ((((((HW2.out.setCell (Nat.le_refl _) _).setCell (Nat.le_refl _) _).setCell (Nat.le_refl _) _).setCell (Nat.le_refl _) _).setCell (Nat.le_refl _) _).setCell (Nat.le_refl _) _)
end Go.Proofs.YtialfoccalobpaaDoor

/-! ## FpQ -/
namespace Go.Proofs.YtialfoccalobpaaDoor
open Go.RowKit
end Go.Proofs.YtialfoccalobpaaDoor
