/-
  FpReads: the walk; Read of bytes that are no number.
-/
import Derived.Test.YtifnnckbcjafgabGreatDoorUR3Z
namespace Go.Proofs.YtifnnckbcjafgabGreatDoor
open Go.RowKit
set_option maxRecDepth 100000 in
set_option maxHeartbeats 4000000 in
theorem fp_read_field (w : World) (hG : GMp w) (hS : GSqp w) (A : Option Addr) (c : Nat) (bs : List Int) (hr : Reads w w.heap.size A 48 (bs.map (Value.int .u8))) (ho : Oct bs) (hc : 48 ≤ c) (hlt : Mp ≤ num bs) :
    Calls Tryz.prog 19 #[.slice A 48 c] w fun e w' => e = .returned (.tuple #[pv 0, .int .i64 12]) ∧ Below w.heap.size w w' := by
  have hl : bs.length = 48 := by simpa using hr.1
  obtain ⟨b, o, rfl, hb, -⟩ := hr.2 (by omega)
  have HG := Lib.hid hG
  have HS := Lib.hid hS
  have h4 := num_six bs hl
  have hpart : ∀ k, k + 8 ≤ 48 → Reads w w.heap.size (some ⟨b, o + k, none⟩) 8 (((bs.drop k).take 8).map (Value.int .u8)) := fun k hk => by
    have := reads_part hr k 8 hk (by omega)
    rwa [← List.map_drop, ← List.map_take] at this
  have hnum : ∀ k, k + 8 ≤ 48 → ∀ W c', Below w.heap.size w W → Calls Tryz.prog 69 #[.slice (some ⟨b, o + k, none⟩) 8 c'] W fun e w' => e = .returned (.int .u64 (num ((bs.drop k).take 8))) ∧ W = w' := fun k hk W c' hW =>
    fp_number W _ _ 8 c' _ ((hpart k hk).below hW) ((ho.drop k).take 8) (Nat.le_refl _)
  have hrange : ∀ k, k + 8 ≤ 48 → 0 ≤ num ((bs.drop k).take 8) ∧ num ((bs.drop k).take 8) < Wd := fun k hk => by
    have := num_lt _ ((ho.drop k).take 8)
    rw [show ((bs.drop k).take 8).length = 8 by simp; omega] at this
    unfold Wd
    omega
  have hn0 := num_lt bs ho
  obtain ⟨a0, ha0⟩ : ∃ a, a = num ((bs.drop 40).take 8) := ⟨_, rfl⟩
  obtain ⟨a1, ha1⟩ : ∃ a, a = num ((bs.drop 32).take 8) := ⟨_, rfl⟩
  obtain ⟨a2, ha2⟩ : ∃ a, a = num ((bs.drop 24).take 8) := ⟨_, rfl⟩
  obtain ⟨a3, ha3⟩ : ∃ a, a = num ((bs.drop 16).take 8) := ⟨_, rfl⟩
  obtain ⟨a4, ha4⟩ : ∃ a, a = num ((bs.drop 8).take 8) := ⟨_, rfl⟩
  obtain ⟨a5, ha5⟩ : ∃ a, a = num ((bs.drop 0).take 8) := ⟨_, rfl⟩
  have n0 := hnum 40 (by omega)
  have n1 := hnum 32 (by omega)
  have n2 := hnum 24 (by omega)
  have n3 := hnum 16 (by omega)
  have n4 := hnum 8 (by omega)
  have n5 := hnum 0 (by omega)
  have r0 := hrange 40 (by omega)
  have r1 := hrange 32 (by omega)
  have r2 := hrange 24 (by omega)
  have r3 := hrange 16 (by omega)
  have r4 := hrange 8 (by omega)
  have r5 := hrange 0 (by omega)
  rw [← ha0] at n0 r0
  rw [← ha1] at n1 r1
  rw [← ha2] at n2 r2
  rw [← ha3] at n3 r3
  rw [← ha4] at n4 r4
  rw [← ha5] at n5 r5
  rw [← ha0, ← ha1, ← ha2, ← ha3, ← ha4, ← ha5] at h4
  obtain ⟨x, hx⟩ : ∃ x, x = num bs := ⟨_, rfl⟩
  rw [← hx] at h4 hlt hn0
  have hagg := arr6_of a0 a1 a2 a3 a4 a5 x r0 r1 r2 r3 r4 r5 h4
  have hM := Mp_lo
  have N0 := Lib.hid n0
  have N1 := Lib.hid n1
  have N2 := Lib.hid n2
  have N3 := Lib.hid n3
  have N4 := Lib.hid n4
  rw [Nat.add_zero] at n5
  have N5 := Lib.hid n5
  have AG := Lib.hid hagg
  have XL := Lib.hid (show 0 ≤ x ∧ Mp ≤ x ∧ x < Wd ^ 6 ∧ 0 ≤ Mp by refine ⟨by omega, by omega, ?_, by omega⟩; have hq := hn0.2; rw [hl] at hq; exact Int.lt_of_lt_of_le hq (by unfold Wd; decide))
  clear hnum hpart hrange n0 n1 n2 n3 n4 n5 r0 r1 r2 r3 r4 r5 ha0 ha1 ha2 ha3 ha4 ha5 h4 hx hagg hM hlt hn0 hl hG hS hr ho
  have i1 : (48 : Int) ≤ c := by omega
  go_enter Tryz.func19, Tryz.ntmps19
  go_wp2_with fail
  refine wp_loop_rounds 7 ?_
  rw [rounds_succ]
  go_wp2_with fail
  refine (N0.out _ _ (by repeat (first | (with_reducible exact Below.refl _ _) | (with_reducible refine Below.drew ?_) | (with_reducible refine Below.alloc ?_ (by simp; try omega) _)))).mono ?_
  rintro e w' ⟨rfl, rfl⟩
  go_wp2_with fail
  rw [rounds_succ]
  go_wp2_with fail
  refine (N1.out _ _ (by repeat (first | (with_reducible exact Below.refl _ _) | (with_reducible refine Below.drew ?_) | (with_reducible refine Below.alloc ?_ (by simp; try omega) _)))).mono ?_
  rintro e w' ⟨rfl, rfl⟩
  go_wp2_with fail
  rw [rounds_succ]
  go_wp2_with fail
  refine (N2.out _ _ (by repeat (first | (with_reducible exact Below.refl _ _) | (with_reducible refine Below.drew ?_) | (with_reducible refine Below.alloc ?_ (by simp; try omega) _)))).mono ?_
  rintro e w' ⟨rfl, rfl⟩
  go_wp2_with fail
  rw [rounds_succ]
  go_wp2_with fail
  refine (N3.out _ _ (by repeat (first | (with_reducible exact Below.refl _ _) | (with_reducible refine Below.drew ?_) | (with_reducible refine Below.alloc ?_ (by simp; try omega) _)))).mono ?_
  rintro e w' ⟨rfl, rfl⟩
  go_wp2_with fail
  rw [rounds_succ]
  go_wp2_with fail
  refine (N4.out _ _ (by repeat (first | (with_reducible exact Below.refl _ _) | (with_reducible refine Below.drew ?_) | (with_reducible refine Below.alloc ?_ (by simp; try omega) _)))).mono ?_
  rintro e w' ⟨rfl, rfl⟩
  go_wp2_with fail
  rw [rounds_succ]
  go_wp2_with fail
  refine (N5.out _ _ (by repeat (first | (with_reducible exact Below.refl _ _) | (with_reducible refine Below.drew ?_) | (with_reducible refine Below.alloc ?_ (by simp; try omega) _)))).mono ?_
  rintro e w' ⟨rfl, rfl⟩
  go_wp2_with fail
  obtain ⟨g0, g1, g2, g3, g4, g5⟩ := HG.out
  have g9 := World.block_lt_of_cell? w _ g0
  have g10 : 0 < w.heap.size := by omega
  rw [rounds_succ]
  go_wp2_with fail
  rw [AG.out]
  refine (fp_below_ge x Mp _ XL.out.1 XL.out.2.2.1 XL.out.2.2.2 XL.out.2.1).mono ?_
  rintro e w1 ⟨rfl, hB⟩
  clear g0 g1 g2 g3 g4 g5 g9
  obtain ⟨f0, f1, f2, f3, f4, f5, z0, z1, z2, z3, z4, z5, hg⟩ := res6 (t := 29) (c0 := .int .u64 0) (c1 := .int .u64 0) (c2 := .int .u64 0) (c3 := .int .u64 0) (c4 := .int .u64 0) (c5 := .int .u64 0) ((Blk.new w _ _).alloc _) hB
  have hW : Below w.heap.size w w1 := Below.trans (by repeat (first | (with_reducible exact Below.refl _ _) | (with_reducible refine Below.drew ?_) | (with_reducible refine Below.alloc ?_ (by simp; try omega) _))) (hB.mono (by simp; try omega))
  have HW := Lib.hid hW
  clear hB hW
  go_wp2_with fail
  refine bodyPost_ret (v := .tuple #[pv 0, .int .i64 12]) (by rw [show pv 0 = arr6 0 by unfold pv; rw [pe_zero]]; simp [arr6, results, Tryz.results19, go_sem, wd, f0, f1, f2, f3, f4, f5]) rfl ⟨rfl, ?_⟩
  exact ((((((HW.out.setCell (Nat.le_refl _) _).setCell (Nat.le_refl _) _).setCell (Nat.le_refl _) _).setCell (Nat.le_refl _) _).setCell (Nat.le_refl _) _).setCell (Nat.le_refl _) _)
end Go.Proofs.YtifnnckbcjafgabGreatDoor
namespace Go.Proofs.YtifnnckbcjafgabGreatDoor
set_option linter.unusedSimpArgs false
set_option linter.unusedVariables false
open Go.RowKit
section
variable {ops : Array Oper} {late : List Nat} {R : Act → World → Prop} {v : World} {L L0 : List (Nat × TypeId × Array Value)} {n : Nat} {sl : List (Nat × Value)}
end
section
variable {P : Program} {S : World → Prop}
end
theorem v_read_field (A : Option Addr) (c : Nat) (bs : List Int) (w : World) (hG : Glo w) (hr : Reads w w.heap.size A 48 (bs.map (Value.int .u8))) (ho : Oct bs) (hc : 48 ≤ c) (h : Mp ≤ num bs) : Rets 19 #[.slice A 48 c] w (.tuple #[.agg (pc 0), .int .i64 12]) := by
  have h := fp_read_field w hG.m hG.s A c bs hr ho hc h
  rw [pv_n, Fp.n_zero] at h
  exact h
theorem v_read_ok (A : Option Addr) (c : Nat) (bs : List Int) (w : World) (hG : Glo w) (hr : Reads w w.heap.size A 48 (bs.map (Value.int .u8))) (ho : Oct bs) (hc : 48 ≤ c) (h : num bs < Mp) : Rets 19 #[.slice A 48 c] w (.tuple #[.agg (pc (Fp.n (num bs))), .int .i64 0]) := by
  have h := fp_read_ok w hG.m hG.s A c bs hr ho hc h
  rw [pv_n] at h
  exact h
end Go.Proofs.YtifnnckbcjafgabGreatDoor
