/-
  fr: the contract of Read, at thirty-two bytes.
-/
import Derived.Test.YtclfmdaafpachaaDoorFrBased
namespace Go.Proofs.YtclfmdaafpachaaDoor
open Go.RowKit
theorem reads_part {w : World} {B n b o : Nat} {xs : List Value} (h : Reads w B (some ⟨b, o, none⟩) n xs) (k m : Nat) (hk : k + m ≤ n) (hm : 0 < m) : Reads w B (some ⟨b, o + k, none⟩) m ((xs.drop k).take m) := by
  refine ⟨by have := h.1; simp; omega, fun _ => ?_⟩
  obtain ⟨b', o', e, hb, hc⟩ := h.2 (by omega)
  obtain ⟨rfl, rfl⟩ : b = b' ∧ o = o' := by simpa using e
  refine ⟨b, o + k, rfl, hb, fun j u hu => ?_⟩
  rw [List.getElem?_take] at hu
  split at hu
  · rw [List.getElem?_drop] at hu
    rw [Nat.add_assoc]
    exact hc _ _ hu
  · cases hu
theorem num_four (bs : List Int) (h : bs.length = 32) : num ((bs.drop 24).take 8) + Wd * (num ((bs.drop 16).take 8) + Wd * (num ((bs.drop 8).take 8) + Wd * num ((bs.drop 0).take 8))) = num bs := by
  have hw : (256 : Int) ^ 8 = Wd := by simp [Wd]
  have e3 : bs.drop 24 = (bs.drop 24).take 8 := (List.take_of_length_le (by simp; omega)).symm
  have p : ∀ k, bs.drop k = (bs.drop k).take 8 ++ bs.drop (k + 8) := fun k => by rw [← List.drop_drop, List.take_append_drop]
  have f3 : num (bs.drop 24) = num ((bs.drop 24).take 8) := congrArg num e3
  have f2 : num (bs.drop 16) = num ((bs.drop 16).take 8) * Wd + num (bs.drop 24) := by
    have := congrArg num (p 16)
    rw [num_app] at this
    rw [this, show (bs.drop (16 + 8)).length = 8 by simp; omega, hw]
  have f1 : num (bs.drop 8) = num ((bs.drop 8).take 8) * Wd ^ 2 + num (bs.drop 16) := by
    have := congrArg num (p 8)
    rw [num_app] at this
    rw [this, show (bs.drop (8 + 8)).length = 8 * 2 by simp; omega, Int.pow_mul, hw]
  have f0 : num (bs.drop 0) = num ((bs.drop 0).take 8) * Wd ^ 3 + num (bs.drop 8) := by
    have := congrArg num (p 0)
    rw [num_app] at this
    rw [this, show (bs.drop (0 + 8)).length = 8 * 3 by simp; omega, Int.pow_mul, hw]
  rw [show num bs = num (bs.drop 0) from rfl, f0, f1, f2, f3]
  grind
set_option maxRecDepth 100000 in
set_option maxHeartbeats 4000000 in
theorem fr_read_ok (w : World) (hG : GMr w) (hS : GSq w) (A : Option Addr) (c : Nat) (bs : List Int) (hr : Reads w w.heap.size A 32 (bs.map (Value.int .u8))) (ho : Oct bs) (hc : 32 ≤ c) (hlt : num bs < Mr) :
    Calls Tryd.prog 27 #[.slice A 32 c] w fun e w' => e = .returned (.tuple #[fv (num bs), .int .i64 0]) ∧ Below w.heap.size w w' := by
  have hl : bs.length = 32 := by simpa using hr.1
  obtain ⟨b, o, rfl, hb, -⟩ := hr.2 (by omega)
  have HG := Lib.hid hG
  have HS := Lib.hid hS
  have h4 := num_four bs hl
  have hpart : ∀ k, k + 8 ≤ 32 → Reads w w.heap.size (some ⟨b, o + k, none⟩) 8 (((bs.drop k).take 8).map (Value.int .u8)) := fun k hk => by
    have := reads_part hr k 8 hk (by omega)
    rwa [← List.map_drop, ← List.map_take] at this
  have hnum : ∀ k, k + 8 ≤ 32 → ∀ W c', Below w.heap.size w W → Calls Tryd.prog 112 #[.slice (some ⟨b, o + k, none⟩) 8 c'] W fun e w' => e = .returned (.int .u64 (num ((bs.drop k).take 8))) ∧ W = w' := fun k hk W c' hW =>
    fr_number W _ _ 8 c' _ ((hpart k hk).below hW) ((ho.drop k).take 8) (Nat.le_refl _)
  have hrange : ∀ k, k + 8 ≤ 32 → 0 ≤ num ((bs.drop k).take 8) ∧ num ((bs.drop k).take 8) < Wd := fun k hk => by
    have := num_lt _ ((ho.drop k).take 8)
    rw [show ((bs.drop k).take 8).length = 8 by simp; omega] at this
    unfold Wd
    omega
  have hn0 := num_lt bs ho
  obtain ⟨a0, ha0⟩ : ∃ a, a = num ((bs.drop 24).take 8) := ⟨_, rfl⟩
  obtain ⟨a1, ha1⟩ : ∃ a, a = num ((bs.drop 16).take 8) := ⟨_, rfl⟩
  obtain ⟨a2, ha2⟩ : ∃ a, a = num ((bs.drop 8).take 8) := ⟨_, rfl⟩
  obtain ⟨a3, ha3⟩ : ∃ a, a = num ((bs.drop 0).take 8) := ⟨_, rfl⟩
  have n0 := hnum 24 (by omega)
  have n1 := hnum 16 (by omega)
  have n2 := hnum 8 (by omega)
  have n3 := hnum 0 (by omega)
  have r0 := hrange 24 (by omega)
  have r1 := hrange 16 (by omega)
  have r2 := hrange 8 (by omega)
  have r3 := hrange 0 (by omega)
  rw [← ha0] at n0 r0
  rw [← ha1] at n1 r1
  rw [← ha2] at n2 r2
  rw [← ha3] at n3 r3
  rw [← ha0, ← ha1, ← ha2, ← ha3] at h4
  obtain ⟨x, hx⟩ : ∃ x, x = num bs := ⟨_, rfl⟩
  rw [← hx] at h4 hlt hn0 ⊢
  have hagg := arr4_of a0 a1 a2 a3 x r0 r1 r2 r3 h4
  have hM := Mr_lo
  have N0 := Lib.hid n0
  have N1 := Lib.hid n1
  have N2 := Lib.hid n2
  rw [Nat.add_zero] at n3
  have N3 := Lib.hid n3
  have AG := Lib.hid hagg
  have XL := Lib.hid (show 0 ≤ x ∧ x < Mr ∧ Mr < Wd ^ 4 by omega)
  clear hnum hpart hrange n0 n1 n2 n3 r0 r1 r2 r3 ha0 ha1 ha2 ha3 h4 hx hagg hM hlt hn0 hl hG hS hr ho
  have i1 : (32 : Int) ≤ c := by omega
  go_enter Tryd.func27, Tryd.ntmps27
  go_wp2_with fail
  refine wp_loop_rounds 5 ?_
  rw [rounds_succ]
  go_wp2_with fail
  refine (N0.out _ _ (by repeat (first | exact Below.refl _ _ | refine Below.drew ?_ | refine Below.alloc ?_ (by simp; try omega) _))).mono ?_
  rintro e w' ⟨rfl, rfl⟩
  go_wp2_with fail
  rw [rounds_succ]
  go_wp2_with fail
  refine (N1.out _ _ (by repeat (first | exact Below.refl _ _ | refine Below.drew ?_ | refine Below.alloc ?_ (by simp; try omega) _))).mono ?_
  rintro e w' ⟨rfl, rfl⟩
  go_wp2_with fail
  rw [rounds_succ]
  go_wp2_with fail
  refine (N2.out _ _ (by repeat (first | exact Below.refl _ _ | refine Below.drew ?_ | refine Below.alloc ?_ (by simp; try omega) _))).mono ?_
  rintro e w' ⟨rfl, rfl⟩
  go_wp2_with fail
  rw [rounds_succ]
  go_wp2_with fail
  refine (N3.out _ _ (by repeat (first | exact Below.refl _ _ | refine Below.drew ?_ | refine Below.alloc ?_ (by simp; try omega) _))).mono ?_
  rintro e w' ⟨rfl, rfl⟩
  go_wp2_with fail
  obtain ⟨g0, g1, g2, g3⟩ := HG.out
  have g9 := World.block_lt_of_cell? w _ g0
  rw [rounds_succ]
  go_wp2_with fail
  rw [AG.out]
  refine (fr_below_lt x Mr _ XL.out.1 (by have := XL.out; omega) XL.out.2.2 XL.out.2.1).mono ?_
  rintro e w1 ⟨rfl, hB⟩
  clear g0 g1 g2 g3 g9
  obtain ⟨f0, f1, f2, f3, z0, z1, z2, z3, hg⟩ := res4 (t := 28) (c0 := .int .u64 0) (c1 := .int .u64 0) (c2 := .int .u64 0) (c3 := .int .u64 0) ((Blk.new w _ _).alloc _) hB
  obtain ⟨p0, p1, p2, p3, y0, y1, y2, y3, hg2⟩ := res4 (t := 26) (c0 := .int .u64 a0) (c1 := .int .u64 a1) (c2 := .int .u64 a2) (c3 := .int .u64 a3) (bump1 w _ _ _) hB
  have hW : Below w.heap.size w w1 := Below.trans (by repeat (first | exact Below.refl _ _ | refine Below.drew ?_ | refine Below.alloc ?_ (by simp; try omega) _)) (hB.mono (by simp; try omega))
  have R1 := Lib.hid ((((Blk.new w 28 #[.int .u64 0, .int .u64 0, .int .u64 0, .int .u64 0]).alloc (Obj.cells #[.int .u64 a0, .int .u64 a1, .int .u64 a2, .int .u64 a3] 26)).keep hB))
  have HW := Lib.hid hW
  clear hB hW
  go_wp2_with fail
  rw [AG.out]
  refine (fr_formed x _ (HG.out.keep HW.out) (HS.out.keep HW.out) XL.out.1 (by have := XL.out; omega)).mono ?_
  rintro e w2 ⟨rfl, hB⟩
  clear f0 f1 f2 f3 z0 z1 z2 z3 hg p0 p1 p2 p3 y0 y1 y2 y3 hg2
  obtain ⟨f0, f1, f2, f3, z0, z1, z2, z3, hg⟩ := res4 R1.out hB
  have hW2 : Below w.heap.size w w2 := HW.out.trans (hB.mono HW.out.size)
  have HW2 := Lib.hid hW2
  clear hB hW2
  unfold fv arr4
  go_wp2_with fail
  refine bodyPost_ret (v := .tuple #[fv x, .int .i64 0]) (by simp [fv, arr4, results, Tryd.results27, go_sem, f0, f1, f2, f3]) rfl ⟨rfl, ?_⟩
  exact (((HW2.out.setCell (Nat.le_refl _) _).setCell (Nat.le_refl _) _).setCell (Nat.le_refl _) _).setCell (Nat.le_refl _) _
end Go.Proofs.YtclfmdaafpachaaDoor
