/-
  fp: the contract of power.
-/
import Derived.Test.YtclfmdaafpachaaDoorFpF
import Derived.Test.YtclfmdaafpachaaDoorFrI
namespace Go.Proofs.YtclfmdaafpachaaDoor
open Go.RowKit
/-- The world in a power's rounds. -/
structure PWp (w wr : World) (gy : Nat) (x e y : Int) : Prop where
  be : Below w.heap.size w wr
  bx : Blk wr w.heap.size 52 #[.int .u64 (wd x 0), .int .u64 (wd x 1), .int .u64 (wd x 2), .int .u64 (wd x 3), .int .u64 (wd x 4), .int .u64 (wd x 5)]
  bE : Blk wr (w.heap.size + 1) 50 #[.int .u64 (wd e 0), .int .u64 (wd e 1), .int .u64 (wd e 2), .int .u64 (wd e 3), .int .u64 (wd e 4), .int .u64 (wd e 5)]
  br : Blk wr (w.heap.size + 1 + 1) 52 #[.int .u64 0, .int .u64 0, .int .u64 0, .int .u64 0, .int .u64 0, .int .u64 0]
  by_ : Blk wr gy 52 #[.int .u64 (wd y 0), .int .u64 (wd y 1), .int .u64 (wd y 2), .int .u64 (wd y 3), .int .u64 (wd y 4), .int .u64 (wd y 5)]
  hy : w.heap.size + 1 + 1 < gy
theorem PWp.keep {w wr w' : World} {gy : Nat} {x e y : Int} (h : PWp w wr gy x e y) (hb : Below wr.heap.size wr w') : PWp w w' gy x e y :=
  ⟨h.be.trans (hb.mono h.be.size), h.bx.keep hb, h.bE.keep hb, h.br.keep hb, h.by_.keep hb, h.hy⟩
theorem PWp.set_ {w wr : World} {gy : Nat} {x e y : Int} (h : PWp w wr gy x e y) (z : Int) :
    PWp w ((((((wr.setCell ⟨gy, 0, none⟩ (.int .u64 (wd z 0))).setCell ⟨gy, 1, none⟩ (.int .u64 (wd z 1))).setCell ⟨gy, 2, none⟩ (.int .u64 (wd z 2))).setCell ⟨gy, 3, none⟩ (.int .u64 (wd z 3))).setCell ⟨gy, 4, none⟩ (.int .u64 (wd z 4))).setCell ⟨gy, 5, none⟩ (.int .u64 (wd z 5))) gy x e z := by
  have hy := h.hy
  exact ⟨((((((h.be.setCell (by simp; omega) _).setCell (by simp; omega) _).setCell (by simp; omega) _).setCell (by simp; omega) _).setCell (by simp; omega) _).setCell (by simp; omega) _),
    ((((((h.bx.far (by simp; omega) _).far (by simp; omega) _).far (by simp; omega) _).far (by simp; omega) _).far (by simp; omega) _).far (by simp; omega) _),
    ((((((h.bE.far (by simp; omega) _).far (by simp; omega) _).far (by simp; omega) _).far (by simp; omega) _).far (by simp; omega) _).far (by simp; omega) _),
    ((((((h.br.far (by simp; omega) _).far (by simp; omega) _).far (by simp; omega) _).far (by simp; omega) _).far (by simp; omega) _).far (by simp; omega) _),
    ((((((h.by_.set_ 0 _).set_ 1 _).set_ 2 _).set_ 3 _).set_ 4 _).set_ 5 _), hy⟩
theorem PWp.cells {w wr : World} {gy : Nat} {x e y : Int} (h : PWp w wr gy x e y) :
    (wr.cell? ⟨gy, 0, none⟩ = some (.int .u64 (wd y 0)) ∧ wr.cell? ⟨gy, 1, none⟩ = some (.int .u64 (wd y 1)) ∧ wr.cell? ⟨gy, 2, none⟩ = some (.int .u64 (wd y 2)) ∧ wr.cell? ⟨gy, 3, none⟩ = some (.int .u64 (wd y 3)) ∧ wr.cell? ⟨gy, 4, none⟩ = some (.int .u64 (wd y 4)) ∧ wr.cell? ⟨gy, 5, none⟩ = some (.int .u64 (wd y 5)) ∧
    wr.frozen? ⟨gy, 0, none⟩ = false ∧ wr.frozen? ⟨gy, 1, none⟩ = false ∧ wr.frozen? ⟨gy, 2, none⟩ = false ∧ wr.frozen? ⟨gy, 3, none⟩ = false ∧ wr.frozen? ⟨gy, 4, none⟩ = false ∧ wr.frozen? ⟨gy, 5, none⟩ = false) ∧
    wr.cell? ⟨w.heap.size, 0, none⟩ = some (.int .u64 (wd x 0)) ∧ wr.cell? ⟨w.heap.size, 1, none⟩ = some (.int .u64 (wd x 1)) ∧ wr.cell? ⟨w.heap.size, 2, none⟩ = some (.int .u64 (wd x 2)) ∧ wr.cell? ⟨w.heap.size, 3, none⟩ = some (.int .u64 (wd x 3)) ∧ wr.cell? ⟨w.heap.size, 4, none⟩ = some (.int .u64 (wd x 4)) ∧ wr.cell? ⟨w.heap.size, 5, none⟩ = some (.int .u64 (wd x 5)) :=
  ⟨⟨h.by_.at_ rfl, h.by_.at_ rfl, h.by_.at_ rfl, h.by_.at_ rfl, h.by_.at_ rfl, h.by_.at_ rfl, h.by_.frozen 0, h.by_.frozen 1, h.by_.frozen 2, h.by_.frozen 3, h.by_.frozen 4, h.by_.frozen 5⟩, h.bx.at_ rfl, h.bx.at_ rfl, h.bx.at_ rfl, h.bx.at_ rfl, h.bx.at_ rfl, h.bx.at_ rfl⟩
theorem PWp.word {w wr : World} {gy : Nat} {x e y : Int} (h : PWp w wr gy x e y) (k : Nat) (hk : k < 6) : wr.cell? ⟨w.heap.size + 1, k, none⟩ = some (.int .u64 (wd e k)) := by
  match k, hk with
  | 0, _ => exact h.bE.at_ rfl
  | 1, _ => exact h.bE.at_ rfl
  | 2, _ => exact h.bE.at_ rfl
  | 3, _ => exact h.bE.at_ rfl
  | 4, _ => exact h.bE.at_ rfl
  | 5, _ => exact h.bE.at_ rfl
set_option maxRecDepth 100000 in
set_option maxHeartbeats 4000000 in
theorem fp_power (x : Int) (E : Nat) (w : World) (hG : GMp w) (hS : GSqp w) (hE : E < 2 ^ 384) :
    Calls Tryd.prog 131 #[pv x, arr6 E] w fun e w' => e = .returned (pv (x ^ E)) ∧ Below w.heap.size w w' := by
  have HG := Lib.hid hG
  have HS := Lib.hid hS
  have HE := Lib.hid hE
  clear hG hS hE
  conv => arg 3; unfold pv arr6
  obtain ⟨X, hX⟩ : ∃ X, X = fe Mp (Wd ^ 6) x := ⟨_, rfl⟩
  rw [← hX]
  have HX := Lib.hid hX
  clear hX
  go_enter Tryd.func131, Tryd.ntmps131
  go_wp2_with fail
  refine (fp_of 1 _ (HG.out.keep (by repeat (first | (with_reducible exact Below.refl _ _) | (with_reducible refine Below.drew ?_) | (with_reducible refine Below.alloc ?_ (by simp; try omega) _)))) (HS.out.keep (by repeat (first | (with_reducible exact Below.refl _ _) | (with_reducible refine Below.drew ?_) | (with_reducible refine Below.alloc ?_ (by simp; try omega) _)))) (by omega) (by simp [Wd])).mono ?_
  rintro e w1 ⟨rfl, hB⟩
  have hP : PWp w (w1.alloc (.cells #[.int .u64 (wd (fe Mp (Wd ^ 6) 1) 0), .int .u64 (wd (fe Mp (Wd ^ 6) 1) 1), .int .u64 (wd (fe Mp (Wd ^ 6) 1) 2), .int .u64 (wd (fe Mp (Wd ^ 6) 1) 3), .int .u64 (wd (fe Mp (Wd ^ 6) 1) 4), .int .u64 (wd (fe Mp (Wd ^ 6) 1) 5)] 52)) w1.heap.size X E (fe Mp (Wd ^ 6) 1) :=
    ⟨Below.alloc (Below.trans (by repeat (first | (with_reducible exact Below.refl _ _) | (with_reducible refine Below.drew ?_) | (with_reducible refine Below.alloc ?_ (by simp; try omega) _))) (hB.mono (by simp; try omega))) (by have := hB.size; simp at this; omega) _, ((((Blk.new w _ _).alloc _).alloc _).keep hB).alloc _, (((bump1 w _ _ _).alloc _).keep hB).alloc _, ((bump2 w _ _ _ _).keep hB).alloc _, Blk.new w1 _ _, by have := hB.size; simp at this; omega⟩
  have HP := Lib.hid hP
  clear hB hP
  unfold pv arr6
  go_wp2_with fail
  obtain ⟨gy, hgy⟩ : ∃ g, g = w1.heap.size := ⟨_, rfl⟩
  rw [← hgy] at HP ⊢
  clear hgy
  go_loopw [6] (fun i wr => ∃ k : Nat, k ≤ 384 ∧ i = .int .i64 ((k : Int) - 1) ∧ PWp w wr gy X E (fe Mp (Wd ^ 6) (x ^ (E / 2 ^ k)))) (fun i _ => (intOf i + 1).toNat)
  case atStart => exact ⟨384, Nat.le_refl _, rfl, by
    have h := HP.out
    rw [Nat.div_eq_of_lt HE.out, Int.pow_zero]
    exact h⟩
  case round =>
    obtain ⟨k, hk, rfl, hW⟩ := hrel
    clear HP
    rcases Nat.eq_zero_or_pos k with rfl | hpos
    · have hz : E / 2 ^ 0 = E := by simp
      rw [hz] at hW
      have W1 := Lib.hid hW
      clear hW hz
      obtain ⟨⟨c0, c1, c2, c3, c4, c5, z0, z1, z2, z3, z4, z5⟩, x0, x1, x2, x3, x4, x5⟩ := W1.out.cells
      have f0 := W1.out.br.at_ (i := 0) (v := .int .u64 0) rfl
      have f1 := W1.out.br.at_ (i := 1) (v := .int .u64 0) rfl
      have f2 := W1.out.br.at_ (i := 2) (v := .int .u64 0) rfl
      have f3 := W1.out.br.at_ (i := 3) (v := .int .u64 0) rfl
      have f4 := W1.out.br.at_ (i := 4) (v := .int .u64 0) rfl
      have f5 := W1.out.br.at_ (i := 5) (v := .int .u64 0) rfl
      have y0 := W1.out.br.frozen 0
      have y1 := W1.out.br.frozen 1
      have y2 := W1.out.br.frozen 2
      have y3 := W1.out.br.frozen 3
      have y4 := W1.out.br.frozen 4
      have y5 := W1.out.br.frozen 5
      have j1 : decide ((0 : Int) ≤ ((0 : Nat) : Int) - 1) = false := by decide
      go_wp2_with fail
      refine bodyPost_ret (v := pv (x ^ E)) (by simp [pv, arr6, results, Tryd.results131, go_sem, f0, f1, f2, f3, f4, f5]) rfl ⟨rfl, ?_⟩
      exact ((((((W1.out.be.setCell (by simp; omega) _).setCell (by simp; omega) _).setCell (by simp; omega) _).setCell (by simp; omega) _).setCell (by simp; omega) _).setCell (by simp; omega) _)
    · obtain ⟨m, rfl⟩ : ∃ m, k = m + 1 := ⟨k - 1, by omega⟩
      have e1 : ((m + 1 : Nat) : Int) - 1 = (m : Int) := by omega
      rw [e1]
      clear e1
      have hpb := pow_bit x E m
      have hbw := bit_words E m
      obtain ⟨p, hp⟩ : ∃ p, p = x ^ (E / 2 ^ (m + 1)) := ⟨_, rfl⟩
      rw [← hp] at hpb hW
      have hm4 : m / 64 < 6 := by omega
      obtain ⟨v, hv⟩ : ∃ v, v = wd (E : Int) (m / 64) := ⟨_, rfl⟩
      rw [← hv] at hbw
      have hbt := bit_test v (m % 64) (E / 2 ^ m % 2) (by rw [hv]; exact (wd_lo _ _).1) (by rw [hv]; exact (wd_lo _ _).2) hbw
      have HV := Lib.hid hv
      have HPB := Lib.hid hpb
      have HBW := Lib.hid hbw
      have W1 := Lib.hid hW
      have BT := Lib.hid hbt
      clear hW hp hv hpb hbw hbt
      obtain ⟨⟨c0, c1, c2, c3, c4, c5, z0, z1, z2, z3, z4, z5⟩, x0, x1, x2, x3, x4, x5⟩ := W1.out.cells
      obtain ⟨w0, hw0⟩ : ∃ W, W = wr := ⟨_, rfl⟩
      subst hw0
      go_wp2_with fail
      refine (fp_square p _ (HG.out.keep W1.out.be)).mono ?_
      rintro e w2 ⟨rfl, hB⟩
      have W2 := Lib.hid (W1.out.keep hB)
      clear hB c0 c1 c2 c3 c4 c5 z0 z1 z2 z3 z4 z5 x0 x1 x2 x3 x4 x5 W1
      obtain ⟨⟨c0, c1, c2, c3, c4, c5, z0, z1, z2, z3, z4, z5⟩, x0, x1, x2, x3, x4, x5⟩ := W2.out.cells
      have W3 := Lib.hid (W2.out.set_ (fe Mp (Wd ^ 6) (p * p)))
      unfold pv arr6
      go_upto_region 6 with fail
      obtain ⟨w3, hw3⟩ : ∃ W, W = ((((((w2.setCell ⟨gy, 0, none⟩ (.int .u64 (wd (fe Mp (Wd ^ 6) (p * p)) 0))).setCell ⟨gy, 1, none⟩ (.int .u64 (wd (fe Mp (Wd ^ 6) (p * p)) 1))).setCell ⟨gy, 2, none⟩ (.int .u64 (wd (fe Mp (Wd ^ 6) (p * p)) 2))).setCell ⟨gy, 3, none⟩ (.int .u64 (wd (fe Mp (Wd ^ 6) (p * p)) 3))).setCell ⟨gy, 4, none⟩ (.int .u64 (wd (fe Mp (Wd ^ 6) (p * p)) 4))).setCell ⟨gy, 5, none⟩ (.int .u64 (wd (fe Mp (Wd ^ 6) (p * p)) 5))) := ⟨_, rfl⟩
      rw [← hw3] at W3 ⊢
      clear hw3 W2 c0 c1 c2 c3 c4 c5 z0 z1 z2 z3 z4 z5 x0 x1 x2 x3 x4 x5
      obtain ⟨⟨c0, c1, c2, c3, c4, c5, z0, z1, z2, z3, z4, z5⟩, x0, x1, x2, x3, x4, x5⟩ := W3.out.cells
      have cE := W3.out.word (m / 64) hm4
      rw [← HV.out] at cE
      have i4 : (m : Int) / 64 < 6 := by omega
      rcases (by omega : E / 2 ^ m % 2 = 0 ∨ E / 2 ^ m % 2 = 1) with h2 | h2
      · have ht : (bits .and .u64 (v / 2 ^ (m % 64)) 1 == 1) = false := by rw [BT.out, h2]; rfl
        have hpp : x ^ (E / 2 ^ m) = p * p := by rw [HPB.out, h2, Int.pow_zero, Int.mul_one]
        have HPP := Lib.hid hpp
        clear h2 hpp
        go_wp2_with fail
        exact ⟨⟨m, by omega, rfl, by rw [HPP.out]; exact W3.out⟩, by simp [intOf]⟩
      · have ht : (bits .and .u64 (v / 2 ^ (m % 64)) 1 == 1) = true := by rw [BT.out, h2]; rfl
        have hpp : x ^ (E / 2 ^ m) = p * p * x := by rw [HPB.out, h2, Int.pow_succ, Int.pow_zero, Int.one_mul]
        have HPP := Lib.hid hpp
        clear h2 hpp
        have hmx := fp_mul (p * p) x
        unfold pv arr6 at hmx
        rw [← HX.out] at hmx
        have HMX := Lib.hid hmx
        clear hmx
        go_wp2_with fail
        refine (HMX.out _ (HG.out.keep W3.out.be)).mono ?_
        rintro e w4 ⟨rfl, hB⟩
        have W4 := Lib.hid (W3.out.keep hB)
        clear hB c0 c1 c2 c3 c4 c5 z0 z1 z2 z3 z4 z5 x0 x1 x2 x3 x4 x5 cE ht
        obtain ⟨⟨c0, c1, c2, c3, c4, c5, z0, z1, z2, z3, z4, z5⟩, x0, x1, x2, x3, x4, x5⟩ := W4.out.cells
        go_wp2_with fail
        exact ⟨⟨m, by omega, rfl, by rw [HPP.out]; exact W4.out.set_ _⟩, by simp [intOf]⟩
end Go.Proofs.YtclfmdaafpachaaDoor
