/-
  fr: the contracts of power and Inv.
-/
import Derived.Test.YtclfmdaafpachaaDoorFrF
import Derived.Deep.Cut
import Derived.Deep.CutRange
namespace Go.Proofs.YtclfmdaafpachaaDoor
open Go.RowKit
theorem mod_bit (n r : Nat) (hr : r < 64) : n % 2 ^ 64 / 2 ^ r % 2 = n / 2 ^ r % 2 := by
  have h := Nat.testBit_mod_two_pow n 64 r
  rw [Nat.testBit_eq_decide_div_mod_eq, Nat.testBit_eq_decide_div_mod_eq] at h
  simp only [hr, decide_true, Bool.true_and, decide_eq_decide] at h
  omega
/-- A bit of a number, out of its word. -/
theorem bit_words (n : Nat) (i : Nat) : wd (n : Int) (i / 64) / 2 ^ (i % 64) % 2 = ((n / 2 ^ i % 2 : Nat) : Int) := by
  suffices ∀ j (n : Nat), ∀ r, r < 64 → wd (n : Int) j / 2 ^ r % 2 = ((n / 2 ^ (64 * j + r) % 2 : Nat) : Int) by
    have h := this (i / 64) n (i % 64) (Nat.mod_lt _ (by omega))
    rw [Nat.div_add_mod] at h
    exact h
  have e : (Wd : Int) = ((2 ^ 64 : Nat) : Int) := by simp [Wd]
  intro j
  induction j with
  | zero =>
    intro n r hr
    simp only [wd, Nat.mul_zero, Nat.zero_add]
    rw [e]
    exact_mod_cast mod_bit n r hr
  | succ j ih =>
    intro n r hr
    simp only [wd]
    rw [e, ← Int.natCast_ediv, ih (n / 2 ^ 64) r hr, Nat.div_div_eq_div_mul, ← Nat.pow_add]
    congr 4
    omega
theorem bit_step (n i : Nat) : n / 2 ^ i = 2 * (n / 2 ^ (i + 1)) + n / 2 ^ i % 2 := by
  rw [Nat.pow_succ, ← Nat.div_div_eq_div_mul]
  omega
theorem pow_bit (x : Int) (n i : Nat) : x ^ (n / 2 ^ i) = x ^ (n / 2 ^ (i + 1)) * x ^ (n / 2 ^ (i + 1)) * x ^ (n / 2 ^ i % 2) := by
  rw [← Int.pow_add, ← Int.pow_add]
  congr 1
  have := bit_step n i
  omega
theorem and_one (a : Int) (h0 : 0 ≤ a) (h : a < 18446744073709551616) : bits .and .u64 a 1 = a % 2 := by
  obtain ⟨A, rfl⟩ := Int.eq_ofNat_of_zero_le h0
  have e := u64_and_nat A 1 (by omega) (by omega)
  rw [Nat.and_one_is_mod] at e
  rw [show (1 : Int) = ((1 : Nat) : Int) from rfl, e]
  omega
theorem bit_test (v : Int) (r b : Nat) (h0 : 0 ≤ v) (hv : v < Wd) (h : v / 2 ^ r % 2 = (b : Int)) : (bits .and .u64 (v / 2 ^ r) 1 == 1) = decide (b = 1) := by
  have hp : (0 : Int) < 2 ^ r := Int.pow_pos (by omega)
  have h1 : 0 ≤ v / 2 ^ r := Int.ediv_nonneg h0 (by omega)
  have h2 : v / 2 ^ r ≤ v := Int.ediv_le_self _ h0
  rw [and_one _ h1 (by unfold Wd at hv; omega), h]
  rcases Nat.lt_trichotomy b 1 with h3 | h3 | h3
  · obtain rfl : b = 0 := by omega
    rfl
  · subst h3; rfl
  · have : ¬ ((b : Int) = 1) := by omega
    have : ¬ (b = 1) := by omega
    simp [*]
/-- The world in a power's rounds. -/
structure PW (w wr : World) (gy : Nat) (x e y : Int) : Prop where
  be : Below w.heap.size w wr
  bx : Blk wr w.heap.size 28 #[.int .u64 (wd x 0), .int .u64 (wd x 1), .int .u64 (wd x 2), .int .u64 (wd x 3)]
  bE : Blk wr (w.heap.size + 1) 26 #[.int .u64 (wd e 0), .int .u64 (wd e 1), .int .u64 (wd e 2), .int .u64 (wd e 3)]
  br : Blk wr (w.heap.size + 1 + 1) 28 #[.int .u64 0, .int .u64 0, .int .u64 0, .int .u64 0]
  by_ : Blk wr gy 28 #[.int .u64 (wd y 0), .int .u64 (wd y 1), .int .u64 (wd y 2), .int .u64 (wd y 3)]
  hy : w.heap.size + 1 + 1 < gy
theorem PW.keep {w wr w' : World} {gy : Nat} {x e y : Int} (h : PW w wr gy x e y) (hb : Below wr.heap.size wr w') : PW w w' gy x e y :=
  ⟨h.be.trans (hb.mono h.be.size), h.bx.keep hb, h.bE.keep hb, h.br.keep hb, h.by_.keep hb, h.hy⟩
theorem PW.set_ {w wr : World} {gy : Nat} {x e y : Int} (h : PW w wr gy x e y) (z : Int) :
    PW w ((((wr.setCell ⟨gy, 0, none⟩ (.int .u64 (wd z 0))).setCell ⟨gy, 1, none⟩ (.int .u64 (wd z 1))).setCell ⟨gy, 2, none⟩ (.int .u64 (wd z 2))).setCell ⟨gy, 3, none⟩ (.int .u64 (wd z 3))) gy x e z := by
  have hy := h.hy
  exact ⟨(((h.be.setCell (by simp; omega) _).setCell (by simp; omega) _).setCell (by simp; omega) _).setCell (by simp; omega) _,
    (((h.bx.far (by simp; omega) _).far (by simp; omega) _).far (by simp; omega) _).far (by simp; omega) _,
    (((h.bE.far (by simp; omega) _).far (by simp; omega) _).far (by simp; omega) _).far (by simp; omega) _,
    (((h.br.far (by simp; omega) _).far (by simp; omega) _).far (by simp; omega) _).far (by simp; omega) _,
    (((h.by_.set_ 0 _).set_ 1 _).set_ 2 _).set_ 3 _, hy⟩
theorem PW.cells {w wr : World} {gy : Nat} {x e y : Int} (h : PW w wr gy x e y) :
    (wr.cell? ⟨gy, 0, none⟩ = some (.int .u64 (wd y 0)) ∧ wr.cell? ⟨gy, 1, none⟩ = some (.int .u64 (wd y 1)) ∧ wr.cell? ⟨gy, 2, none⟩ = some (.int .u64 (wd y 2)) ∧ wr.cell? ⟨gy, 3, none⟩ = some (.int .u64 (wd y 3)) ∧
    wr.frozen? ⟨gy, 0, none⟩ = false ∧ wr.frozen? ⟨gy, 1, none⟩ = false ∧ wr.frozen? ⟨gy, 2, none⟩ = false ∧ wr.frozen? ⟨gy, 3, none⟩ = false) ∧
    wr.cell? ⟨w.heap.size, 0, none⟩ = some (.int .u64 (wd x 0)) ∧ wr.cell? ⟨w.heap.size, 1, none⟩ = some (.int .u64 (wd x 1)) ∧ wr.cell? ⟨w.heap.size, 2, none⟩ = some (.int .u64 (wd x 2)) ∧ wr.cell? ⟨w.heap.size, 3, none⟩ = some (.int .u64 (wd x 3)) :=
  ⟨⟨h.by_.at_ rfl, h.by_.at_ rfl, h.by_.at_ rfl, h.by_.at_ rfl, h.by_.frozen 0, h.by_.frozen 1, h.by_.frozen 2, h.by_.frozen 3⟩, h.bx.at_ rfl, h.bx.at_ rfl, h.bx.at_ rfl, h.bx.at_ rfl⟩
theorem PW.word {w wr : World} {gy : Nat} {x e y : Int} (h : PW w wr gy x e y) (k : Nat) (hk : k < 4) : wr.cell? ⟨w.heap.size + 1, k, none⟩ = some (.int .u64 (wd e k)) := by
  match k, hk with
  | 0, _ => exact h.bE.at_ rfl
  | 1, _ => exact h.bE.at_ rfl
  | 2, _ => exact h.bE.at_ rfl
  | 3, _ => exact h.bE.at_ rfl
set_option maxRecDepth 100000 in
set_option maxHeartbeats 4000000 in
theorem fr_power (x : Int) (E : Nat) (w : World) (hG : GMr w) (hS : GSq w) (hE : E < 2 ^ 256) :
    Calls Tryd.prog 143 #[fv x, arr4 E] w fun e w' => e = .returned (fv (x ^ E)) ∧ Below w.heap.size w w' := by
  have HG := Lib.hid hG
  have HS := Lib.hid hS
  have HE := Lib.hid hE
  clear hG hS hE
  conv => arg 3; unfold fv arr4
  obtain ⟨X, hX⟩ : ∃ X, X = fe Mr (Wd ^ 4) x := ⟨_, rfl⟩
  rw [← hX]
  have HX := Lib.hid hX
  clear hX
  go_enter Tryd.func143, Tryd.ntmps143
  go_wp2_with fail
  refine (fr_of 1 _ (HG.out.keep (by repeat (first | exact Below.refl _ _ | refine Below.drew ?_ | refine Below.alloc ?_ (by simp; try omega) _))) (HS.out.keep (by repeat (first | exact Below.refl _ _ | refine Below.drew ?_ | refine Below.alloc ?_ (by simp; try omega) _))) (by omega) (by simp [Wd])).mono ?_
  rintro e w1 ⟨rfl, hB⟩
  have hP : PW w (w1.alloc (.cells #[.int .u64 (wd (fe Mr (Wd ^ 4) 1) 0), .int .u64 (wd (fe Mr (Wd ^ 4) 1) 1), .int .u64 (wd (fe Mr (Wd ^ 4) 1) 2), .int .u64 (wd (fe Mr (Wd ^ 4) 1) 3)] 28)) w1.heap.size X E (fe Mr (Wd ^ 4) 1) :=
    ⟨Below.alloc (Below.trans (by repeat (first | exact Below.refl _ _ | refine Below.drew ?_ | refine Below.alloc ?_ (by simp; try omega) _)) (hB.mono (by simp; try omega))) (by have := hB.size; simp at this; omega) _, ((((Blk.new w _ _).alloc _).alloc _).keep hB).alloc _, (((bump1 w _ _ _).alloc _).keep hB).alloc _, ((bump2 w _ _ _ _).keep hB).alloc _, Blk.new w1 _ _, by have := hB.size; simp at this; omega⟩
  have HP := Lib.hid hP
  clear hB hP
  unfold fv arr4
  go_wp2_with fail
  obtain ⟨gy, hgy⟩ : ∃ g, g = w1.heap.size := ⟨_, rfl⟩
  rw [← hgy] at HP ⊢
  clear hgy
  go_loopw [6] (fun i wr => ∃ k : Nat, k ≤ 256 ∧ i = .int .i64 ((k : Int) - 1) ∧ PW w wr gy X E (fe Mr (Wd ^ 4) (x ^ (E / 2 ^ k)))) (fun i _ => (intOf i + 1).toNat)
  case atStart => exact ⟨256, Nat.le_refl _, rfl, by
    have h := HP.out
    rw [Nat.div_eq_of_lt HE.out, Int.pow_zero]
    exact h⟩
  case round =>
    obtain ⟨k, hk, rfl, hW⟩ := hrel
    clear HP
    rcases Nat.eq_zero_or_pos k with rfl | hpos
    · have hz : E / 2 ^ 0 = E := by simp
      rw [hz] at hW
      have W1 := Lib.hid hW
      clear hW hz
      obtain ⟨⟨c0, c1, c2, c3, z0, z1, z2, z3⟩, x0, x1, x2, x3⟩ := W1.out.cells
      have f0 := W1.out.br.at_ (i := 0) (v := .int .u64 0) rfl
      have f1 := W1.out.br.at_ (i := 1) (v := .int .u64 0) rfl
      have f2 := W1.out.br.at_ (i := 2) (v := .int .u64 0) rfl
      have f3 := W1.out.br.at_ (i := 3) (v := .int .u64 0) rfl
      have y0 := W1.out.br.frozen 0
      have y1 := W1.out.br.frozen 1
      have y2 := W1.out.br.frozen 2
      have y3 := W1.out.br.frozen 3
      have j1 : decide ((0 : Int) ≤ ((0 : Nat) : Int) - 1) = false := by decide
      go_wp2_with fail
      refine bodyPost_ret (v := fv (x ^ E)) (by simp [fv, arr4, results, Tryd.results143, go_sem, f0, f1, f2, f3]) rfl ⟨rfl, ?_⟩
      exact (((W1.out.be.setCell (by simp; omega) _).setCell (by simp; omega) _).setCell (by simp; omega) _).setCell (by simp; omega) _
    · obtain ⟨m, rfl⟩ : ∃ m, k = m + 1 := ⟨k - 1, by omega⟩
      have e1 : ((m + 1 : Nat) : Int) - 1 = (m : Int) := by omega
      rw [e1]
      clear e1
      have hpb := pow_bit x E m
      have hbw := bit_words E m
      obtain ⟨p, hp⟩ : ∃ p, p = x ^ (E / 2 ^ (m + 1)) := ⟨_, rfl⟩
      rw [← hp] at hpb hW
      have hm4 : m / 64 < 4 := by omega
      obtain ⟨v, hv⟩ : ∃ v, v = wd (E : Int) (m / 64) := ⟨_, rfl⟩
      rw [← hv] at hbw
      have hbt := bit_test v (m % 64) (E / 2 ^ m % 2) (by rw [hv]; exact (wd_lo _ _).1) (by rw [hv]; exact (wd_lo _ _).2) hbw
      have HV := Lib.hid hv
      have HPB := Lib.hid hpb
      have HBW := Lib.hid hbw
      have W1 := Lib.hid hW
      have BT := Lib.hid hbt
      clear hW hp hv hpb hbw hbt
      obtain ⟨⟨c0, c1, c2, c3, z0, z1, z2, z3⟩, x0, x1, x2, x3⟩ := W1.out.cells
      obtain ⟨w0, hw0⟩ : ∃ W, W = wr := ⟨_, rfl⟩
      subst hw0
      go_wp2_with fail
      refine (fr_square p _ (HG.out.keep W1.out.be)).mono ?_
      rintro e w2 ⟨rfl, hB⟩
      have W2 := Lib.hid (W1.out.keep hB)
      clear hB c0 c1 c2 c3 z0 z1 z2 z3 x0 x1 x2 x3 W1
      obtain ⟨⟨c0, c1, c2, c3, z0, z1, z2, z3⟩, x0, x1, x2, x3⟩ := W2.out.cells
      have W3 := Lib.hid (W2.out.set_ (fe Mr (Wd ^ 4) (p * p)))
      unfold fv arr4
      go_upto_region 6 with fail
      obtain ⟨w3, hw3⟩ : ∃ W, W = (((w2.setCell ⟨gy, 0, none⟩ (.int .u64 (wd (fe Mr (Wd ^ 4) (p * p)) 0))).setCell ⟨gy, 1, none⟩ (.int .u64 (wd (fe Mr (Wd ^ 4) (p * p)) 1))).setCell ⟨gy, 2, none⟩ (.int .u64 (wd (fe Mr (Wd ^ 4) (p * p)) 2))).setCell ⟨gy, 3, none⟩ (.int .u64 (wd (fe Mr (Wd ^ 4) (p * p)) 3)) := ⟨_, rfl⟩
      rw [← hw3] at W3 ⊢
      clear hw3 W2 c0 c1 c2 c3 z0 z1 z2 z3 x0 x1 x2 x3
      obtain ⟨⟨c0, c1, c2, c3, z0, z1, z2, z3⟩, x0, x1, x2, x3⟩ := W3.out.cells
      have cE := W3.out.word (m / 64) hm4
      rw [← HV.out] at cE
      have i4 : (m : Int) / 64 < 4 := by omega
      rcases (by omega : E / 2 ^ m % 2 = 0 ∨ E / 2 ^ m % 2 = 1) with h2 | h2
      · have ht : (bits .and .u64 (v / 2 ^ (m % 64)) 1 == 1) = false := by rw [BT.out, h2]; rfl
        have hpp : x ^ (E / 2 ^ m) = p * p := by rw [HPB.out, h2, Int.pow_zero, Int.mul_one]
        have HPP := Lib.hid hpp
        clear h2 hpp
        go_wp2_with fail
        exact ⟨⟨m, by omega, rfl, by rw [HPP.out]; exact W3.out⟩, by simp [intOf]⟩
      · have ht : (bits .and .u64 (v / 2 ^ (m % 64)) 1 == 1) = true := by rw [BT.out, h2]; rfl
        have hpp : x ^ (E / 2 ^ m) = p * p * x := by rw [HPB.out, h2, Int.pow_succ, Int.pow_zero, Int.one_mul]
        have HPP := Lib.hid hpp
        clear h2 hpp
        have hmx := fr_mul (p * p) x
        unfold fv arr4 at hmx
        rw [← HX.out] at hmx
        have HMX := Lib.hid hmx
        clear hmx
        go_wp2_with fail
        refine (HMX.out _ (HG.out.keep W3.out.be)).mono ?_
        rintro e w4 ⟨rfl, hB⟩
        have W4 := Lib.hid (W3.out.keep hB)
        clear hB c0 c1 c2 c3 z0 z1 z2 z3 x0 x1 x2 x3 cE ht
        obtain ⟨⟨c0, c1, c2, c3, z0, z1, z2, z3⟩, x0, x1, x2, x3⟩ := W4.out.cells
        go_wp2_with fail
        exact ⟨⟨m, by omega, rfl, by rw [HPP.out]; exact W4.out.set_ _⟩, by simp [intOf]⟩
end Go.Proofs.YtclfmdaafpachaaDoor
