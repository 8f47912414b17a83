/-
  The values of the field of p and of the fields above it; the contracts of fp by elements of the field.
-/
import Derived.Test.YtclfmdaafpachaaDoorFlowC
import Derived.Test.YtclfmdaafpachaaDoorFld
import Derived.Test.YtclfmdaafpachaaDoorFpBased
import Derived.Test.YtclfmdaafpachaaDoorFpR
import Derived.Test.YtclfmdaafpachaaDoorFpQ
namespace Go.Proofs.YtclfmdaafpachaaDoor
set_option linter.unusedSimpArgs false
set_option linter.unusedVariables false
open Go.RowKit
theorem Mp_pn : Mp = (Pn : Int) := by unfold Mp Pn; rfl
/-- The element of a number. -/
def Fp.n (k : Int) : Fp := ⟨(k % Mp).toNat, by
  have := Mp_lo.1
  have h1 := Int.emod_nonneg k (show Mp ≠ 0 by omega)
  have h2 := Int.emod_lt_of_pos k Mp_lo.1
  have h3 := Mp_pn
  omega⟩
theorem Fp.n_val (k : Int) : ((Fp.n k).val : Int) = k % Mp := by
  have h1 := Int.emod_nonneg k (show Mp ≠ 0 by have := Mp_lo.1; omega)
  show ((k % Mp).toNat : Int) = _
  omega
theorem Fp.val_mod (x : Fp) : (x.val : Int) % Mp = x.val := by
  rw [Mp_pn]
  exact Int.emod_eq_of_lt (by omega) (by have := x.isLt; omega)
theorem Fp.n_of (x : Fp) : Fp.n x.val = x := by
  apply Fin.ext
  have := Fp.n_val x.val
  rw [Fp.val_mod] at this
  omega
theorem Fp.n_inj {a b : Int} : Fp.n a = Fp.n b ↔ a % Mp = b % Mp := by
  constructor
  · intro h; rw [← Fp.n_val, ← Fp.n_val, h]
  · intro h; apply Fin.ext; have h1 := Fp.n_val a; have h2 := Fp.n_val b; omega
theorem Fp.n_add (a b : Int) : Fp.n (a + b) = Fp.n a + Fp.n b := by
  apply Fin.ext
  have h := Fp.n_val (a + b)
  have e : ((Fp.n a + Fp.n b).val : Int) = (a % Mp + b % Mp) % Mp := by
    rw [Fin.val_add, Int.natCast_emod, Int.natCast_add, Fp.n_val, Fp.n_val, ← Mp_pn]
  rw [← Int.add_emod] at e
  omega
theorem Fp.n_mul (a b : Int) : Fp.n (a * b) = Fp.n a * Fp.n b := by
  apply Fin.ext
  have h := Fp.n_val (a * b)
  have e : ((Fp.n a * Fp.n b).val : Int) = (a % Mp * (b % Mp)) % Mp := by
    rw [Fin.val_mul, Int.natCast_emod, Int.natCast_mul, Fp.n_val, Fp.n_val, ← Mp_pn]
  rw [← Int.mul_emod] at e
  omega
theorem Fp.n_zero : Fp.n 0 = 0 := by
  apply Fin.ext
  have h := Fp.n_val 0
  show _ = 0
  simpa using h
theorem Fp.n_one : Fp.n 1 = 1 := by
  apply Fin.ext
  have h := Fp.n_val 1
  have e : (1 : Int) % Mp = 1 := by unfold Mp; rfl
  have e2 : (1 : Fp).val = 1 := by decide +kernel
  rw [e] at h
  omega
theorem Fp.n_neg (a : Int) : Fp.n (-a) = -Fp.n a := by
  have h := Fp.n_add a (-a)
  rw [Int.add_right_neg, Fp.n_zero] at h
  grind
theorem Fp.n_sub (a b : Int) : Fp.n (a - b) = Fp.n a - Fp.n b := by
  rw [Int.sub_eq_add_neg, Fp.n_add, Fp.n_neg]
  grind
theorem Fp.n_pow (a : Int) (k : Nat) : Fp.n (a ^ k) = pw (Fp.n a) k := by
  induction k with
  | zero => rw [Int.pow_zero]; exact Fp.n_one
  | succ k ih => rw [Int.pow_succ, Fp.n_mul, ih]; rfl
/-- The cells of an element. -/
def pc (x : Fp) : Array Value := (pv (x.val : Int)).cells
theorem pv_pc (x : Fp) : pv (x.val : Int) = .agg (pc x) := rfl
theorem pv_n (k : Int) : pv k = .agg (pc (Fp.n k)) := by
  rw [← pv_pc, Fp.n_val]
  exact pv_cast (Int.emod_emod_of_dvd _ (Int.dvd_refl _)).symm
theorem pc_size (x : Fp) : (pc x).size = 6 := rfl
theorem pc_one (x : Fp) : (pc x).all (·.oneCell') = true := by
  unfold pc pv arr6
  simp [Value.cells, Value.oneCell']
def c2 (x : F2) : Array Value := pc x.a ++ pc x.b
def c3 (x : C3) : Array Value := c2 x.a ++ (c2 x.b ++ c2 x.c)
def c12 (x : T12) : Array Value := c3 x.a ++ c3 x.b
theorem c2_size (x : F2) : (c2 x).size = 12 := by simp [c2, pc_size]
theorem c3_size (x : C3) : (c3 x).size = 36 := by simp [c3, c2_size]
theorem c12_size (x : T12) : (c12 x).size = 72 := by simp [c12, c3_size]
theorem c2_one (x : F2) : (c2 x).all (·.oneCell') = true := by simp only [c2, Array.all_append, pc_one]; rfl
theorem c3_one (x : C3) : (c3 x).all (·.oneCell') = true := by simp only [c3, Array.all_append, c2_one]; rfl
theorem c12_one (x : T12) : (c12 x).all (·.oneCell') = true := by simp only [c12, Array.all_append, c3_one]; rfl
theorem sl_2a (x : F2) (cs : Array Value) (o : Nat) (h : Sl cs o (c2 x)) : Sl cs o (pc x.a) := Sl.left h
theorem sl_2b (x : F2) (cs : Array Value) (o m : Nat) (h : Sl cs o (c2 x)) (hm : o + 6 = m) : Sl cs m (pc x.b) := Sl.right h 6 (pc_size _) m hm
theorem sl_3a (x : C3) (cs : Array Value) (o : Nat) (h : Sl cs o (c3 x)) : Sl cs o (c2 x.a) := Sl.left h
theorem sl_3b (x : C3) (cs : Array Value) (o m : Nat) (h : Sl cs o (c3 x)) (hm : o + 12 = m) : Sl cs m (c2 x.b) := Sl.left (Sl.right h 12 (c2_size _) m hm)
theorem sl_3c (x : C3) (cs : Array Value) (o m : Nat) (h : Sl cs o (c3 x)) (hm : o + 24 = m) : Sl cs m (c2 x.c) := Sl.right (Sl.right h 12 (c2_size _) (o + 12) rfl) 12 (c2_size _) m (by omega)
theorem sl_12a (x : T12) (cs : Array Value) (o : Nat) (h : Sl cs o (c12 x)) : Sl cs o (c3 x.a) := Sl.left h
theorem sl_12b (x : T12) (cs : Array Value) (o m : Nat) (h : Sl cs o (c12 x)) (hm : o + 36 = m) : Sl cs m (c3 x.b) := Sl.right h 36 (c3_size _) m hm
theorem hi_1 (x : Fp) : (Tryd.prog.info? 52).map (·.size) = some (pc x).size := by rw [pc_size]; kernel_rfl
theorem hi_2 (x : F2) : (Tryd.prog.info? 68).map (·.size) = some (c2 x).size := by rw [c2_size]; kernel_rfl
theorem hi_3 (x : C3) : (Tryd.prog.info? 93).map (·.size) = some (c3 x).size := by rw [c3_size]; kernel_rfl
theorem hi_12 (x : T12) : (Tryd.prog.info? 95).map (·.size) = some (c12 x).size := by rw [c12_size]; kernel_rfl
theorem pc_zero : pc 0 = (List.replicate 6 (Value.int .u64 0)).toArray := by
  have h := pv_zero
  have e : ((0 : Fp).val : Int) = 0 := rfl
  unfold pc
  rw [e, ← h, arr6_zero]
  rfl
theorem c2_zero : c2 0 = (List.replicate 12 (Value.int .u64 0)).toArray := by
  show pc 0 ++ pc 0 = _
  rw [pc_zero]; rfl
theorem c3_zero : c3 0 = (List.replicate 36 (Value.int .u64 0)).toArray := by
  show c2 0 ++ (c2 0 ++ c2 0) = _
  rw [c2_zero]; rfl
theorem c12_zero : c12 0 = (List.replicate 72 (Value.int .u64 0)).toArray := by
  show c3 0 ++ c3 0 = _
  rw [c3_zero]; rfl
/-- The variables of fp hold what they are given: the modulus, the square. -/
structure Glo (w : World) : Prop where
  m : GMp w
  s : GSqp w
theorem Glo.keep {w w' : World} (h : Glo w) (hb : Below w.heap.size w w') : Glo w' := ⟨h.m.keep hb, h.s.keep hb⟩
/-- A function returns v, and memory only grows. -/
def Rets (f : FuncId) (args : Array Value) (w : World) (v : Value) : Prop := Calls Tryd.prog f args w fun e w' => e = .returned v ∧ Below w.heap.size w w'
theorem v_add (x y : Fp) (w : World) (hG : Glo w) : Rets 52 #[.agg (pc x), .agg (pc y)] w (.agg (pc (x + y))) := by
  have h := fp_add x.val y.val w hG.m
  rwa [pv_n (_ + _), Fp.n_add, Fp.n_of, Fp.n_of, pv_pc, pv_pc] at h
theorem v_sub (x y : Fp) (w : World) (hG : Glo w) : Rets 53 #[.agg (pc x), .agg (pc y)] w (.agg (pc (x - y))) := by
  have h := fp_sub x.val y.val w hG.m
  rwa [pv_n (_ - _), Fp.n_sub, Fp.n_of, Fp.n_of, pv_pc, pv_pc] at h
theorem v_mul (x y : Fp) (w : World) (hG : Glo w) : Rets 54 #[.agg (pc x), .agg (pc y)] w (.agg (pc (x * y))) := by
  have h := fp_mul x.val y.val w hG.m
  rwa [pv_n (_ * _), Fp.n_mul, Fp.n_of, Fp.n_of, pv_pc, pv_pc] at h
theorem v_square (x : Fp) (w : World) (hG : Glo w) : Rets 55 #[.agg (pc x)] w (.agg (pc (x * x))) := by
  have h := fp_square x.val w hG.m
  rwa [pv_n (_ * _), Fp.n_mul, Fp.n_of, pv_pc] at h
theorem v_neg (x : Fp) (w : World) (hG : Glo w) : Rets 56 #[.agg (pc x)] w (.agg (pc (-x))) := by
  have h := fp_neg x.val w hG.m
  rwa [pv_n (- _), Fp.n_neg, Fp.n_of, pv_pc] at h
/-- 1/x; of 0 it is 0. -/
def Fp.inv (x : Fp) : Fp := pw x Ep
theorem v_inv (x : Fp) (w : World) (hG : Glo w) : Rets 136 #[.agg (pc x)] w (.agg (pc x.inv)) := by
  have h := fp_inv x.val w hG.m hG.s
  rwa [pv_n (_ ^ _), Fp.n_pow, Fp.n_of, pv_pc] at h
theorem v_of (k : Int) (w : World) (hG : Glo w) (h0 : 0 ≤ k) (hk : k < Wd) : Rets 46 #[.int .u64 k] w (.agg (pc (Fp.n k))) := by
  have h := fp_of k w hG.m hG.s h0 hk
  rwa [pv_n] at h
theorem Fp.zero_iff (x : Fp) : (x.val : Int) % Mp = 0 ↔ x = 0 := by
  rw [Fp.val_mod]
  constructor
  · intro h; apply Fin.ext; show x.val = 0; omega
  · intro h; rw [h]; rfl
theorem v_zero (x : Fp) (w : World) (_hG : Glo w) : Rets 48 #[.agg (pc x)] w (.bool (decide (x = 0))) := by
  have h := fp_zero x.val w
  rwa [decide_eq_decide.2 (Fp.zero_iff x), pv_pc] at h
theorem v_odd (x : Fp) (w : World) (hG : Glo w) : Rets 59 #[.agg (pc x)] w (.bool (decide (x.val % 2 = 1))) := by
  have h := fp_odd x.val w hG.m
  rw [Fp.val_mod] at h
  rwa [decide_eq_decide.2 (show (x.val : Int) % 2 = 1 ↔ x.val % 2 = 1 by omega), pv_pc] at h
theorem v_large (x : Fp) (w : World) (hG : Glo w) (hU : GUp w) : Rets 60 #[.agg (pc x)] w (.bool (decide (Up ≤ (x.val : Int)))) := by
  by_cases hu : Up ≤ (x.val : Int)
  · have h := fp_large_ge x.val w hG.m hU (by rw [Fp.val_mod]; exact hu)
    rwa [pv_pc, ← decide_eq_true hu] at h
  · have h := fp_large_lt x.val w hG.m hU (by rw [Fp.val_mod]; omega)
    rwa [pv_pc, ← decide_eq_false hu] at h
/-- The root that is tried. -/
def Fp.rt (x : Fp) : Fp := pw x Qp
theorem Fp.rt_iff (x : Fp) : (x.val : Int) ^ Qp * (x.val : Int) ^ Qp % Mp = (x.val : Int) % Mp ↔ x.rt * x.rt = x := by
  rw [← Fp.n_inj, Fp.n_mul, Fp.n_pow, Fp.n_of]
  rfl
theorem v_sqrt_yes (x : Fp) (w : World) (hG : Glo w) (hQ : GQp w) (h : x.rt * x.rt = x) : Rets 58 #[.agg (pc x)] w (.tuple #[.agg (pc x.rt), .bool true]) := by
  have h := fp_sqrt_yes x.val w hG.m hG.s hQ ((Fp.rt_iff x).2 h)
  rwa [pv_n (_ ^ _), Fp.n_pow, Fp.n_of, pv_pc] at h
theorem v_sqrt_no (x : Fp) (w : World) (hG : Glo w) (hQ : GQp w) (h : ¬ x.rt * x.rt = x) : Rets 58 #[.agg (pc x)] w (.tuple #[.agg (pc 0), .bool false]) := by
  have h := fp_sqrt_no x.val w hG.m hG.s hQ (fun e => h ((Fp.rt_iff x).1 e))
  rw [pv_pc] at h
  have e : (.agg (pc 0) : Value) = arr6 0 := by
    rw [← pv_pc]
    exact pv_zero.symm
  rwa [e]
theorem v_wide (A : Option Addr) (L c : Nat) (bs : List Int) (w : World) (hG : Glo w) (hH : GShp w) (hr : Reads w w.heap.size A L (bs.map (Value.int .u8))) (ho : Oct bs) (hLc : L ≤ c) (hc63 : c ≤ 9223372036854775807) :
    Rets 50 #[.slice A L c] w (.agg (pc (Fp.n (num bs)))) := by
  have h := fp_wide w hG.m hG.s hH A L c bs hr ho hLc hc63
  rwa [pv_n] at h
end Go.Proofs.YtclfmdaafpachaaDoor
