/-
  The statements of fp2: equality decided, long, the head.
-/
import Derived.Test.YtnebmgiajfbnaaaDoorFm
namespace Go.Proofs.YtnebmgiajfbnaaaDoor
set_option linter.unusedSimpArgs false
set_option linter.unusedVariables false
open Go.RowKit
theorem eq_1_t {x y : Fp} {d : Nat} (w : World) (h : x = y) : (Op.equalIn (d + 1 + 1 + 1) 27 (.agg (pc x)) (.agg (pc y))).run Tryd.prog w = .ok true w := by rw [eq_1, decide_eq_true h]
theorem eq_1_f {x y : Fp} {d : Nat} (w : World) (h : x ≠ y) : (Op.equalIn (d + 1 + 1 + 1) 27 (.agg (pc x)) (.agg (pc y))).run Tryd.prog w = .ok false w := by rw [eq_1, decide_eq_false h]
theorem eq_2_t {x y : F2} {d : Nat} (w : World) (h : x = y) : (Op.equalIn (d + 1 + 1 + 1 + 1) 36 (.agg (c2 x)) (.agg (c2 y))).run Tryd.prog w = .ok true w := by rw [eq_2, decide_eq_true h]
theorem eq_2_f {x y : F2} {d : Nat} (w : World) (h : x ≠ y) : (Op.equalIn (d + 1 + 1 + 1 + 1) 36 (.agg (c2 x)) (.agg (c2 y))).run Tryd.prog w = .ok false w := by rw [eq_2, decide_eq_false h]
section
variable {P : Program} {S : World → Prop}
theorem gives_eqlb {l : List (Nat × Value)} {dst : Option Tmp} {t ct ty : TypeId} {x y : Operand} {pos : String} {after : Array Edge} {gd : Option (Nat × Bool)} (a b : Bool) (hx : rho l x = .bool a) (hy : rho l y = .bool b)
    (ht : P.underlying t = some .bool) (h : a = b) : Gives P S (.bool true) (execOp (rho l) ⟨dst, .binOp .eql t x y ct, ty, pos, after, gd⟩) := gives_value _ fun w => by
  subst h
  have h' : (Op.equal t (.bool a) (.bool a)).run P w = .ok true w := by
    unfold Op.equal
    rw [show Op.maxDepth = 9999 + 1 from rfl, run_equalIn_bool w 9999 t a a ht]
    simp
  simp [execOp, hx, hy, eqGuard, binOp, h']
theorem gives_neqb {l : List (Nat × Value)} {dst : Option Tmp} {t ct ty : TypeId} {x y : Operand} {pos : String} {after : Array Edge} {gd : Option (Nat × Bool)} (a b : Bool) (hx : rho l x = .bool a) (hy : rho l y = .bool b)
    (ht : P.underlying t = some .bool) (r : Bool) (h : (a != b) = r) : Gives P S (.bool r) (execOp (rho l) ⟨dst, .binOp .neq t x y ct, ty, pos, after, gd⟩) := gives_value _ fun w => by
  have h' : (Op.equal t (.bool a) (.bool b)).run P w = .ok (a == b) w := by
    unfold Op.equal
    rw [show Op.maxDepth = 9999 + 1 from rfl, run_equalIn_bool w 9999 t a b ht]
  subst h
  simp [execOp, hx, hy, eqGuard, binOp, h']
  cases a <;> cases b <;> rfl
end
set_option maxRecDepth 100000 in
set_option maxHeartbeats 1000000 in
theorem long_no (A0 : Option Addr) (L0 c0 : Nat) (A1 : Option Addr) (L1 c1 : Nat) (A2 : Option Addr) (L2 c2 : Nat) (A3 : Option Addr) (L3 c3 : Nat) (w : World) (h0 : L0 ≤ 64) (h1 : L1 ≤ 64) (h2 : L2 ≤ 64) (h3 : L3 ≤ 64) :
    Rets 21 #[.slice A0 L0 c0, .slice A1 L1 c1, .slice A2 L2 c2, .slice A3 L3 c3] w (.bool false) := by
  unfold Rets
  have j0 : ¬ ((64 : Int) < L0) := by omega
  have j1 : ¬ ((64 : Int) < L1) := by omega
  have j2 : ¬ ((64 : Int) < L2) := by omega
  have j3 : ¬ ((64 : Int) < L3) := by omega
  clear h0 h1 h2 h3
  go_enter Tryd.func21, Tryd.ntmps21
  go_wp2_with fail
  go_ret
  exact ⟨rfl, Below.refl _ _⟩
set_option maxRecDepth 100000 in
set_option maxHeartbeats 1000000 in
theorem long_yes (A0 : Option Addr) (L0 c0 : Nat) (A1 : Option Addr) (L1 c1 : Nat) (A2 : Option Addr) (L2 c2 : Nat) (A3 : Option Addr) (L3 c3 : Nat) (w : World) (h : 64 < L0 ∨ 64 < L1 ∨ 64 < L2 ∨ 64 < L3) :
    Rets 21 #[.slice A0 L0 c0, .slice A1 L1 c1, .slice A2 L2 c2, .slice A3 L3 c3] w (.bool true) := by
  unfold Rets
  by_cases k0 : 64 < L0
  · have j0 : (64 : Int) < L0 := by omega
    clear h k0
    go_enter Tryd.func21, Tryd.ntmps21
    go_wp2_with fail
    go_ret
    exact ⟨rfl, Below.refl _ _⟩
  · have j0 : ¬ ((64 : Int) < L0) := by omega
    by_cases k1 : 64 < L1
    · have j1 : (64 : Int) < L1 := by omega
      clear h k0 k1
      go_enter Tryd.func21, Tryd.ntmps21
      go_wp2_with fail
      go_ret
      exact ⟨rfl, Below.refl _ _⟩
    · have j1 : ¬ ((64 : Int) < L1) := by omega
      by_cases k2 : 64 < L2
      · have j2 : (64 : Int) < L2 := by omega
        clear h k0 k1 k2
        go_enter Tryd.func21, Tryd.ntmps21
        go_wp2_with fail
        go_ret
        exact ⟨rfl, Below.refl _ _⟩
      · have j2 : ¬ ((64 : Int) < L2) := by omega
        have j3 : (64 : Int) < L3 := by omega
        clear h k0 k1 k2
        go_enter Tryd.func21, Tryd.ntmps21
        go_wp2_with fail
        go_ret
        exact ⟨rfl, Below.refl _ _⟩
attribute [local irreducible] wpL wpF fr Code.wp bodyPost
-- HEAD
theorem q_head_e0 {k0 : F2} (hk0 : k0 = F2.sm 1 0) : (k0) ≠ (0 : F2) := by
  subst hk0
  decide +kernel
theorem q_head_e1 {k0 : F2} (hk0 : k0 = F2.sm 1 0) {k1 : F2} (hk1 : k1 = F2.sm 0 1) : ((k1) * (k1)) = (-(k0)) := by
  subst hk0 hk1
  decide +kernel
theorem q_head_e2 {k2 : F2} (hk2 : k2 = F2.sm 1 2) {k3 : F2} (hk3 : k3 = F2.sm 3 1) {k4 : F2} (hk4 : k4 = F2.sm 1 7) : ((k2) * (k3)) = (k4) := by
  subst hk2 hk3 hk4
  decide +kernel
theorem q_head_e3 {k5 : F2} (hk5 : k5 = F2.sm 3 4) {k6 : Fp} (hk6 : k6 = Fp.n 25) : (F2.norm (k5)) = (k6) := by
  subst hk5 hk6
  decide +kernel
set_option maxRecDepth 100000 in
set_option maxHeartbeats 4000000 in
theorem q_head  (v : World) (hG : Glo0 v) : Rets 20 #[] v (.bool true) := by
  obtain ⟨k0, hk0⟩ : ∃ k : F2, k = F2.sm 1 0 := ⟨_, rfl⟩
  obtain ⟨k1, hk1⟩ : ∃ k : F2, k = F2.sm 0 1 := ⟨_, rfl⟩
  obtain ⟨k2, hk2⟩ : ∃ k : F2, k = F2.sm 1 2 := ⟨_, rfl⟩
  obtain ⟨k3, hk3⟩ : ∃ k : F2, k = F2.sm 3 1 := ⟨_, rfl⟩
  obtain ⟨k4, hk4⟩ : ∃ k : F2, k = F2.sm 1 7 := ⟨_, rfl⟩
  obtain ⟨k5, hk5⟩ : ∃ k : F2, k = F2.sm 3 4 := ⟨_, rfl⟩
  obtain ⟨k6, hk6⟩ : ∃ k : Fp, k = Fp.n 25 := ⟨_, rfl⟩
  refine calls_fr0 Tryd.func20 rfl (by rfl : _ = 24) ?_
  have hw := Hbl.nil v
  refine seq_plain hw [0] (by rfl) ?_
  refine L_val (.bool false) (by rfl) (by rfl) (gives_value _ fun _ => by rfl) ?_
  refine L_end ?_
  intro w1 hw1
  refine seq_plain hw1 [0, 1, 2, 3, 4, 5, 6, 7, 8, 9, 10, 11, 12, 13, 14, 15, 16, 17, 18, 19, 20, 21, 22, 23] (by rfl) ?_
  refine L_val (.agg (c2 (k0))) (by rfl) (by rfl) (gives_call (vl := [.int .u64 1, .int .u64 0]) (by kernel_rfl) (by rfl) (fun w h => by rw [hk0]; exact q_small _ _ w (hG.keep h.below) (by omega) (by simp only [Wd]; omega) (by omega) (by simp only [Wd]; omega))) ?_
  refine L_val (.agg (c2 (0 : F2))) (by rfl) (by rfl) (gb_fp2 [] trivial (by rfl) (c2 (0 : F2)) (by rfl)) ?_
  refine L_val (.bool true) (by rfl) (by rfl) (gives_neq (c2 (k0)) (c2 (0 : F2)) false (by rfl) (by rfl) (by kernel_rfl) (fun w => eq_2_f (d := 9996) w (q_head_e0 hk0))) ?_
  refine L_val (.bool true) (by rfl) (by rfl) (gives_value _ fun _ => by rfl) ?_
  refine L_val_g (dj := 4) (.agg (c2 (k1))) (by rfl) (by rfl) (by rfl) (by rfl) (by rfl) (gives_call (vl := [.int .u64 0, .int .u64 1]) (by kernel_rfl) (by rfl) (fun w h => by rw [hk1]; exact q_small _ _ w (hG.keep h.below) (by omega) (by simp only [Wd]; omega) (by omega) (by simp only [Wd]; omega))) ?_
  refine L_val_g (dj := 4) (.agg (c2 ((k1) * (k1)))) (by rfl) (by rfl) (by rfl) (by rfl) (by rfl) (gives_call (vl := [.agg (c2 (k1))]) (by kernel_rfl) (by rfl) (fun w h => q_square _ w (hG.keep h.below))) ?_
  refine L_val_g (dj := 4) (.agg (c2 (k0))) (by rfl) (by rfl) (by rfl) (by rfl) (by rfl) (gives_call (vl := [.int .u64 1, .int .u64 0]) (by kernel_rfl) (by rfl) (fun w h => by rw [hk0]; exact q_small _ _ w (hG.keep h.below) (by omega) (by simp only [Wd]; omega) (by omega) (by simp only [Wd]; omega))) ?_
  refine L_val_g (dj := 4) (.agg (c2 (-(k0)))) (by rfl) (by rfl) (by rfl) (by rfl) (by rfl) (gives_call (vl := [.agg (c2 (k0))]) (by kernel_rfl) (by rfl) (fun w h => q_neg _ w (hG.keep h.below))) ?_
  refine L_val_g (dj := 4) (.bool true) (by rfl) (by rfl) (by rfl) (by rfl) (by rfl) (gives_eql (c2 ((k1) * (k1))) (c2 (-(k0))) true (by rfl) (by rfl) (by kernel_rfl) (fun w => eq_2_t (d := 9996) w (q_head_e1 hk0 hk1))) ?_
  refine L_val (.bool true) (by rfl) (by rfl) (gives_value _ fun _ => by rfl) ?_
  refine L_val (.bool true) (by rfl) (by rfl) (gives_value _ fun _ => by rfl) ?_
  refine L_val_g (dj := 11) (.agg (c2 (k2))) (by rfl) (by rfl) (by rfl) (by rfl) (by rfl) (gives_call (vl := [.int .u64 1, .int .u64 2]) (by kernel_rfl) (by rfl) (fun w h => by rw [hk2]; exact q_small _ _ w (hG.keep h.below) (by omega) (by simp only [Wd]; omega) (by omega) (by simp only [Wd]; omega))) ?_
  refine L_val_g (dj := 11) (.agg (c2 (k3))) (by rfl) (by rfl) (by rfl) (by rfl) (by rfl) (gives_call (vl := [.int .u64 3, .int .u64 1]) (by kernel_rfl) (by rfl) (fun w h => by rw [hk3]; exact q_small _ _ w (hG.keep h.below) (by omega) (by simp only [Wd]; omega) (by omega) (by simp only [Wd]; omega))) ?_
  refine L_val_g (dj := 11) (.agg (c2 ((k2) * (k3)))) (by rfl) (by rfl) (by rfl) (by rfl) (by rfl) (gives_call (vl := [.agg (c2 (k2)), .agg (c2 (k3))]) (by kernel_rfl) (by rfl) (fun w h => q_mul _ _ w (hG.keep h.below))) ?_
  refine L_val_g (dj := 11) (.agg (c2 (k4))) (by rfl) (by rfl) (by rfl) (by rfl) (by rfl) (gives_call (vl := [.int .u64 1, .int .u64 7]) (by kernel_rfl) (by rfl) (fun w h => by rw [hk4]; exact q_small _ _ w (hG.keep h.below) (by omega) (by simp only [Wd]; omega) (by omega) (by simp only [Wd]; omega))) ?_
  refine L_val_g (dj := 11) (.bool true) (by rfl) (by rfl) (by rfl) (by rfl) (by rfl) (gives_eql (c2 ((k2) * (k3))) (c2 (k4)) true (by rfl) (by rfl) (by kernel_rfl) (fun w => eq_2_t (d := 9996) w (q_head_e2 hk2 hk3 hk4))) ?_
  refine L_val (.bool true) (by rfl) (by rfl) (gives_value _ fun _ => by rfl) ?_
  refine L_val (.bool true) (by rfl) (by rfl) (gives_value _ fun _ => by rfl) ?_
  refine L_val_g (dj := 18) (.agg (c2 (k5))) (by rfl) (by rfl) (by rfl) (by rfl) (by rfl) (gives_call (vl := [.int .u64 3, .int .u64 4]) (by kernel_rfl) (by rfl) (fun w h => by rw [hk5]; exact q_small _ _ w (hG.keep h.below) (by omega) (by simp only [Wd]; omega) (by omega) (by simp only [Wd]; omega))) ?_
  refine L_val_g (dj := 18) (.agg (pc (F2.norm (k5)))) (by rfl) (by rfl) (by rfl) (by rfl) (by rfl) (gives_call (vl := [.agg (c2 (k5))]) (by kernel_rfl) (by rfl) (fun w h => q_norm _ w (hG.keep h.below))) ?_
  refine L_val_g (dj := 18) (.agg (pc (k6))) (by rfl) (by rfl) (by rfl) (by rfl) (by rfl) (gives_call (vl := [.int .u64 25]) (by kernel_rfl) (by rfl) (fun w h => by rw [hk6]; exact v_of 25 w (hG.keep h.below) (by omega) (by simp only [Wd]; omega))) ?_
  refine L_val_g (dj := 18) (.bool true) (by rfl) (by rfl) (by rfl) (by rfl) (by rfl) (gives_eql (pc (F2.norm (k5))) (pc (k6)) true (by rfl) (by rfl) (by kernel_rfl) (fun w => eq_1_t (d := 9997) w (q_head_e3 hk5 hk6))) ?_
  refine L_val (.bool true) (by rfl) (by rfl) (gives_value _ fun _ => by rfl) ?_
  refine L_val (.bool true) (by rfl) (by rfl) (gives_value _ fun _ => by rfl) ?_
  refine L_end ?_
  intro w2 hw2
  refine wp_ret ?_
  change bodyPost _ _ _ Exit.ret _ _
  refine (ret_tmp (by rfl) (by rfl) (by rfl) ⟨?_, hw2.below⟩)
  exact rfl
end Go.Proofs.YtnebmgiajfbnaaaDoor
