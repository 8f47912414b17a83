/-
  TowerFrob: the walk.
-/
import Derived.Test.YtnebmgiajfbnaaaDoorTwN
namespace Go.Proofs.YtnebmgiajfbnaaaDoor
set_option linter.unusedSimpArgs false
set_option linter.unusedVariables false
open Go.RowKit
section
variable {K : Type} [Add K] [Sub K] [Neg K] [Mul K] [Zero K] [One K]
theorem tf1 (h : RG K) (x s r : K) : ((x * s) * r) = (x * (s * r)) := by
  have e := rg_eq0 h (rgl [x, s, r]) (.mul (.mul (.v 0) (.v 1)) (.v 2)) (.mul (.v 0) (.mul (.v 1) (.v 2))) (by decide +kernel)
  simp only [RE.ev] at e
  exact e
theorem tf2 (h : RG K) (x s r : K) : ((x * (s * s)) * (r * r)) = (x * ((s * r) * (s * r))) := by
  have e := rg_eq0 h (rgl [x, s, r]) (.mul (.mul (.v 0) (.mul (.v 1) (.v 1))) (.mul (.v 2) (.v 2))) (.mul (.v 0) (.mul (.mul (.v 1) (.v 2)) (.mul (.v 1) (.v 2)))) (by decide +kernel)
  simp only [RE.ev] at e
  exact e
theorem tf3 (h : RG K) (x s r : K) : ((x * ((s * s) * s)) * ((r * r) * r)) = (x * (((s * r) * (s * r)) * (s * r))) := by
  have e := rg_eq0 h (rgl [x, s, r]) (.mul (.mul (.v 0) (.mul (.mul (.v 1) (.v 1)) (.v 1))) (.mul (.mul (.v 2) (.v 2)) (.v 2))) (.mul (.v 0) (.mul (.mul (.mul (.v 1) (.v 2)) (.mul (.v 1) (.v 2))) (.mul (.v 1) (.v 2)))) (by decide +kernel)
  simp only [RE.ev] at e
  exact e
theorem tf4 (h : RG K) (x s r : K) : ((x * ((s * s) * (s * s))) * ((r * r) * (r * r))) = (x * (((s * r) * (s * r)) * ((s * r) * (s * r)))) := by
  have e := rg_eq0 h (rgl [x, s, r]) (.mul (.mul (.v 0) (.mul (.mul (.v 1) (.v 1)) (.mul (.v 1) (.v 1)))) (.mul (.mul (.v 2) (.v 2)) (.mul (.v 2) (.v 2)))) (.mul (.v 0) (.mul (.mul (.mul (.v 1) (.v 2)) (.mul (.v 1) (.v 2))) (.mul (.mul (.v 1) (.v 2)) (.mul (.v 1) (.v 2))))) (by decide +kernel)
  simp only [RE.ev] at e
  exact e
theorem tf5 (h : RG K) (x s r : K) : ((x * (((s * s) * (s * s)) * s)) * (((r * r) * (r * r)) * r)) = (x * ((((s * r) * (s * r)) * ((s * r) * (s * r))) * (s * r))) := by
  have e := rg_eq0 h (rgl [x, s, r]) (.mul (.mul (.v 0) (.mul (.mul (.mul (.v 1) (.v 1)) (.mul (.v 1) (.v 1))) (.v 1))) (.mul (.mul (.mul (.v 2) (.v 2)) (.mul (.v 2) (.v 2))) (.v 2))) (.mul (.v 0) (.mul (.mul (.mul (.mul (.v 1) (.v 2)) (.mul (.v 1) (.v 2))) (.mul (.mul (.v 1) (.v 2)) (.mul (.v 1) (.v 2)))) (.mul (.v 1) (.v 2)))) (by decide +kernel)
  simp only [RE.ev] at e
  exact e
theorem tg1 (h : RG K) (x n : K) : (((x * n) * n) * n) = (x * ((n * n) * n)) := by
  have e := rg_eq0 h (rgl [x, n]) (.mul (.mul (.mul (.v 0) (.v 1)) (.v 1)) (.v 1)) (.mul (.v 0) (.mul (.mul (.v 1) (.v 1)) (.v 1))) (by decide +kernel)
  simp only [RE.ev] at e
  exact e
theorem tg2 (h : RG K) (x n : K) : (((x * (n * n)) * (n * n)) * (n * n)) = (x * (((n * n) * n) * ((n * n) * n))) := by
  have e := rg_eq0 h (rgl [x, n]) (.mul (.mul (.mul (.v 0) (.mul (.v 1) (.v 1))) (.mul (.v 1) (.v 1))) (.mul (.v 1) (.v 1))) (.mul (.v 0) (.mul (.mul (.mul (.v 1) (.v 1)) (.v 1)) (.mul (.mul (.v 1) (.v 1)) (.v 1)))) (by decide +kernel)
  simp only [RE.ev] at e
  exact e
theorem tg4 (h : RG K) (x n : K) : (((x * ((n * n) * (n * n))) * ((n * n) * (n * n))) * ((n * n) * (n * n))) = (x * ((((n * n) * n) * ((n * n) * n)) * (((n * n) * n) * ((n * n) * n)))) := by
  have e := rg_eq0 h (rgl [x, n]) (.mul (.mul (.mul (.v 0) (.mul (.mul (.v 1) (.v 1)) (.mul (.v 1) (.v 1)))) (.mul (.mul (.v 1) (.v 1)) (.mul (.v 1) (.v 1)))) (.mul (.mul (.v 1) (.v 1)) (.mul (.v 1) (.v 1)))) (.mul (.v 0) (.mul (.mul (.mul (.mul (.v 1) (.v 1)) (.v 1)) (.mul (.mul (.v 1) (.v 1)) (.v 1))) (.mul (.mul (.mul (.v 1) (.v 1)) (.v 1)) (.mul (.mul (.v 1) (.v 1)) (.v 1))))) (by decide +kernel)
  simp only [RE.ev] at e
  exact e
theorem tg5 (h : RG K) (x n : K) : (((x * (((n * n) * (n * n)) * n)) * (((n * n) * (n * n)) * n)) * (((n * n) * (n * n)) * n)) = (x * (((((n * n) * n) * ((n * n) * n)) * (((n * n) * n) * ((n * n) * n))) * ((n * n) * n))) := by
  have e := rg_eq0 h (rgl [x, n]) (.mul (.mul (.mul (.v 0) (.mul (.mul (.mul (.v 1) (.v 1)) (.mul (.v 1) (.v 1))) (.v 1))) (.mul (.mul (.mul (.v 1) (.v 1)) (.mul (.v 1) (.v 1))) (.v 1))) (.mul (.mul (.mul (.v 1) (.v 1)) (.mul (.v 1) (.v 1))) (.v 1))) (.mul (.v 0) (.mul (.mul (.mul (.mul (.mul (.v 1) (.v 1)) (.v 1)) (.mul (.mul (.v 1) (.v 1)) (.v 1))) (.mul (.mul (.mul (.v 1) (.v 1)) (.v 1)) (.mul (.mul (.v 1) (.v 1)) (.v 1)))) (.mul (.mul (.v 1) (.v 1)) (.v 1)))) (by decide +kernel)
  simp only [RE.ev] at e
  exact e
theorem tgo (h : RG K) (x : K) : (x * ((-1) * (-1))) = x := by
  have e := rg_eq0 h (rgl [x]) (.mul (.v 0) (.mul (.neg .o) (.neg .o))) (.v 0) (by decide +kernel)
  simp only [RE.ev] at e
  exact e
theorem tgo4 (h : RG K) (x : K) : (x * (((-1) * (-1)) * ((-1) * (-1)))) = x := by
  have e := rg_eq0 h (rgl [x]) (.mul (.v 0) (.mul (.mul (.neg .o) (.neg .o)) (.mul (.neg .o) (.neg .o)))) (.v 0) (by decide +kernel)
  simp only [RE.ev] at e
  exact e
theorem tgn (h : RG K) (x : K) : (x * (-1)) = (-x) := by
  have e := rg_eq0 h (rgl [x]) (.mul (.v 0) (.neg .o)) (.neg (.v 0)) (by decide +kernel)
  simp only [RE.ev] at e
  exact e
theorem tgn3 (h : RG K) (x : K) : (((x * (-1)) * (-1)) * (-1)) = (-x) := by
  have e := rg_eq0 h (rgl [x]) (.mul (.mul (.mul (.v 0) (.neg .o)) (.neg .o)) (.neg .o)) (.neg (.v 0)) (by decide +kernel)
  simp only [RE.ev] at e
  exact e
theorem tgn5 (h : RG K) (x : K) : (x * ((((-1) * (-1)) * ((-1) * (-1))) * (-1))) = (-x) := by
  have e := rg_eq0 h (rgl [x]) (.mul (.v 0) (.mul (.mul (.mul (.neg .o) (.neg .o)) (.mul (.neg .o) (.neg .o))) (.neg .o))) (.neg (.v 0)) (by decide +kernel)
  simp only [RE.ev] at e
  exact e
end
theorem frob_at {k : Fp} (hk : k = Fp.n 1) : (b48c ((-(k)).val : Int))[0 + 47]? = some (Value.int .u8 170) := by
  rw [hk, b48c, ag8_at _ _ (by rw [lo_len]; omega)]
  have : gt (lo ((-(Fp.n 1)).val : Int) 48) (0 + 47) = 170 := by decide +kernel
  rw [this]
theorem frob_bytes {k : Fp} (hk : k = Fp.n 1) : (b48c ((-(k)).val : Int)).setIfInBounds (0 + (47)) (.int .u8 171) = ag8 (lo Mp 48) := by
  rw [hk, b48c, ag8_set]
  have : (lo ((-(Fp.n 1)).val : Int) 48).set (0 + 47) 171 = lo Mp 48 := by decide +kernel
  rw [this]
theorem blk_cast {w : World} {g : Nat} {t : TypeId} {cs cs' : Array Value} (e : cs = cs') (h : Blk w g t cs) : Blk w g t cs' := e ▸ h
theorem pw_congr {R : Type} [Mul R] [One R] (x : R) {m n : Nat} (h : m = n) : pw x m = pw x n := by rw [h]
theorem num_Mp : (num (lo Mp 48)).toNat = Pn := by decide +kernel
theorem frob_pow (x : T12) : pw x (num (lo Mp 48)).toNat = T12.frob F2.R x :=
  (pw_congr x num_Mp).trans (T12.pw_pn x)
theorem frob_mul (x y : T12) : T12.frob F2.R (x * y) = T12.frob F2.R x * T12.frob F2.R y := by
  rw [← frob_pow, ← frob_pow, ← frob_pow, mul_pw T12.cr]
theorem six_root {k1 : F2} (hk1 : k1 = F2.sm 1 0) {k2 : F2} (hk2 : k2 = F2.sm 1 1) : (((((((k1) * (F2.R)) * (F2.R)) * (F2.R)) * (F2.R)) * (F2.R)) * (F2.R)) * (k2) = F2.conj (k2) := by
  have h6 : pw F2.xi (6 * Pm) = F2.R * F2.R * F2.R * F2.R * F2.R * F2.R := by
    rw [Nat.mul_comm, pw_mul F2.cr, F2.R_eq]
    simp only [pw, F2.cr.one_mul]
  have h7 : pw F2.xi (6 * Pm + 1) = F2.conj F2.xi := (pw_congr F2.xi pm_six).symm.trans (F2.pw_pn F2.xi)
  rw [hk1, hk2, F2.sm10, F2.sm11, F2.cr.one_mul, ← h6, ← pw_succ, h7]
theorem F2.conj_mul (x y : F2) : (x * y).conj = x.conj * y.conj := by
  apply F2.same <;> simp only [F2.conj_a, F2.conj_b, F2.mul_a, F2.mul_b] <;> grind
theorem F2.conj_conj (x : F2) : x.conj.conj = x := by
  apply F2.same <;> simp only [F2.conj_a, F2.conj_b] <;> grind
theorem F2.root_three : F2.conj F2.R * F2.R * (F2.conj F2.R * F2.R) * (F2.conj F2.R * F2.R) = -1 := by
  rw [F2.R_is]
  apply F2.same <;> decide +kernel
/-- Twice the power of the modulus. -/
theorem frob_two (q : F2) (x : T12) (n : F2) (hn : F2.conj q * q = n) : T12.frob q (T12.frob q x) =
    T12.mk (C3.mk x.a.a (x.a.b * (n * n)) (x.a.c * (n * n * (n * n)))) (C3.mk (x.b.a * n) (x.b.b * (n * n * n)) (x.b.c * (n * n * (n * n) * n))) := by
  subst hn
  apply T12.same
  · apply C3.same
    · exact F2.conj_conj _
    · show F2.conj (F2.conj x.a.b * (q * q)) * (q * q) = _
      rw [F2.conj_mul, F2.conj_conj, F2.conj_mul]
      exact tf2 F2.rg _ _ _
    · show F2.conj (F2.conj x.a.c * (q * q * (q * q))) * (q * q * (q * q)) = _
      rw [F2.conj_mul, F2.conj_conj, F2.conj_mul, F2.conj_mul]
      exact tf4 F2.rg _ _ _
  · apply C3.same
    · show F2.conj (F2.conj x.b.a * q) * q = _
      rw [F2.conj_mul, F2.conj_conj]
      exact tf1 F2.rg _ _ _
    · show F2.conj (F2.conj x.b.b * (q * q * q)) * (q * q * q) = _
      rw [F2.conj_mul, F2.conj_conj, F2.conj_mul, F2.conj_mul]
      exact tf3 F2.rg _ _ _
    · show F2.conj (F2.conj x.b.c * (q * q * (q * q) * q)) * (q * q * (q * q) * q) = _
      rw [F2.conj_mul, F2.conj_conj, F2.conj_mul, F2.conj_mul, F2.conj_mul]
      exact tf5 F2.rg _ _ _
theorem frob_six (x : T12) : T12.frob F2.R (T12.frob F2.R (T12.frob F2.R (T12.frob F2.R (T12.frob F2.R (T12.frob F2.R (x)))))) = T12.conj (x) := by
  obtain ⟨n, hn⟩ : ∃ n, F2.conj F2.R * F2.R = n := ⟨_, rfl⟩
  have h3 := F2.root_three
  rw [hn] at h3
  rw [frob_two F2.R _ n hn, frob_two F2.R _ n hn, frob_two F2.R _ n hn]
  apply T12.same
  · apply C3.same
    · rfl
    · show x.a.b * (n * n) * (n * n) * (n * n) = x.a.b
      rw [tg2 F2.rg, h3, tgo F2.rg]
    · show x.a.c * (n * n * (n * n)) * (n * n * (n * n)) * (n * n * (n * n)) = x.a.c
      rw [tg4 F2.rg, h3, tgo4 F2.rg]
  · apply C3.same
    · show x.b.a * n * n * n = -x.b.a
      rw [tg1 F2.rg, h3, tgn F2.rg]
    · show x.b.b * (n * n * n) * (n * n * n) * (n * n * n) = -x.b.b
      rw [h3, tgn3 F2.rg]
    · show x.b.c * (n * n * (n * n) * n) * (n * n * (n * n) * n) * (n * n * (n * n) * n) = -x.b.c
      rw [tg5 F2.rg, h3, tgn5 F2.rg]
attribute [local irreducible] wpL wpF fr Code.wp bodyPost
set_option maxRecDepth 100000 in
set_option maxHeartbeats 4000000 in
theorem t_frobs_long (A0 : Option Addr) (L0 C0 : Nat) (bs0 : List Int) (A1 : Option Addr) (L1 C1 : Nat) (bs1 : List Int) (v : World) (hG : Glo v) (hr0 : Reads v v.heap.size A0 L0 (bs0.map (Value.int .u8))) (ho0 : Oct bs0) (hr1 : Reads v v.heap.size A1 L1 (bs1.map (Value.int .u8))) (ho1 : Oct bs1) (hlong : 2000 < L0 ∨ 2000 < L1) : Rets 8 #[.slice A0 L0 C0, .slice A1 L1 C1] v (.bool true) := by
  refine calls_fr2 Tryd.func8 rfl (by rfl : _ = 82) (by rfl) ?_
  have hw := Hbl.nil v
  refine seq_plain hw [0] (by rfl) ?_
  refine L_val (.bool false) (by rfl) (by rfl) (gives_value _ fun _ => by rfl) ?_
  refine L_end ?_
  intro w1 hw1
  refine wp_seq ?_
  refine seq_plain hw1 [0, 1] (by rfl) ?_
  refine L_val (.bool true) (by rfl) (by rfl) (gives_call (vl := []) (by kernel_rfl) (by rfl) (fun w h => t_head w (hG.keep h.below))) ?_
  refine L_val (.bool false) (by rfl) (by rfl) (gives_value _ fun _ => by rfl) ?_
  refine L_end ?_
  intro w2 hw2
  refine wp_cond_false (fr_at _ _ (by rfl) _) ?_
  refine wp_skip ?_
  change Code.wp _ _ _ _ _
  refine wp_seq ?_
  refine seq_plain hw2 [0, 1, 2] (by rfl) ?_
  refine L_val (.slice A0 L0 C0) (by rfl) (by rfl) (gives_value _ fun _ => by rfl) ?_
  refine L_val (.slice A1 L1 C1) (by rfl) (by rfl) (gives_value _ fun _ => by rfl) ?_
  refine L_val (.bool true) (by rfl) (by rfl) (gives_call (vl := [.slice A0 L0 C0, .slice A1 L1 C1]) (by kernel_rfl) (by rfl) (fun w h => tlong_yes _ _ _ _ _ _ w (by omega))) ?_
  refine L_end ?_
  intro w3 hw3
  refine wp_cond_true (fr_at _ _ (by rfl) _) ?_
  refine seq_plain hw3 [0] (by rfl) ?_
  refine L_val (.bool true) (by rfl) (by rfl) (gives_value _ fun _ => by rfl) ?_
  refine L_end ?_
  intro w4 hw4
  refine wp_ret ?_
  change bodyPost _ _ _ Exit.ret _ _
  refine (ret_tmp (by rfl) (by rfl) (by rfl) ⟨rfl, hw4.below⟩)
set_option maxRecDepth 100000 in
set_option maxHeartbeats 4000000 in
theorem t_frobs_short (A0 : Option Addr) (L0 C0 : Nat) (bs0 : List Int) (A1 : Option Addr) (L1 C1 : Nat) (bs1 : List Int) (v : World) (hG : Glo v) (hr0 : Reads v v.heap.size A0 L0 (bs0.map (Value.int .u8))) (ho0 : Oct bs0) (hr1 : Reads v v.heap.size A1 L1 (bs1.map (Value.int .u8))) (ho1 : Oct bs1) (hs0 : L0 ≤ 2000) (hs1 : L1 ≤ 2000) : Rets 8 #[.slice A0 L0 C0, .slice A1 L1 C1] v (.bool true) := by
  obtain ⟨k0, hk0⟩ : ∃ k : Fp, k = Fp.n 1 := ⟨_, rfl⟩
  obtain ⟨k1, hk1⟩ : ∃ k : F2, k = F2.sm 1 0 := ⟨_, rfl⟩
  obtain ⟨k2, hk2⟩ : ∃ k : F2, k = F2.sm 1 1 := ⟨_, rfl⟩
  refine calls_fr2 Tryd.func8 rfl (by rfl : _ = 82) (by rfl) ?_
  have hw := Hbl.nil v
  refine seq_plain hw [0] (by rfl) ?_
  refine L_val (.bool false) (by rfl) (by rfl) (gives_value _ fun _ => by rfl) ?_
  refine L_end ?_
  intro w1 hw1
  refine wp_seq ?_
  refine seq_plain hw1 [0, 1] (by rfl) ?_
  refine L_val (.bool true) (by rfl) (by rfl) (gives_call (vl := []) (by kernel_rfl) (by rfl) (fun w h => t_head w (hG.keep h.below))) ?_
  refine L_val (.bool false) (by rfl) (by rfl) (gives_value _ fun _ => by rfl) ?_
  refine L_end ?_
  intro w2 hw2
  refine wp_cond_false (fr_at _ _ (by rfl) _) ?_
  refine wp_skip ?_
  change Code.wp _ _ _ _ _
  refine wp_seq ?_
  refine seq_plain hw2 [0, 1, 2] (by rfl) ?_
  refine L_val (.slice A0 L0 C0) (by rfl) (by rfl) (gives_value _ fun _ => by rfl) ?_
  refine L_val (.slice A1 L1 C1) (by rfl) (by rfl) (gives_value _ fun _ => by rfl) ?_
  refine L_val (.bool false) (by rfl) (by rfl) (gives_call (vl := [.slice A0 L0 C0, .slice A1 L1 C1]) (by kernel_rfl) (by rfl) (fun w h => tlong_no _ _ _ _ _ _ w (by omega) (by omega))) ?_
  refine L_end ?_
  intro w3 hw3
  refine wp_cond_false (fr_at _ _ (by rfl) _) ?_
  refine wp_skip ?_
  change Code.wp _ _ _ _ _
  refine seq_plain hw3 [0, 1, 2, 3, 4, 5, 6, 7, 8] (by rfl) ?_
  refine L_val (.slice A0 L0 C0) (by rfl) (by rfl) (gives_value _ fun _ => by rfl) ?_
  refine L_callE (A := (Array Value)) (B := T12) (vl := [.slice A0 L0 C0]) (fun a b => .tuple #[.agg a, .agg (c12 b)]) (fun u _ => u.size = 12 ∧ u.all (·.oneCell') = true) (by rfl) (by rfl) Want.none (by kernel_rfl) (by rfl) (fun w h => number_any A0 L0 C0 bs0 w (hG.keep h.below) ((hr0.below h.below).more h.below.size) ho0 (by omega)) ?_; intro u_1 x_1 hu_1
  refine L_val (.tuple #[.agg u_1, .agg (c12 (x_1))]) (by rfl) (by rfl) (gives_value _ fun _ => by rfl) ?_
  refine L_val (.agg u_1) (by rfl) (by rfl) (gives_value _ fun _ => by kernel_rfl) ?_
  refine L_val (.agg (c12 (x_1))) (by rfl) (by rfl) (gives_value _ fun _ => by kernel_rfl) ?_
  refine L_alloc _ (by rfl) (by rfl) z_aN (joinA [#[.slice none 0 0, .slice none 0 0], #[.slice none 0 0, .slice none 0 0], #[.slice none 0 0, .slice none 0 0], #[.slice none 0 0, .slice none 0 0], #[.slice none 0 0, .slice none 0 0], #[.slice none 0 0, .slice none 0 0]]) rfl ?_; intro g1
  refine L_alloc _ (by rfl) (by rfl) z_12 (c12 (0 : T12)) rfl ?_; intro g2
  refine L_store (t := 47) 1 g1 (joinA [#[.slice none 0 0, .slice none 0 0], #[.slice none 0 0, .slice none 0 0], #[.slice none 0 0, .slice none 0 0], #[.slice none 0 0, .slice none 0 0], #[.slice none 0 0, .slice none 0 0], #[.slice none 0 0, .slice none 0 0]]) u_1 (by rfl) (by rfl) (by rfl) (by rfl) (by rfl) (hi_opN hu_1.1) ((joinC_size 2 _ (by simp)).trans hu_1.1.symm) hu_1.2 ?_
  simp only [List.set_cons_zero, List.set_cons_succ]
  refine L_store (t := 51) 0 g2 (c12 (0 : T12)) (c12 (x_1)) (by rfl) (by rfl) (by rfl) (by rfl) (by rfl) (hi_12 _) ((c12_size _).trans (c12_size _).symm) (c12_one _) ?_
  simp only [List.set_cons_zero, List.set_cons_succ]
  refine L_end ?_
  intro w4 hw4
  refine seq_plain hw4 [0, 1, 2, 3, 4, 5, 6, 7, 8] (by rfl) ?_
  refine L_val (.slice A1 L1 C1) (by rfl) (by rfl) (gives_value _ fun _ => by rfl) ?_
  refine L_callE (A := (Array Value)) (B := T12) (vl := [.slice A1 L1 C1]) (fun a b => .tuple #[.agg a, .agg (c12 b)]) (fun u _ => u.size = 12 ∧ u.all (·.oneCell') = true) (by rfl) (by rfl) Want.none (by kernel_rfl) (by rfl) (fun w h => number_any A1 L1 C1 bs1 w (hG.keep h.below) ((hr1.below h.below).more h.below.size) ho1 (by omega)) ?_; intro u_2 x_2 hu_2
  refine L_val (.tuple #[.agg u_2, .agg (c12 (x_2))]) (by rfl) (by rfl) (gives_value _ fun _ => by rfl) ?_
  refine L_val (.agg u_2) (by rfl) (by rfl) (gives_value _ fun _ => by kernel_rfl) ?_
  refine L_val (.agg (c12 (x_2))) (by rfl) (by rfl) (gives_value _ fun _ => by kernel_rfl) ?_
  refine L_alloc _ (by rfl) (by rfl) z_aN (joinA [#[.slice none 0 0, .slice none 0 0], #[.slice none 0 0, .slice none 0 0], #[.slice none 0 0, .slice none 0 0], #[.slice none 0 0, .slice none 0 0], #[.slice none 0 0, .slice none 0 0], #[.slice none 0 0, .slice none 0 0]]) rfl ?_; intro g3
  refine L_alloc _ (by rfl) (by rfl) z_12 (c12 (0 : T12)) rfl ?_; intro g4
  refine L_store (t := 47) 1 g3 (joinA [#[.slice none 0 0, .slice none 0 0], #[.slice none 0 0, .slice none 0 0], #[.slice none 0 0, .slice none 0 0], #[.slice none 0 0, .slice none 0 0], #[.slice none 0 0, .slice none 0 0], #[.slice none 0 0, .slice none 0 0]]) u_2 (by rfl) (by rfl) (by rfl) (by rfl) (by rfl) (hi_opN hu_2.1) ((joinC_size 2 _ (by simp)).trans hu_2.1.symm) hu_2.2 ?_
  simp only [List.set_cons_zero, List.set_cons_succ]
  refine L_store (t := 51) 0 g4 (c12 (0 : T12)) (c12 (x_2)) (by rfl) (by rfl) (by rfl) (by rfl) (by rfl) (hi_12 _) ((c12_size _).trans (c12_size _).symm) (c12_one _) ?_
  simp only [List.set_cons_zero, List.set_cons_succ]
  refine L_end ?_
  intro w5 hw5
  refine seq_plain hw5 [0, 1, 2, 3, 4] (by rfl) ?_
  refine L_val (.agg (pc (k0))) (by rfl) (by rfl) (gives_call (vl := [.int .u64 1]) (by kernel_rfl) (by rfl) (fun w h => by rw [hk0]; exact v_of 1 w (hG.keep h.below) (by omega) (by simp only [Wd]; omega))) ?_
  refine L_val (.agg (pc (-(k0)))) (by rfl) (by rfl) (gives_call (vl := [.agg (pc (k0))]) (by kernel_rfl) (by rfl) (fun w h => v_neg _ w (hG.keep h.below))) ?_
  refine L_val (.agg (b48c ((-(k0)).val : Int))) (by rfl) (by rfl) (gives_call (vl := [.agg (pc (-(k0)))]) (by kernel_rfl) (by rfl) (fun w h => v_bytes _ w (hG.keep h.below))) ?_
  refine L_alloc _ (by rfl) (by rfl) z_b48 (b48c (0 : Int)) rfl ?_; intro g5
  refine L_store (t := 59) 0 g5 (b48c (0 : Int)) (b48c ((-(k0)).val : Int)) (by rfl) (by rfl) (by rfl) (by rfl) (by rfl) (hi_b48 _) ((b48c_size _).trans (b48c_size _).symm) (b48c_one _) ?_
  simp only [List.set_cons_zero, List.set_cons_succ]
  refine L_end ?_
  intro w6 hw6
  refine seq_plain hw6 [0, 1] (by rfl) ?_
  refine L_val (.slice (some ⟨g5, 0, none⟩) 48 48) (by rfl) (by rfl) (gives_slice_arr g5 48 1 (by rfl) und_b48 u8_sz) ?_
  refine L_val (.slice (some ⟨g5, 0, none⟩) 48 48) (by rfl) (by rfl) (gives_value _ fun _ => by rfl) ?_
  refine L_end ?_
  intro w7 hw7
  refine seq_plain hw7 [0, 1, 2, 3, 4, 5] (by rfl) ?_
  refine L_val (.slice (some ⟨g5, 0, none⟩) 48 48) (by rfl) (by rfl) (gives_value _ fun _ => by rfl) ?_
  refine L_val (.pointer (some ⟨g5, 0 + (47), none⟩)) (by rfl) (by rfl) (gives_index g5 0 (48) (48) (47) (47) (by rfl) (by rfl) und_u8s u8_sz (by omega) (by omega)) ?_
  refine L_val (.int .u8 170) (by rfl) (by rfl) (gives_load1 g5 (0 + (47)) _ (b48c ((-(k0)).val : Int)) (.int .u8 170) (by rfl) (fun _ h => h.blk 0 (by rfl)) (frob_at hk0) und_u8') ?_
  refine L_val (.int .u8 171) (by rfl) (by rfl) (gives_add (k := .u8) 170 1 171 (by rfl) (by rfl) (by rfl)) ?_
  refine L_val (.pointer (some ⟨g5, 0 + (47), none⟩)) (by rfl) (by rfl) (gives_index g5 0 (48) (48) (47) (47) (by rfl) (by rfl) und_u8s u8_sz (by omega) (by omega)) ?_
  refine L_store1 0 g5 (0 + (47)) _ (b48c ((-(k0)).val : Int)) (.int .u8 171) (by rfl) (by rfl) (by rfl) (by rfl) rfl (by rfl) u8_sz (by rw [b48c_size]; decide) ?_
  simp only [List.set_cons_zero, List.set_cons_succ]
  refine L_end ?_
  intro w8 hw8
  refine wp_seq ?_
  refine seq_flow (by kernel_rfl) hw8 [] [(g5, 59, ((b48c ((-(k0)).val : Int)).setIfInBounds (0 + (47)) (.int .u8 171))), (g4, 51, (c12 (x_2))), (g3, 47, u_2), (g2, 51, (c12 (x_1))), (g1, 47, u_1)] 18 (by rfl) ?_
  refine flow_take (i := 0) (.agg (c12 (x_1))) (by rfl) (by kernel_rfl) (by kernel_rfl) (by kernel_rfl) (by rfl) (by kernel_rfl) (List.Sublist.refl _) (gives_load g2 0 51 (c12 (x_1)) (c12 (x_1)) _ (by rfl) (fun _ h => h.blk 3 (by rfl)) (Sl.refl _) Tryd.underlying51 (by rfl) (hi_12 _)) ?_
  refine flow_take (i := 1) (.slice (some ⟨g5, 0, none⟩) 48 48) (by rfl) (by kernel_rfl) (by kernel_rfl) (by kernel_rfl) (by rfl) (by kernel_rfl) (List.Sublist.refl _) (gives_value _ fun _ => by rfl) ?_
  refine flow_take (i := 2) (.agg (c12 (pw (x_1) (num (lo Mp 48)).toNat))) (by rfl) (by kernel_rfl) (by kernel_rfl) (by kernel_rfl) (by rfl) (by kernel_rfl) (List.Sublist.refl _) (gives_call (vl := [.agg (c12 (x_1)), .slice (some ⟨g5, 0, none⟩) 48 48]) (by kernel_rfl) (by rfl) (fun w h => t_power _ _ _ _ (lo Mp 48) w (hG.keep h.below) (copy_reads (blk_cast (frob_bytes hk0) (h.blk 0 (by rfl))) (lo_len _ _)) (lo_oct _ _) (by omega))) ?_
  refine flow_take (i := 3) (.agg (c12 (x_1))) (by rfl) (by kernel_rfl) (by kernel_rfl) (by kernel_rfl) (by rfl) (by kernel_rfl) (List.Sublist.refl _) (gives_load g2 0 51 (c12 (x_1)) (c12 (x_1)) _ (by rfl) (fun _ h => h.blk 3 (by rfl)) (Sl.refl _) Tryd.underlying51 (by rfl) (hi_12 _)) ?_
  refine flow_take (i := 4) (.agg (c12 (T12.frob F2.R (x_1)))) (by rfl) (by kernel_rfl) (by kernel_rfl) (by kernel_rfl) (by rfl) (by kernel_rfl) (List.Sublist.refl _) (gives_call (vl := [.agg (c12 (x_1))]) (by kernel_rfl) (by rfl) (fun w h => t_frob _ w (hG.keep h.below))) ?_
  refine flow_take (i := 5) (.bool false) (by rfl) (by kernel_rfl) (by kernel_rfl) (by kernel_rfl) (by rfl) (by kernel_rfl) (List.Sublist.refl _) (gives_neq (c12 (pw (x_1) (num (lo Mp 48)).toNat)) (c12 (T12.frob F2.R (x_1))) true (by rfl) (by rfl) (by kernel_rfl) (fun w => eq_12_t (d := 9994) w (frob_pow _))) ?_
  refine flow_take (i := 6) (.bool false) (by rfl) (by kernel_rfl) (by kernel_rfl) (by kernel_rfl) (by rfl) (by kernel_rfl) (List.Sublist.refl _) (gives_value _ fun _ => by rfl) ?_
  refine flow_take_g (i := 7) (dj := 45) (.agg (c12 (x_1))) (by rfl) (by kernel_rfl) (by kernel_rfl) (by kernel_rfl) (by rfl) (by kernel_rfl) (List.Sublist.refl _) (by rfl) (by rfl) (by rfl) (gives_load g2 0 51 (c12 (x_1)) (c12 (x_1)) _ (by rfl) (fun _ h => h.blk 3 (by rfl)) (Sl.refl _) Tryd.underlying51 (by rfl) (hi_12 _)) ?_
  refine flow_take_g (i := 8) (dj := 45) (.agg (c12 (x_2))) (by rfl) (by kernel_rfl) (by kernel_rfl) (by kernel_rfl) (by rfl) (by kernel_rfl) (List.Sublist.refl _) (by rfl) (by rfl) (by rfl) (gives_load g4 0 51 (c12 (x_2)) (c12 (x_2)) _ (by rfl) (fun _ h => h.blk 1 (by rfl)) (Sl.refl _) Tryd.underlying51 (by rfl) (hi_12 _)) ?_
  refine flow_take_g (i := 9) (dj := 45) (.agg (c12 ((x_1) * (x_2)))) (by rfl) (by kernel_rfl) (by kernel_rfl) (by kernel_rfl) (by rfl) (by kernel_rfl) (List.Sublist.refl _) (by rfl) (by rfl) (by rfl) (gives_call (vl := [.agg (c12 (x_1)), .agg (c12 (x_2))]) (by kernel_rfl) (by rfl) (fun w h => t_mul _ _ w (hG.keep h.below))) ?_
  refine flow_take_g (i := 10) (dj := 45) (.agg (c12 (T12.frob F2.R ((x_1) * (x_2))))) (by rfl) (by kernel_rfl) (by kernel_rfl) (by kernel_rfl) (by rfl) (by kernel_rfl) (List.Sublist.refl _) (by rfl) (by rfl) (by rfl) (gives_call (vl := [.agg (c12 ((x_1) * (x_2)))]) (by kernel_rfl) (by rfl) (fun w h => t_frob _ w (hG.keep h.below))) ?_
  refine flow_take_g (i := 11) (dj := 45) (.agg (c12 (x_1))) (by rfl) (by kernel_rfl) (by kernel_rfl) (by kernel_rfl) (by rfl) (by kernel_rfl) (List.Sublist.refl _) (by rfl) (by rfl) (by rfl) (gives_load g2 0 51 (c12 (x_1)) (c12 (x_1)) _ (by rfl) (fun _ h => h.blk 3 (by rfl)) (Sl.refl _) Tryd.underlying51 (by rfl) (hi_12 _)) ?_
  refine flow_take_g (i := 12) (dj := 45) (.agg (c12 (T12.frob F2.R (x_1)))) (by rfl) (by kernel_rfl) (by kernel_rfl) (by kernel_rfl) (by rfl) (by kernel_rfl) (List.Sublist.refl _) (by rfl) (by rfl) (by rfl) (gives_call (vl := [.agg (c12 (x_1))]) (by kernel_rfl) (by rfl) (fun w h => t_frob _ w (hG.keep h.below))) ?_
  refine flow_take_g (i := 13) (dj := 45) (.agg (c12 (x_2))) (by rfl) (by kernel_rfl) (by kernel_rfl) (by kernel_rfl) (by rfl) (by kernel_rfl) (List.Sublist.refl _) (by rfl) (by rfl) (by rfl) (gives_load g4 0 51 (c12 (x_2)) (c12 (x_2)) _ (by rfl) (fun _ h => h.blk 1 (by rfl)) (Sl.refl _) Tryd.underlying51 (by rfl) (hi_12 _)) ?_
  refine flow_take_g (i := 14) (dj := 45) (.agg (c12 (T12.frob F2.R (x_2)))) (by rfl) (by kernel_rfl) (by kernel_rfl) (by kernel_rfl) (by rfl) (by kernel_rfl) (List.Sublist.refl _) (by rfl) (by rfl) (by rfl) (gives_call (vl := [.agg (c12 (x_2))]) (by kernel_rfl) (by rfl) (fun w h => t_frob _ w (hG.keep h.below))) ?_
  refine flow_take_g (i := 15) (dj := 45) (.agg (c12 ((T12.frob F2.R (x_1)) * (T12.frob F2.R (x_2))))) (by rfl) (by kernel_rfl) (by kernel_rfl) (by kernel_rfl) (by rfl) (by kernel_rfl) (List.Sublist.refl _) (by rfl) (by rfl) (by rfl) (gives_call (vl := [.agg (c12 (T12.frob F2.R (x_1))), .agg (c12 (T12.frob F2.R (x_2)))]) (by kernel_rfl) (by rfl) (fun w h => t_mul _ _ w (hG.keep h.below))) ?_
  refine flow_take_g (i := 16) (dj := 45) (.bool false) (by rfl) (by kernel_rfl) (by kernel_rfl) (by kernel_rfl) (by rfl) (by kernel_rfl) (List.Sublist.refl _) (by rfl) (by rfl) (by rfl) (gives_neq (c12 (T12.frob F2.R ((x_1) * (x_2)))) (c12 ((T12.frob F2.R (x_1)) * (T12.frob F2.R (x_2)))) true (by rfl) (by rfl) (by kernel_rfl) (fun w => eq_12_t (d := 9994) w (frob_mul _ _))) ?_
  refine flow_take (i := 17) (.bool false) (by rfl) (by kernel_rfl) (by kernel_rfl) (by kernel_rfl) (by rfl) (by kernel_rfl) (List.Sublist.refl _) (gives_value _ fun _ => by rfl) ?_
  refine flow_done (by kernel_rfl) ?_
  intro w9 hw9
  refine wp_cond_false (fr_at _ _ (by rfl) _) ?_
  refine wp_skip ?_
  change Code.wp _ _ _ _ _
  refine seq_plain hw9 [0, 1, 2] (by rfl) ?_
  refine L_val (.agg (c2 (k1))) (by rfl) (by rfl) (gives_call (vl := [.int .u64 1, .int .u64 0]) (by kernel_rfl) (by rfl) (fun w h => by rw [hk1]; exact q_small _ _ w (hG.keep h.below) (by omega) (by simp only [Wd]; omega) (by omega) (by simp only [Wd]; omega))) ?_
  refine L_alloc _ (by rfl) (by rfl) z_2 (c2 (0 : F2)) rfl ?_; intro g6
  refine L_store (t := 36) 0 g6 (c2 (0 : F2)) (c2 (k1)) (by rfl) (by rfl) (by rfl) (by rfl) (by rfl) (hi_2 _) ((c2_size _).trans (c2_size _).symm) (c2_one _) ?_
  simp only [List.set_cons_zero, List.set_cons_succ]
  refine L_end ?_
  intro w10 hw10
  refine wp_seq ?_
  refine seq_plain hw10 [0] (by rfl) ?_
  refine L_val (.int .i64 0) (by rfl) (by rfl) (gives_value _ fun _ => by rfl) ?_
  refine L_end ?_
  intro w11 hw11
  refine wp_block ?_
  refine rounds_first 6 ?_
  refine wp_seq ?_
  refine seq_plain hw11 [0, 1] (by rfl) ?_
  refine L_val (.int .i64 0) (by rfl) (by rfl) (gives_value _ fun _ => by rfl) ?_
  refine L_val (.bool true) (by rfl) (by rfl) (gives_lss (k := .i64) 0 6 true (by rfl) (by rfl) (by rfl)) ?_
  refine L_end ?_
  intro w12 hw12
  refine wp_cond_true (fr_at _ _ (by rfl) _) ?_
  refine wp_skip ?_
  change Code.wp _ _ _ _ _
  refine wp_seq ?_
  refine wp_block ?_
  refine one_flow (by kernel_rfl) hw12 [3] [(g6, 36, (c2 (k1))), (g5, 59, ((b48c ((-(k0)).val : Int)).setIfInBounds (0 + (47)) (.int .u8 171))), (g4, 51, (c12 (x_2))), (g3, 47, u_2), (g2, 51, (c12 (x_1))), (g1, 47, u_1)] 4 (by rfl) ?_
  refine flow_take (i := 0) (.agg (c2 (k1))) (by rfl) (by kernel_rfl) (by kernel_rfl) (by kernel_rfl) (by rfl) (by kernel_rfl) (List.Sublist.refl _) (gives_load g6 0 36 (c2 (k1)) (c2 (k1)) _ (by rfl) (fun _ h => h.blk 0 (by rfl)) (Sl.refl _) Tryd.underlying36 (by rfl) (hi_2 _)) ?_
  refine flow_take (i := 1) (.agg (c2 (F2.R))) (by rfl) (by kernel_rfl) (by kernel_rfl) (by kernel_rfl) (by rfl) (by kernel_rfl) (List.Sublist.refl _) (gives_call (vl := []) (by kernel_rfl) (by rfl) (fun w h => t_root w (hG.keep h.below))) ?_
  refine flow_take (i := 2) (.agg (c2 ((k1) * (F2.R)))) (by rfl) (by kernel_rfl) (by kernel_rfl) (by kernel_rfl) (by rfl) (by kernel_rfl) (List.Sublist.refl _) (gives_call (vl := [.agg (c2 (k1)), .agg (c2 (F2.R))]) (by kernel_rfl) (by rfl) (fun w h => q_mul _ _ w (hG.keep h.below))) ?_
  refine flow_one 3 (by kernel_rfl) ?_
  refine F_store (t := 36) 0 g6 (c2 (k1)) (c2 ((k1) * (F2.R))) (by rfl) (by rfl) (by rfl) (by rfl) (by rfl) (hi_2 _) ((c2_size _).trans (c2_size _).symm) (c2_one _) (.inl (by decide)) ?_
  simp only [List.set_cons_zero, List.set_cons_succ]
  refine flow_done (by kernel_rfl) ?_
  intro w13 hw13
  change Code.wp _ _ _ _ _
  refine one_plain hw13 [0, 1, 2] (by rfl) ?_
  refine L_val (.int .i64 0) (by rfl) (by rfl) (gives_value _ fun _ => by rfl) ?_
  refine L_val (.int .i64 1) (by rfl) (by rfl) (gives_add (k := .i64) 0 1 1 (by rfl) (by rfl) (by rfl)) ?_
  refine L_val (.int .i64 1) (by rfl) (by rfl) (gives_value _ fun _ => by rfl) ?_
  refine L_end ?_
  intro w14 hw14
  refine rounds_next ?_
  refine wp_seq ?_
  refine seq_plain hw14 [0, 1] (by rfl) ?_
  refine L_val (.int .i64 1) (by rfl) (by rfl) (gives_value _ fun _ => by rfl) ?_
  refine L_val (.bool true) (by rfl) (by rfl) (gives_lss (k := .i64) 1 6 true (by rfl) (by rfl) (by rfl)) ?_
  refine L_end ?_
  intro w15 hw15
  refine wp_cond_true (fr_at _ _ (by rfl) _) ?_
  refine wp_skip ?_
  change Code.wp _ _ _ _ _
  refine wp_seq ?_
  refine wp_block ?_
  refine one_flow (by kernel_rfl) hw15 [3] [(g6, 36, (c2 ((k1) * (F2.R)))), (g5, 59, ((b48c ((-(k0)).val : Int)).setIfInBounds (0 + (47)) (.int .u8 171))), (g4, 51, (c12 (x_2))), (g3, 47, u_2), (g2, 51, (c12 (x_1))), (g1, 47, u_1)] 4 (by rfl) ?_
  refine flow_take (i := 0) (.agg (c2 ((k1) * (F2.R)))) (by rfl) (by kernel_rfl) (by kernel_rfl) (by kernel_rfl) (by rfl) (by kernel_rfl) (List.Sublist.refl _) (gives_load g6 0 36 (c2 ((k1) * (F2.R))) (c2 ((k1) * (F2.R))) _ (by rfl) (fun _ h => h.blk 0 (by rfl)) (Sl.refl _) Tryd.underlying36 (by rfl) (hi_2 _)) ?_
  refine flow_take (i := 1) (.agg (c2 (F2.R))) (by rfl) (by kernel_rfl) (by kernel_rfl) (by kernel_rfl) (by rfl) (by kernel_rfl) (List.Sublist.refl _) (gives_call (vl := []) (by kernel_rfl) (by rfl) (fun w h => t_root w (hG.keep h.below))) ?_
  refine flow_take (i := 2) (.agg (c2 (((k1) * (F2.R)) * (F2.R)))) (by rfl) (by kernel_rfl) (by kernel_rfl) (by kernel_rfl) (by rfl) (by kernel_rfl) (List.Sublist.refl _) (gives_call (vl := [.agg (c2 ((k1) * (F2.R))), .agg (c2 (F2.R))]) (by kernel_rfl) (by rfl) (fun w h => q_mul _ _ w (hG.keep h.below))) ?_
  refine flow_one 3 (by kernel_rfl) ?_
  refine F_store (t := 36) 0 g6 (c2 ((k1) * (F2.R))) (c2 (((k1) * (F2.R)) * (F2.R))) (by rfl) (by rfl) (by rfl) (by rfl) (by rfl) (hi_2 _) ((c2_size _).trans (c2_size _).symm) (c2_one _) (.inl (by decide)) ?_
  simp only [List.set_cons_zero, List.set_cons_succ]
  refine flow_done (by kernel_rfl) ?_
  intro w16 hw16
  change Code.wp _ _ _ _ _
  refine one_plain hw16 [0, 1, 2] (by rfl) ?_
  refine L_val (.int .i64 1) (by rfl) (by rfl) (gives_value _ fun _ => by rfl) ?_
  refine L_val (.int .i64 2) (by rfl) (by rfl) (gives_add (k := .i64) 1 1 2 (by rfl) (by rfl) (by rfl)) ?_
  refine L_val (.int .i64 2) (by rfl) (by rfl) (gives_value _ fun _ => by rfl) ?_
  refine L_end ?_
  intro w17 hw17
  refine rounds_next ?_
  refine wp_seq ?_
  refine seq_plain hw17 [0, 1] (by rfl) ?_
  refine L_val (.int .i64 2) (by rfl) (by rfl) (gives_value _ fun _ => by rfl) ?_
  refine L_val (.bool true) (by rfl) (by rfl) (gives_lss (k := .i64) 2 6 true (by rfl) (by rfl) (by rfl)) ?_
  refine L_end ?_
  intro w18 hw18
  refine wp_cond_true (fr_at _ _ (by rfl) _) ?_
  refine wp_skip ?_
  change Code.wp _ _ _ _ _
  refine wp_seq ?_
  refine wp_block ?_
  refine one_flow (by kernel_rfl) hw18 [3] [(g6, 36, (c2 (((k1) * (F2.R)) * (F2.R)))), (g5, 59, ((b48c ((-(k0)).val : Int)).setIfInBounds (0 + (47)) (.int .u8 171))), (g4, 51, (c12 (x_2))), (g3, 47, u_2), (g2, 51, (c12 (x_1))), (g1, 47, u_1)] 4 (by rfl) ?_
  refine flow_take (i := 0) (.agg (c2 (((k1) * (F2.R)) * (F2.R)))) (by rfl) (by kernel_rfl) (by kernel_rfl) (by kernel_rfl) (by rfl) (by kernel_rfl) (List.Sublist.refl _) (gives_load g6 0 36 (c2 (((k1) * (F2.R)) * (F2.R))) (c2 (((k1) * (F2.R)) * (F2.R))) _ (by rfl) (fun _ h => h.blk 0 (by rfl)) (Sl.refl _) Tryd.underlying36 (by rfl) (hi_2 _)) ?_
  refine flow_take (i := 1) (.agg (c2 (F2.R))) (by rfl) (by kernel_rfl) (by kernel_rfl) (by kernel_rfl) (by rfl) (by kernel_rfl) (List.Sublist.refl _) (gives_call (vl := []) (by kernel_rfl) (by rfl) (fun w h => t_root w (hG.keep h.below))) ?_
  refine flow_take (i := 2) (.agg (c2 ((((k1) * (F2.R)) * (F2.R)) * (F2.R)))) (by rfl) (by kernel_rfl) (by kernel_rfl) (by kernel_rfl) (by rfl) (by kernel_rfl) (List.Sublist.refl _) (gives_call (vl := [.agg (c2 (((k1) * (F2.R)) * (F2.R))), .agg (c2 (F2.R))]) (by kernel_rfl) (by rfl) (fun w h => q_mul _ _ w (hG.keep h.below))) ?_
  refine flow_one 3 (by kernel_rfl) ?_
  refine F_store (t := 36) 0 g6 (c2 (((k1) * (F2.R)) * (F2.R))) (c2 ((((k1) * (F2.R)) * (F2.R)) * (F2.R))) (by rfl) (by rfl) (by rfl) (by rfl) (by rfl) (hi_2 _) ((c2_size _).trans (c2_size _).symm) (c2_one _) (.inl (by decide)) ?_
  simp only [List.set_cons_zero, List.set_cons_succ]
  refine flow_done (by kernel_rfl) ?_
  intro w19 hw19
  change Code.wp _ _ _ _ _
  refine one_plain hw19 [0, 1, 2] (by rfl) ?_
  refine L_val (.int .i64 2) (by rfl) (by rfl) (gives_value _ fun _ => by rfl) ?_
  refine L_val (.int .i64 3) (by rfl) (by rfl) (gives_add (k := .i64) 2 1 3 (by rfl) (by rfl) (by rfl)) ?_
  refine L_val (.int .i64 3) (by rfl) (by rfl) (gives_value _ fun _ => by rfl) ?_
  refine L_end ?_
  intro w20 hw20
  refine rounds_next ?_
  refine wp_seq ?_
  refine seq_plain hw20 [0, 1] (by rfl) ?_
  refine L_val (.int .i64 3) (by rfl) (by rfl) (gives_value _ fun _ => by rfl) ?_
  refine L_val (.bool true) (by rfl) (by rfl) (gives_lss (k := .i64) 3 6 true (by rfl) (by rfl) (by rfl)) ?_
  refine L_end ?_
  intro w21 hw21
  refine wp_cond_true (fr_at _ _ (by rfl) _) ?_
  refine wp_skip ?_
  change Code.wp _ _ _ _ _
  refine wp_seq ?_
  refine wp_block ?_
  refine one_flow (by kernel_rfl) hw21 [3] [(g6, 36, (c2 ((((k1) * (F2.R)) * (F2.R)) * (F2.R)))), (g5, 59, ((b48c ((-(k0)).val : Int)).setIfInBounds (0 + (47)) (.int .u8 171))), (g4, 51, (c12 (x_2))), (g3, 47, u_2), (g2, 51, (c12 (x_1))), (g1, 47, u_1)] 4 (by rfl) ?_
  refine flow_take (i := 0) (.agg (c2 ((((k1) * (F2.R)) * (F2.R)) * (F2.R)))) (by rfl) (by kernel_rfl) (by kernel_rfl) (by kernel_rfl) (by rfl) (by kernel_rfl) (List.Sublist.refl _) (gives_load g6 0 36 (c2 ((((k1) * (F2.R)) * (F2.R)) * (F2.R))) (c2 ((((k1) * (F2.R)) * (F2.R)) * (F2.R))) _ (by rfl) (fun _ h => h.blk 0 (by rfl)) (Sl.refl _) Tryd.underlying36 (by rfl) (hi_2 _)) ?_
  refine flow_take (i := 1) (.agg (c2 (F2.R))) (by rfl) (by kernel_rfl) (by kernel_rfl) (by kernel_rfl) (by rfl) (by kernel_rfl) (List.Sublist.refl _) (gives_call (vl := []) (by kernel_rfl) (by rfl) (fun w h => t_root w (hG.keep h.below))) ?_
  refine flow_take (i := 2) (.agg (c2 (((((k1) * (F2.R)) * (F2.R)) * (F2.R)) * (F2.R)))) (by rfl) (by kernel_rfl) (by kernel_rfl) (by kernel_rfl) (by rfl) (by kernel_rfl) (List.Sublist.refl _) (gives_call (vl := [.agg (c2 ((((k1) * (F2.R)) * (F2.R)) * (F2.R))), .agg (c2 (F2.R))]) (by kernel_rfl) (by rfl) (fun w h => q_mul _ _ w (hG.keep h.below))) ?_
  refine flow_one 3 (by kernel_rfl) ?_
  refine F_store (t := 36) 0 g6 (c2 ((((k1) * (F2.R)) * (F2.R)) * (F2.R))) (c2 (((((k1) * (F2.R)) * (F2.R)) * (F2.R)) * (F2.R))) (by rfl) (by rfl) (by rfl) (by rfl) (by rfl) (hi_2 _) ((c2_size _).trans (c2_size _).symm) (c2_one _) (.inl (by decide)) ?_
  simp only [List.set_cons_zero, List.set_cons_succ]
  refine flow_done (by kernel_rfl) ?_
  intro w22 hw22
  change Code.wp _ _ _ _ _
  refine one_plain hw22 [0, 1, 2] (by rfl) ?_
  refine L_val (.int .i64 3) (by rfl) (by rfl) (gives_value _ fun _ => by rfl) ?_
  refine L_val (.int .i64 4) (by rfl) (by rfl) (gives_add (k := .i64) 3 1 4 (by rfl) (by rfl) (by rfl)) ?_
  refine L_val (.int .i64 4) (by rfl) (by rfl) (gives_value _ fun _ => by rfl) ?_
  refine L_end ?_
  intro w23 hw23
  refine rounds_next ?_
  refine wp_seq ?_
  refine seq_plain hw23 [0, 1] (by rfl) ?_
  refine L_val (.int .i64 4) (by rfl) (by rfl) (gives_value _ fun _ => by rfl) ?_
  refine L_val (.bool true) (by rfl) (by rfl) (gives_lss (k := .i64) 4 6 true (by rfl) (by rfl) (by rfl)) ?_
  refine L_end ?_
  intro w24 hw24
  refine wp_cond_true (fr_at _ _ (by rfl) _) ?_
  refine wp_skip ?_
  change Code.wp _ _ _ _ _
  refine wp_seq ?_
  refine wp_block ?_
  refine one_flow (by kernel_rfl) hw24 [3] [(g6, 36, (c2 (((((k1) * (F2.R)) * (F2.R)) * (F2.R)) * (F2.R)))), (g5, 59, ((b48c ((-(k0)).val : Int)).setIfInBounds (0 + (47)) (.int .u8 171))), (g4, 51, (c12 (x_2))), (g3, 47, u_2), (g2, 51, (c12 (x_1))), (g1, 47, u_1)] 4 (by rfl) ?_
  refine flow_take (i := 0) (.agg (c2 (((((k1) * (F2.R)) * (F2.R)) * (F2.R)) * (F2.R)))) (by rfl) (by kernel_rfl) (by kernel_rfl) (by kernel_rfl) (by rfl) (by kernel_rfl) (List.Sublist.refl _) (gives_load g6 0 36 (c2 (((((k1) * (F2.R)) * (F2.R)) * (F2.R)) * (F2.R))) (c2 (((((k1) * (F2.R)) * (F2.R)) * (F2.R)) * (F2.R))) _ (by rfl) (fun _ h => h.blk 0 (by rfl)) (Sl.refl _) Tryd.underlying36 (by rfl) (hi_2 _)) ?_
  refine flow_take (i := 1) (.agg (c2 (F2.R))) (by rfl) (by kernel_rfl) (by kernel_rfl) (by kernel_rfl) (by rfl) (by kernel_rfl) (List.Sublist.refl _) (gives_call (vl := []) (by kernel_rfl) (by rfl) (fun w h => t_root w (hG.keep h.below))) ?_
  refine flow_take (i := 2) (.agg (c2 ((((((k1) * (F2.R)) * (F2.R)) * (F2.R)) * (F2.R)) * (F2.R)))) (by rfl) (by kernel_rfl) (by kernel_rfl) (by kernel_rfl) (by rfl) (by kernel_rfl) (List.Sublist.refl _) (gives_call (vl := [.agg (c2 (((((k1) * (F2.R)) * (F2.R)) * (F2.R)) * (F2.R))), .agg (c2 (F2.R))]) (by kernel_rfl) (by rfl) (fun w h => q_mul _ _ w (hG.keep h.below))) ?_
  refine flow_one 3 (by kernel_rfl) ?_
  refine F_store (t := 36) 0 g6 (c2 (((((k1) * (F2.R)) * (F2.R)) * (F2.R)) * (F2.R))) (c2 ((((((k1) * (F2.R)) * (F2.R)) * (F2.R)) * (F2.R)) * (F2.R))) (by rfl) (by rfl) (by rfl) (by rfl) (by rfl) (hi_2 _) ((c2_size _).trans (c2_size _).symm) (c2_one _) (.inl (by decide)) ?_
  simp only [List.set_cons_zero, List.set_cons_succ]
  refine flow_done (by kernel_rfl) ?_
  intro w25 hw25
  change Code.wp _ _ _ _ _
  refine one_plain hw25 [0, 1, 2] (by rfl) ?_
  refine L_val (.int .i64 4) (by rfl) (by rfl) (gives_value _ fun _ => by rfl) ?_
  refine L_val (.int .i64 5) (by rfl) (by rfl) (gives_add (k := .i64) 4 1 5 (by rfl) (by rfl) (by rfl)) ?_
  refine L_val (.int .i64 5) (by rfl) (by rfl) (gives_value _ fun _ => by rfl) ?_
  refine L_end ?_
  intro w26 hw26
  refine rounds_next ?_
  refine wp_seq ?_
  refine seq_plain hw26 [0, 1] (by rfl) ?_
  refine L_val (.int .i64 5) (by rfl) (by rfl) (gives_value _ fun _ => by rfl) ?_
  refine L_val (.bool true) (by rfl) (by rfl) (gives_lss (k := .i64) 5 6 true (by rfl) (by rfl) (by rfl)) ?_
  refine L_end ?_
  intro w27 hw27
  refine wp_cond_true (fr_at _ _ (by rfl) _) ?_
  refine wp_skip ?_
  change Code.wp _ _ _ _ _
  refine wp_seq ?_
  refine wp_block ?_
  refine one_flow (by kernel_rfl) hw27 [3] [(g6, 36, (c2 ((((((k1) * (F2.R)) * (F2.R)) * (F2.R)) * (F2.R)) * (F2.R)))), (g5, 59, ((b48c ((-(k0)).val : Int)).setIfInBounds (0 + (47)) (.int .u8 171))), (g4, 51, (c12 (x_2))), (g3, 47, u_2), (g2, 51, (c12 (x_1))), (g1, 47, u_1)] 4 (by rfl) ?_
  refine flow_take (i := 0) (.agg (c2 ((((((k1) * (F2.R)) * (F2.R)) * (F2.R)) * (F2.R)) * (F2.R)))) (by rfl) (by kernel_rfl) (by kernel_rfl) (by kernel_rfl) (by rfl) (by kernel_rfl) (List.Sublist.refl _) (gives_load g6 0 36 (c2 ((((((k1) * (F2.R)) * (F2.R)) * (F2.R)) * (F2.R)) * (F2.R))) (c2 ((((((k1) * (F2.R)) * (F2.R)) * (F2.R)) * (F2.R)) * (F2.R))) _ (by rfl) (fun _ h => h.blk 0 (by rfl)) (Sl.refl _) Tryd.underlying36 (by rfl) (hi_2 _)) ?_
  refine flow_take (i := 1) (.agg (c2 (F2.R))) (by rfl) (by kernel_rfl) (by kernel_rfl) (by kernel_rfl) (by rfl) (by kernel_rfl) (List.Sublist.refl _) (gives_call (vl := []) (by kernel_rfl) (by rfl) (fun w h => t_root w (hG.keep h.below))) ?_
  refine flow_take (i := 2) (.agg (c2 (((((((k1) * (F2.R)) * (F2.R)) * (F2.R)) * (F2.R)) * (F2.R)) * (F2.R)))) (by rfl) (by kernel_rfl) (by kernel_rfl) (by kernel_rfl) (by rfl) (by kernel_rfl) (List.Sublist.refl _) (gives_call (vl := [.agg (c2 ((((((k1) * (F2.R)) * (F2.R)) * (F2.R)) * (F2.R)) * (F2.R))), .agg (c2 (F2.R))]) (by kernel_rfl) (by rfl) (fun w h => q_mul _ _ w (hG.keep h.below))) ?_
  refine flow_one 3 (by kernel_rfl) ?_
  refine F_store (t := 36) 0 g6 (c2 ((((((k1) * (F2.R)) * (F2.R)) * (F2.R)) * (F2.R)) * (F2.R))) (c2 (((((((k1) * (F2.R)) * (F2.R)) * (F2.R)) * (F2.R)) * (F2.R)) * (F2.R))) (by rfl) (by rfl) (by rfl) (by rfl) (by rfl) (hi_2 _) ((c2_size _).trans (c2_size _).symm) (c2_one _) (.inl (by decide)) ?_
  simp only [List.set_cons_zero, List.set_cons_succ]
  refine flow_done (by kernel_rfl) ?_
  intro w28 hw28
  change Code.wp _ _ _ _ _
  refine one_plain hw28 [0, 1, 2] (by rfl) ?_
  refine L_val (.int .i64 5) (by rfl) (by rfl) (gives_value _ fun _ => by rfl) ?_
  refine L_val (.int .i64 6) (by rfl) (by rfl) (gives_add (k := .i64) 5 1 6 (by rfl) (by rfl) (by rfl)) ?_
  refine L_val (.int .i64 6) (by rfl) (by rfl) (gives_value _ fun _ => by rfl) ?_
  refine L_end ?_
  intro w29 hw29
  refine rounds_next ?_
  refine wp_seq ?_
  refine seq_plain hw29 [0, 1] (by rfl) ?_
  refine L_val (.int .i64 6) (by rfl) (by rfl) (gives_value _ fun _ => by rfl) ?_
  refine L_val (.bool false) (by rfl) (by rfl) (gives_lss (k := .i64) 6 6 false (by rfl) (by rfl) (by rfl)) ?_
  refine L_end ?_
  intro w30 hw30
  refine wp_cond_false (fr_at _ _ (by rfl) _) ?_
  refine wp_exit ?_
  change Code.wp _ _ _ _ _
  change Code.wp _ _ _ _ _
  refine wp_seq ?_
  refine seq_flow (by kernel_rfl) hw30 [] [(g6, 36, (c2 (((((((k1) * (F2.R)) * (F2.R)) * (F2.R)) * (F2.R)) * (F2.R)) * (F2.R)))), (g5, 59, ((b48c ((-(k0)).val : Int)).setIfInBounds (0 + (47)) (.int .u8 171))), (g4, 51, (c12 (x_2))), (g3, 47, u_2), (g2, 51, (c12 (x_1))), (g1, 47, u_1)] 6 (by rfl) ?_
  refine flow_take (i := 0) (.agg (c2 (((((((k1) * (F2.R)) * (F2.R)) * (F2.R)) * (F2.R)) * (F2.R)) * (F2.R)))) (by rfl) (by kernel_rfl) (by kernel_rfl) (by kernel_rfl) (by rfl) (by kernel_rfl) (List.Sublist.refl _) (gives_load g6 0 36 (c2 (((((((k1) * (F2.R)) * (F2.R)) * (F2.R)) * (F2.R)) * (F2.R)) * (F2.R))) (c2 (((((((k1) * (F2.R)) * (F2.R)) * (F2.R)) * (F2.R)) * (F2.R)) * (F2.R))) _ (by rfl) (fun _ h => h.blk 0 (by rfl)) (Sl.refl _) Tryd.underlying36 (by rfl) (hi_2 _)) ?_
  refine flow_take (i := 1) (.agg (c2 (k2))) (by rfl) (by kernel_rfl) (by kernel_rfl) (by kernel_rfl) (by rfl) (by kernel_rfl) (List.Sublist.refl _) (gives_call (vl := [.int .u64 1, .int .u64 1]) (by kernel_rfl) (by rfl) (fun w h => by rw [hk2]; exact q_small _ _ w (hG.keep h.below) (by omega) (by simp only [Wd]; omega) (by omega) (by simp only [Wd]; omega))) ?_
  refine flow_take (i := 2) (.agg (c2 ((((((((k1) * (F2.R)) * (F2.R)) * (F2.R)) * (F2.R)) * (F2.R)) * (F2.R)) * (k2)))) (by rfl) (by kernel_rfl) (by kernel_rfl) (by kernel_rfl) (by rfl) (by kernel_rfl) (List.Sublist.refl _) (gives_call (vl := [.agg (c2 (((((((k1) * (F2.R)) * (F2.R)) * (F2.R)) * (F2.R)) * (F2.R)) * (F2.R))), .agg (c2 (k2))]) (by kernel_rfl) (by rfl) (fun w h => q_mul _ _ w (hG.keep h.below))) ?_
  refine flow_take (i := 3) (.agg (c2 (k2))) (by rfl) (by kernel_rfl) (by kernel_rfl) (by kernel_rfl) (by rfl) (by kernel_rfl) (List.Sublist.refl _) (gives_call (vl := [.int .u64 1, .int .u64 1]) (by kernel_rfl) (by rfl) (fun w h => by rw [hk2]; exact q_small _ _ w (hG.keep h.below) (by omega) (by simp only [Wd]; omega) (by omega) (by simp only [Wd]; omega))) ?_
  refine flow_take (i := 4) (.agg (c2 (F2.conj (k2)))) (by rfl) (by kernel_rfl) (by kernel_rfl) (by kernel_rfl) (by rfl) (by kernel_rfl) (List.Sublist.refl _) (gives_call (vl := [.agg (c2 (k2))]) (by kernel_rfl) (by rfl) (fun w h => q_conj _ w (hG.keep h.below))) ?_
  refine flow_take (i := 5) (.bool false) (by rfl) (by kernel_rfl) (by kernel_rfl) (by kernel_rfl) (by rfl) (by kernel_rfl) (List.Sublist.refl _) (gives_neq (c2 ((((((((k1) * (F2.R)) * (F2.R)) * (F2.R)) * (F2.R)) * (F2.R)) * (F2.R)) * (k2))) (c2 (F2.conj (k2))) true (by rfl) (by rfl) (by kernel_rfl) (fun w => eq_2_t (d := 9996) w (six_root hk1 hk2))) ?_
  refine flow_done (by kernel_rfl) ?_
  intro w31 hw31
  refine wp_cond_false (fr_at _ _ (by rfl) _) ?_
  refine wp_skip ?_
  change Code.wp _ _ _ _ _
  refine seq_plain hw31 [0, 1, 2] (by rfl) ?_
  refine L_val (.agg (c12 (x_1))) (by rfl) (by rfl) (gives_load g2 0 51 (c12 (x_1)) (c12 (x_1)) _ (by rfl) (fun _ h => h.blk 4 (by rfl)) (Sl.refl _) Tryd.underlying51 (by rfl) (hi_12 _)) ?_
  refine L_alloc _ (by rfl) (by rfl) z_12 (c12 (0 : T12)) rfl ?_; intro g7
  refine L_store (t := 51) 0 g7 (c12 (0 : T12)) (c12 (x_1)) (by rfl) (by rfl) (by rfl) (by rfl) (by rfl) (hi_12 _) ((c12_size _).trans (c12_size _).symm) (c12_one _) ?_
  simp only [List.set_cons_zero, List.set_cons_succ]
  refine L_end ?_
  intro w32 hw32
  refine wp_seq ?_
  refine seq_plain hw32 [0] (by rfl) ?_
  refine L_val (.int .i64 0) (by rfl) (by rfl) (gives_value _ fun _ => by rfl) ?_
  refine L_end ?_
  intro w33 hw33
  refine wp_block ?_
  refine rounds_first 6 ?_
  refine wp_seq ?_
  refine seq_plain hw33 [0, 1] (by rfl) ?_
  refine L_val (.int .i64 0) (by rfl) (by rfl) (gives_value _ fun _ => by rfl) ?_
  refine L_val (.bool true) (by rfl) (by rfl) (gives_lss (k := .i64) 0 6 true (by rfl) (by rfl) (by rfl)) ?_
  refine L_end ?_
  intro w34 hw34
  refine wp_cond_true (fr_at _ _ (by rfl) _) ?_
  refine wp_skip ?_
  change Code.wp _ _ _ _ _
  refine wp_seq ?_
  refine wp_block ?_
  refine one_plain hw34 [0, 1, 2] (by rfl) ?_
  refine L_val (.agg (c12 (x_1))) (by rfl) (by rfl) (gives_load g7 0 51 (c12 (x_1)) (c12 (x_1)) _ (by rfl) (fun _ h => h.blk 0 (by rfl)) (Sl.refl _) Tryd.underlying51 (by rfl) (hi_12 _)) ?_
  refine L_val (.agg (c12 (T12.frob F2.R (x_1)))) (by rfl) (by rfl) (gives_call (vl := [.agg (c12 (x_1))]) (by kernel_rfl) (by rfl) (fun w h => t_frob _ w (hG.keep h.below))) ?_
  refine L_store (t := 51) 0 g7 (c12 (x_1)) (c12 (T12.frob F2.R (x_1))) (by rfl) (by rfl) (by rfl) (by rfl) (by rfl) (hi_12 _) ((c12_size _).trans (c12_size _).symm) (c12_one _) ?_
  simp only [List.set_cons_zero, List.set_cons_succ]
  refine L_end ?_
  intro w35 hw35
  change Code.wp _ _ _ _ _
  refine one_plain hw35 [0, 1, 2] (by rfl) ?_
  refine L_val (.int .i64 0) (by rfl) (by rfl) (gives_value _ fun _ => by rfl) ?_
  refine L_val (.int .i64 1) (by rfl) (by rfl) (gives_add (k := .i64) 0 1 1 (by rfl) (by rfl) (by rfl)) ?_
  refine L_val (.int .i64 1) (by rfl) (by rfl) (gives_value _ fun _ => by rfl) ?_
  refine L_end ?_
  intro w36 hw36
  refine rounds_next ?_
  refine wp_seq ?_
  refine seq_plain hw36 [0, 1] (by rfl) ?_
  refine L_val (.int .i64 1) (by rfl) (by rfl) (gives_value _ fun _ => by rfl) ?_
  refine L_val (.bool true) (by rfl) (by rfl) (gives_lss (k := .i64) 1 6 true (by rfl) (by rfl) (by rfl)) ?_
  refine L_end ?_
  intro w37 hw37
  refine wp_cond_true (fr_at _ _ (by rfl) _) ?_
  refine wp_skip ?_
  change Code.wp _ _ _ _ _
  refine wp_seq ?_
  refine wp_block ?_
  refine one_plain hw37 [0, 1, 2] (by rfl) ?_
  refine L_val (.agg (c12 (T12.frob F2.R (x_1)))) (by rfl) (by rfl) (gives_load g7 0 51 (c12 (T12.frob F2.R (x_1))) (c12 (T12.frob F2.R (x_1))) _ (by rfl) (fun _ h => h.blk 0 (by rfl)) (Sl.refl _) Tryd.underlying51 (by rfl) (hi_12 _)) ?_
  refine L_val (.agg (c12 (T12.frob F2.R (T12.frob F2.R (x_1))))) (by rfl) (by rfl) (gives_call (vl := [.agg (c12 (T12.frob F2.R (x_1)))]) (by kernel_rfl) (by rfl) (fun w h => t_frob _ w (hG.keep h.below))) ?_
  refine L_store (t := 51) 0 g7 (c12 (T12.frob F2.R (x_1))) (c12 (T12.frob F2.R (T12.frob F2.R (x_1)))) (by rfl) (by rfl) (by rfl) (by rfl) (by rfl) (hi_12 _) ((c12_size _).trans (c12_size _).symm) (c12_one _) ?_
  simp only [List.set_cons_zero, List.set_cons_succ]
  refine L_end ?_
  intro w38 hw38
  change Code.wp _ _ _ _ _
  refine one_plain hw38 [0, 1, 2] (by rfl) ?_
  refine L_val (.int .i64 1) (by rfl) (by rfl) (gives_value _ fun _ => by rfl) ?_
  refine L_val (.int .i64 2) (by rfl) (by rfl) (gives_add (k := .i64) 1 1 2 (by rfl) (by rfl) (by rfl)) ?_
  refine L_val (.int .i64 2) (by rfl) (by rfl) (gives_value _ fun _ => by rfl) ?_
  refine L_end ?_
  intro w39 hw39
  refine rounds_next ?_
  refine wp_seq ?_
  refine seq_plain hw39 [0, 1] (by rfl) ?_
  refine L_val (.int .i64 2) (by rfl) (by rfl) (gives_value _ fun _ => by rfl) ?_
  refine L_val (.bool true) (by rfl) (by rfl) (gives_lss (k := .i64) 2 6 true (by rfl) (by rfl) (by rfl)) ?_
  refine L_end ?_
  intro w40 hw40
  refine wp_cond_true (fr_at _ _ (by rfl) _) ?_
  refine wp_skip ?_
  change Code.wp _ _ _ _ _
  refine wp_seq ?_
  refine wp_block ?_
  refine one_plain hw40 [0, 1, 2] (by rfl) ?_
  refine L_val (.agg (c12 (T12.frob F2.R (T12.frob F2.R (x_1))))) (by rfl) (by rfl) (gives_load g7 0 51 (c12 (T12.frob F2.R (T12.frob F2.R (x_1)))) (c12 (T12.frob F2.R (T12.frob F2.R (x_1)))) _ (by rfl) (fun _ h => h.blk 0 (by rfl)) (Sl.refl _) Tryd.underlying51 (by rfl) (hi_12 _)) ?_
  refine L_val (.agg (c12 (T12.frob F2.R (T12.frob F2.R (T12.frob F2.R (x_1)))))) (by rfl) (by rfl) (gives_call (vl := [.agg (c12 (T12.frob F2.R (T12.frob F2.R (x_1))))]) (by kernel_rfl) (by rfl) (fun w h => t_frob _ w (hG.keep h.below))) ?_
  refine L_store (t := 51) 0 g7 (c12 (T12.frob F2.R (T12.frob F2.R (x_1)))) (c12 (T12.frob F2.R (T12.frob F2.R (T12.frob F2.R (x_1))))) (by rfl) (by rfl) (by rfl) (by rfl) (by rfl) (hi_12 _) ((c12_size _).trans (c12_size _).symm) (c12_one _) ?_
  simp only [List.set_cons_zero, List.set_cons_succ]
  refine L_end ?_
  intro w41 hw41
  change Code.wp _ _ _ _ _
  refine one_plain hw41 [0, 1, 2] (by rfl) ?_
  refine L_val (.int .i64 2) (by rfl) (by rfl) (gives_value _ fun _ => by rfl) ?_
  refine L_val (.int .i64 3) (by rfl) (by rfl) (gives_add (k := .i64) 2 1 3 (by rfl) (by rfl) (by rfl)) ?_
  refine L_val (.int .i64 3) (by rfl) (by rfl) (gives_value _ fun _ => by rfl) ?_
  refine L_end ?_
  intro w42 hw42
  refine rounds_next ?_
  refine wp_seq ?_
  refine seq_plain hw42 [0, 1] (by rfl) ?_
  refine L_val (.int .i64 3) (by rfl) (by rfl) (gives_value _ fun _ => by rfl) ?_
  refine L_val (.bool true) (by rfl) (by rfl) (gives_lss (k := .i64) 3 6 true (by rfl) (by rfl) (by rfl)) ?_
  refine L_end ?_
  intro w43 hw43
  refine wp_cond_true (fr_at _ _ (by rfl) _) ?_
  refine wp_skip ?_
  change Code.wp _ _ _ _ _
  refine wp_seq ?_
  refine wp_block ?_
  refine one_plain hw43 [0, 1, 2] (by rfl) ?_
  refine L_val (.agg (c12 (T12.frob F2.R (T12.frob F2.R (T12.frob F2.R (x_1)))))) (by rfl) (by rfl) (gives_load g7 0 51 (c12 (T12.frob F2.R (T12.frob F2.R (T12.frob F2.R (x_1))))) (c12 (T12.frob F2.R (T12.frob F2.R (T12.frob F2.R (x_1))))) _ (by rfl) (fun _ h => h.blk 0 (by rfl)) (Sl.refl _) Tryd.underlying51 (by rfl) (hi_12 _)) ?_
  refine L_val (.agg (c12 (T12.frob F2.R (T12.frob F2.R (T12.frob F2.R (T12.frob F2.R (x_1))))))) (by rfl) (by rfl) (gives_call (vl := [.agg (c12 (T12.frob F2.R (T12.frob F2.R (T12.frob F2.R (x_1)))))]) (by kernel_rfl) (by rfl) (fun w h => t_frob _ w (hG.keep h.below))) ?_
  refine L_store (t := 51) 0 g7 (c12 (T12.frob F2.R (T12.frob F2.R (T12.frob F2.R (x_1))))) (c12 (T12.frob F2.R (T12.frob F2.R (T12.frob F2.R (T12.frob F2.R (x_1)))))) (by rfl) (by rfl) (by rfl) (by rfl) (by rfl) (hi_12 _) ((c12_size _).trans (c12_size _).symm) (c12_one _) ?_
  simp only [List.set_cons_zero, List.set_cons_succ]
  refine L_end ?_
  intro w44 hw44
  change Code.wp _ _ _ _ _
  refine one_plain hw44 [0, 1, 2] (by rfl) ?_
  refine L_val (.int .i64 3) (by rfl) (by rfl) (gives_value _ fun _ => by rfl) ?_
  refine L_val (.int .i64 4) (by rfl) (by rfl) (gives_add (k := .i64) 3 1 4 (by rfl) (by rfl) (by rfl)) ?_
  refine L_val (.int .i64 4) (by rfl) (by rfl) (gives_value _ fun _ => by rfl) ?_
  refine L_end ?_
  intro w45 hw45
  refine rounds_next ?_
  refine wp_seq ?_
  refine seq_plain hw45 [0, 1] (by rfl) ?_
  refine L_val (.int .i64 4) (by rfl) (by rfl) (gives_value _ fun _ => by rfl) ?_
  refine L_val (.bool true) (by rfl) (by rfl) (gives_lss (k := .i64) 4 6 true (by rfl) (by rfl) (by rfl)) ?_
  refine L_end ?_
  intro w46 hw46
  refine wp_cond_true (fr_at _ _ (by rfl) _) ?_
  refine wp_skip ?_
  change Code.wp _ _ _ _ _
  refine wp_seq ?_
  refine wp_block ?_
  refine one_plain hw46 [0, 1, 2] (by rfl) ?_
  refine L_val (.agg (c12 (T12.frob F2.R (T12.frob F2.R (T12.frob F2.R (T12.frob F2.R (x_1))))))) (by rfl) (by rfl) (gives_load g7 0 51 (c12 (T12.frob F2.R (T12.frob F2.R (T12.frob F2.R (T12.frob F2.R (x_1)))))) (c12 (T12.frob F2.R (T12.frob F2.R (T12.frob F2.R (T12.frob F2.R (x_1)))))) _ (by rfl) (fun _ h => h.blk 0 (by rfl)) (Sl.refl _) Tryd.underlying51 (by rfl) (hi_12 _)) ?_
  refine L_val (.agg (c12 (T12.frob F2.R (T12.frob F2.R (T12.frob F2.R (T12.frob F2.R (T12.frob F2.R (x_1)))))))) (by rfl) (by rfl) (gives_call (vl := [.agg (c12 (T12.frob F2.R (T12.frob F2.R (T12.frob F2.R (T12.frob F2.R (x_1))))))]) (by kernel_rfl) (by rfl) (fun w h => t_frob _ w (hG.keep h.below))) ?_
  refine L_store (t := 51) 0 g7 (c12 (T12.frob F2.R (T12.frob F2.R (T12.frob F2.R (T12.frob F2.R (x_1)))))) (c12 (T12.frob F2.R (T12.frob F2.R (T12.frob F2.R (T12.frob F2.R (T12.frob F2.R (x_1))))))) (by rfl) (by rfl) (by rfl) (by rfl) (by rfl) (hi_12 _) ((c12_size _).trans (c12_size _).symm) (c12_one _) ?_
  simp only [List.set_cons_zero, List.set_cons_succ]
  refine L_end ?_
  intro w47 hw47
  change Code.wp _ _ _ _ _
  refine one_plain hw47 [0, 1, 2] (by rfl) ?_
  refine L_val (.int .i64 4) (by rfl) (by rfl) (gives_value _ fun _ => by rfl) ?_
  refine L_val (.int .i64 5) (by rfl) (by rfl) (gives_add (k := .i64) 4 1 5 (by rfl) (by rfl) (by rfl)) ?_
  refine L_val (.int .i64 5) (by rfl) (by rfl) (gives_value _ fun _ => by rfl) ?_
  refine L_end ?_
  intro w48 hw48
  refine rounds_next ?_
  refine wp_seq ?_
  refine seq_plain hw48 [0, 1] (by rfl) ?_
  refine L_val (.int .i64 5) (by rfl) (by rfl) (gives_value _ fun _ => by rfl) ?_
  refine L_val (.bool true) (by rfl) (by rfl) (gives_lss (k := .i64) 5 6 true (by rfl) (by rfl) (by rfl)) ?_
  refine L_end ?_
  intro w49 hw49
  refine wp_cond_true (fr_at _ _ (by rfl) _) ?_
  refine wp_skip ?_
  change Code.wp _ _ _ _ _
  refine wp_seq ?_
  refine wp_block ?_
  refine one_plain hw49 [0, 1, 2] (by rfl) ?_
  refine L_val (.agg (c12 (T12.frob F2.R (T12.frob F2.R (T12.frob F2.R (T12.frob F2.R (T12.frob F2.R (x_1)))))))) (by rfl) (by rfl) (gives_load g7 0 51 (c12 (T12.frob F2.R (T12.frob F2.R (T12.frob F2.R (T12.frob F2.R (T12.frob F2.R (x_1))))))) (c12 (T12.frob F2.R (T12.frob F2.R (T12.frob F2.R (T12.frob F2.R (T12.frob F2.R (x_1))))))) _ (by rfl) (fun _ h => h.blk 0 (by rfl)) (Sl.refl _) Tryd.underlying51 (by rfl) (hi_12 _)) ?_
  refine L_val (.agg (c12 (T12.frob F2.R (T12.frob F2.R (T12.frob F2.R (T12.frob F2.R (T12.frob F2.R (T12.frob F2.R (x_1))))))))) (by rfl) (by rfl) (gives_call (vl := [.agg (c12 (T12.frob F2.R (T12.frob F2.R (T12.frob F2.R (T12.frob F2.R (T12.frob F2.R (x_1)))))))]) (by kernel_rfl) (by rfl) (fun w h => t_frob _ w (hG.keep h.below))) ?_
  refine L_store (t := 51) 0 g7 (c12 (T12.frob F2.R (T12.frob F2.R (T12.frob F2.R (T12.frob F2.R (T12.frob F2.R (x_1))))))) (c12 (T12.frob F2.R (T12.frob F2.R (T12.frob F2.R (T12.frob F2.R (T12.frob F2.R (T12.frob F2.R (x_1)))))))) (by rfl) (by rfl) (by rfl) (by rfl) (by rfl) (hi_12 _) ((c12_size _).trans (c12_size _).symm) (c12_one _) ?_
  simp only [List.set_cons_zero, List.set_cons_succ]
  refine L_end ?_
  intro w50 hw50
  change Code.wp _ _ _ _ _
  refine one_plain hw50 [0, 1, 2] (by rfl) ?_
  refine L_val (.int .i64 5) (by rfl) (by rfl) (gives_value _ fun _ => by rfl) ?_
  refine L_val (.int .i64 6) (by rfl) (by rfl) (gives_add (k := .i64) 5 1 6 (by rfl) (by rfl) (by rfl)) ?_
  refine L_val (.int .i64 6) (by rfl) (by rfl) (gives_value _ fun _ => by rfl) ?_
  refine L_end ?_
  intro w51 hw51
  refine rounds_next ?_
  refine wp_seq ?_
  refine seq_plain hw51 [0, 1] (by rfl) ?_
  refine L_val (.int .i64 6) (by rfl) (by rfl) (gives_value _ fun _ => by rfl) ?_
  refine L_val (.bool false) (by rfl) (by rfl) (gives_lss (k := .i64) 6 6 false (by rfl) (by rfl) (by rfl)) ?_
  refine L_end ?_
  intro w52 hw52
  refine wp_cond_false (fr_at _ _ (by rfl) _) ?_
  refine wp_exit ?_
  change Code.wp _ _ _ _ _
  change Code.wp _ _ _ _ _
  refine seq_flow (by kernel_rfl) hw52 [] [(g7, 51, (c12 (T12.frob F2.R (T12.frob F2.R (T12.frob F2.R (T12.frob F2.R (T12.frob F2.R (T12.frob F2.R (x_1))))))))), (g6, 36, (c2 (((((((k1) * (F2.R)) * (F2.R)) * (F2.R)) * (F2.R)) * (F2.R)) * (F2.R)))), (g5, 59, ((b48c ((-(k0)).val : Int)).setIfInBounds (0 + (47)) (.int .u8 171))), (g4, 51, (c12 (x_2))), (g3, 47, u_2), (g2, 51, (c12 (x_1))), (g1, 47, u_1)] 5 (by rfl) ?_
  refine flow_take (i := 0) (.agg (c12 (T12.frob F2.R (T12.frob F2.R (T12.frob F2.R (T12.frob F2.R (T12.frob F2.R (T12.frob F2.R (x_1))))))))) (by rfl) (by kernel_rfl) (by kernel_rfl) (by kernel_rfl) (by rfl) (by kernel_rfl) (List.Sublist.refl _) (gives_load g7 0 51 (c12 (T12.frob F2.R (T12.frob F2.R (T12.frob F2.R (T12.frob F2.R (T12.frob F2.R (T12.frob F2.R (x_1)))))))) (c12 (T12.frob F2.R (T12.frob F2.R (T12.frob F2.R (T12.frob F2.R (T12.frob F2.R (T12.frob F2.R (x_1)))))))) _ (by rfl) (fun _ h => h.blk 0 (by rfl)) (Sl.refl _) Tryd.underlying51 (by rfl) (hi_12 _)) ?_
  refine flow_take (i := 1) (.agg (c12 (x_1))) (by rfl) (by kernel_rfl) (by kernel_rfl) (by kernel_rfl) (by rfl) (by kernel_rfl) (List.Sublist.refl _) (gives_load g2 0 51 (c12 (x_1)) (c12 (x_1)) _ (by rfl) (fun _ h => h.blk 5 (by rfl)) (Sl.refl _) Tryd.underlying51 (by rfl) (hi_12 _)) ?_
  refine flow_take (i := 2) (.agg (c12 (T12.conj (x_1)))) (by rfl) (by kernel_rfl) (by kernel_rfl) (by kernel_rfl) (by rfl) (by kernel_rfl) (List.Sublist.refl _) (gives_call (vl := [.agg (c12 (x_1))]) (by kernel_rfl) (by rfl) (fun w h => t_conj _ w (hG.keep h.below))) ?_
  refine flow_take (i := 3) (.bool true) (by rfl) (by kernel_rfl) (by kernel_rfl) (by kernel_rfl) (by rfl) (by kernel_rfl) (List.Sublist.refl _) (gives_eql (c12 (T12.frob F2.R (T12.frob F2.R (T12.frob F2.R (T12.frob F2.R (T12.frob F2.R (T12.frob F2.R (x_1)))))))) (c12 (T12.conj (x_1))) true (by rfl) (by rfl) (by kernel_rfl) (fun w => eq_12_t (d := 9994) w (frob_six _))) ?_
  refine flow_take (i := 4) (.bool true) (by rfl) (by kernel_rfl) (by kernel_rfl) (by kernel_rfl) (by rfl) (by kernel_rfl) (List.Sublist.refl _) (gives_value _ fun _ => by rfl) ?_
  refine flow_done (by kernel_rfl) ?_
  intro w53 hw53
  refine wp_ret ?_
  change bodyPost _ _ _ Exit.ret _ _
  refine (ret_tmp (by rfl) (by rfl) (by rfl) ⟨rfl, hw53.below⟩)
theorem t_frobs_any (A0 : Option Addr) (L0 C0 : Nat) (bs0 : List Int) (A1 : Option Addr) (L1 C1 : Nat) (bs1 : List Int) (v : World) (hG : Glo v) (hr0 : Reads v v.heap.size A0 L0 (bs0.map (Value.int .u8))) (ho0 : Oct bs0) (hr1 : Reads v v.heap.size A1 L1 (bs1.map (Value.int .u8))) (ho1 : Oct bs1) : Rets 8 #[.slice A0 L0 C0, .slice A1 L1 C1] v (.bool true) := by
  by_cases hlong : 2000 < L0 ∨ 2000 < L1
  · exact t_frobs_long A0 L0 C0 bs0 A1 L1 C1 bs1 v hG hr0 ho0 hr1 ho1 hlong
  · exact t_frobs_short A0 L0 C0 bs0 A1 L1 C1 bs1 v hG hr0 ho0 hr1 ho1 (by omega) (by omega)
end Go.Proofs.YtnebmgiajfbnaaaDoor
