/-
  Layer 6's contracts: the root, the power of the modulus, powers.
-/
import Derived.Test.YtialfoccalobpaaDoorWDTwA
import Derived.Test.YtialfoccalobpaaDoorWDFn3
import Derived.Test.YtialfoccalobpaaDoorWDFpRoots
namespace Go.Proofs.YtialfoccalobpaaDoor
set_option linter.unusedSimpArgs false
set_option linter.unusedVariables false
open Go.RowKit
theorem shr_bit8 (a : Int) (r : Nat) (q : Int) (hr : 0 < r) (h8 : r ≤ 8) (hq : q = a / 2 ^ (r - 1)) : a.fdiv (2 ^ (min ((r : Int) - 1).toNat IntKind.u8.bits)) = q := by
  have e1 : ((r : Int) - 1).toNat = r - 1 := by omega
  have e2 : min (r - 1) IntKind.u8.bits = r - 1 := Nat.min_eq_left (by show r - 1 ≤ 8; omega)
  rw [e1, e2, hq, Int.fdiv_eq_ediv_of_nonneg _ (Int.le_of_lt (Int.pow_pos (by omega)))]
theorem and_one8 (a : Int) (h0 : 0 ≤ a) (h : a < 256) : IntKind.u8.wrap (((a % 2 ^ IntKind.u8.bits).toNat &&& ((1 : Int) % 2 ^ IntKind.u8.bits).toNat : Nat) : Int) = a % 2 := by
  have e1 : (2 : Int) ^ IntKind.u8.bits = 256 := by decide
  have e2 : ((1 : Int) % 256).toNat = 2 ^ 1 - 1 := by decide
  rw [e1, e2, Nat.and_two_pow_sub_one_eq_mod, Int.emod_eq_of_lt h0 h]
  have e3 : ((a.toNat % 2 ^ 1 : Nat) : Int) = a % 2 := by omega
  rw [e3]
  exact IntWalk.u8_in _ (by omega)
theorem div8_lo (a : Int) (s : Nat) (h0 : 0 ≤ a) (h : a < 256) : 0 ≤ a / 2 ^ s ∧ a / 2 ^ s < 256 :=
  ⟨Int.ediv_nonneg h0 (Int.le_of_lt (Int.pow_pos (by omega))), Int.lt_of_le_of_lt (Int.ediv_le_self _ h0) h⟩
theorem bit8 (a : Int) (r : Nat) (hr : 0 < r) (h0 : 0 ≤ a) (q : Int) (hq : q = a / 2 ^ (r - 1)) : a.toNat / 2 ^ (r - 1) = 2 * (a.toNat / 2 ^ r) + (q % 2).toNat := by
  obtain ⟨n, rfl⟩ := Int.eq_ofNat_of_zero_le h0
  have e1 : q = ((n / 2 ^ (r - 1) : Nat) : Int) := by rw [hq, Int.natCast_ediv, Int.natCast_pow]; rfl
  have e2 : n / 2 ^ r = n / 2 ^ (r - 1) / 2 := by obtain ⟨m, rfl⟩ : ∃ m, r = m + 1 := ⟨r - 1, by omega⟩; rw [Nat.add_sub_cancel, Nat.div_div_eq_div_mul, ← Nat.pow_succ]
  rw [e1, Int.toNat_natCast, e2]
  omega
theorem exp8 (N a : Nat) (r : Nat) (hr : 0 < r) (h8 : r ≤ 8) : N * 2 ^ (8 - (r - 1)) = 2 * (N * 2 ^ (8 - r)) := by
  rw [show 8 - (r - 1) = (8 - r) + 1 by omega, Nat.pow_succ, ← Nat.mul_assoc, Nat.mul_comm]
section
variable {R : Type} [Add R] [Mul R] [Zero R] [One R]
theorem pow8_even (h : CR R) (x : R) (N : Nat) (a : Int) (r : Nat) (hr : 0 < r) (h8 : r ≤ 8) (h0 : 0 ≤ a) (q : Int) (hq : q = a / 2 ^ (r - 1)) (h1 : q % 2 = 0) :
    pw x (N * 2 ^ (8 - r) + a.toNat / 2 ^ r) * pw x (N * 2 ^ (8 - r) + a.toNat / 2 ^ r) = pw x (N * 2 ^ (8 - (r - 1)) + a.toNat / 2 ^ (r - 1)) := by
  rw [← pw_add h, bit8 a r hr h0 q hq, exp8 N 0 r hr h8]
  congr 1
  omega
theorem pow8_odd (h : CR R) (x : R) (N : Nat) (a : Int) (r : Nat) (hr : 0 < r) (h8 : r ≤ 8) (h0 : 0 ≤ a) (q : Int) (hq : q = a / 2 ^ (r - 1)) (h1 : q % 2 = 1) :
    pw x (N * 2 ^ (8 - r) + a.toNat / 2 ^ r) * pw x (N * 2 ^ (8 - r) + a.toNat / 2 ^ r) * x = pw x (N * 2 ^ (8 - (r - 1)) + a.toNat / 2 ^ (r - 1)) := by
  rw [← pw_add h, ← pw_succ, bit8 a r hr h0 q hq, exp8 N 0 r hr h8]
  congr 1
  omega
end
theorem pow8_start (bs : List Int) (k : Nat) (ho : Oct bs) : (num (bs.take k)).toNat * 2 ^ (8 - 8) + (gt bs k).toNat / 2 ^ 8 = (num (bs.take k)).toNat := by
  have := ho.at_ k
  have : (gt bs k).toNat / 2 ^ 8 = 0 := Nat.div_eq_of_lt (by omega)
  rw [this]
  simp
theorem pow8_end (bs : List Int) (k : Nat) (hk : k < bs.length) (ho : Oct bs) (r : Nat) (hr : r = 0) : (num (bs.take (k + 1))).toNat = (num (bs.take k)).toNat * 2 ^ (8 - r) + (gt bs k).toNat / 2 ^ r := by
  subst hr
  have e : bs.take (k + 1) = bs.take k ++ [gt bs k] := by rw [gt_eq hk, List.take_append_getElem hk]
  have h1 := (num_lt (bs.take k) (ho.take k)).1
  have h2 := ho.at_ k
  rw [e, num_snoc]
  simp only [Nat.sub_zero, Nat.pow_zero, Nat.div_one, show (2 : Nat) ^ 8 = 256 from rfl]
  omega
attribute [local irreducible] wpL wpF fr Code.wp bodyPost
set_option maxRecDepth 100000 in
set_option maxHeartbeats 4000000 in
theorem t_power (x : T12) (A0 : Option Addr) (n0 c0 : Nat) (bs0 : List Int) (v : World) (hG : Glo v) (hr0 : Reads v v.heap.size A0 n0 (bs0.map (Value.int .u8))) (ho0 : Oct bs0) (hb0 : n0 ≤ 1099511627776) : Rets 90 #[.agg (c12 (x)), .slice A0 n0 c0] v (.agg (c12 (pw x (num bs0).toNat))) := by
  have hn0 : bs0.length = n0 := by simpa using hr0.1
  refine calls_fr2 Tryd.func90 rfl (by rfl : _ = 32) (by rfl) ?_
  have hw := Hbl.nil v
  refine seq_plain hw [0, 1] (by rfl) ?_
  refine L_box (.agg (c12 (x))) (by rfl) (by rfl) (by rfl) (c12 (x)) (by rfl) ?_; intro g1
  refine L_alloc _ (by rfl) (by rfl) z_12 (c12 (0 : T12)) rfl ?_; intro g2
  refine L_end ?_
  intro w1 hw1
  refine seq_plain hw1 [0, 1, 2] (by rfl) ?_
  refine L_val (.agg (c12 (1 : T12))) (by rfl) (by rfl) (gives_call (vl := []) (by kernel_rfl) (by rfl) (fun w h => t_one w (hG.keep h.below))) ?_
  refine L_alloc _ (by rfl) (by rfl) z_12 (c12 (0 : T12)) rfl ?_; intro g3
  refine L_store (t := 83) 0 g3 (c12 (0 : T12)) (c12 (1 : T12)) (by rfl) (by rfl) (by rfl) (by rfl) (by rfl) (hi_12 _) ((c12_size _).trans (c12_size _).symm) (c12_one _) ?_
  simp only [List.set_cons_zero, List.set_cons_succ]
  refine L_end ?_
  intro w2 hw2
  refine wp_seq ?_
  refine seq_plain hw2 [0, 1, 2] (by rfl) ?_
  refine L_val (.slice A0 n0 c0) (by rfl) (by rfl) (gives_value _ fun _ => by rfl) ?_
  refine L_val (.int .i64 (n0 : Int)) (by rfl) (by rfl) (gives_len _ n0 c0 und_u8s (by rfl)) ?_
  refine L_val (.int .i64 0) (by rfl) (by rfl) (gives_value _ fun _ => by rfl) ?_
  refine L_end ?_
  intro w3 hw3
  refine wp_block ?_
  refine loop_down (fun (r_ : Nat) a w => ∃ (k : Nat) (l_1 : List (Nat × Value)), n0 - k = r_ ∧ inFr 32 l_1 = true ∧ a = fr 32 ((2, .pointer (some ⟨g1, 0, none⟩)) :: (4, .pointer (some ⟨g2, 0, none⟩)) :: (5, .pointer (some ⟨g3, 0, none⟩)) :: (10, .slice A0 n0 c0) :: (11, .int .i64 (n0 : Int)) :: (12, .int .i64 (k : Int)) :: l_1) ∧ (k ≤ n0) ∧ Hbl v [(g3, 83, (c12 (pw x ((num (bs0.take k)).toNat)))), (g2, 83, (c12 (0 : T12))), (g1, 83, (c12 (x)))] w) ?_ _ _ _ ⟨0, [(12, .int .i64 0), (11, .int .i64 (n0 : Int)), (10, .slice A0 n0 c0), (5, .pointer (some ⟨g3, 0, none⟩)), (9, .agg (c12 (1 : T12))), (4, .pointer (some ⟨g2, 0, none⟩)), (2, .pointer (some ⟨g1, 0, none⟩)), (1, .slice A0 n0 c0), (0, .agg (c12 (x)))], rfl, (by rfl), (Eq.trans (Eq.trans (Eq.trans (Eq.trans (Eq.trans (fr_dup _ _ 12 _ (by rfl) (by rfl) (by rfl)).symm (fr_dup _ _ 11 _ (by rfl) (by rfl) (by rfl)).symm) (fr_dup _ _ 10 _ (by rfl) (by rfl) (by rfl)).symm) (fr_dup _ _ 5 _ (by rfl) (by rfl) (by rfl)).symm) (fr_dup _ _ 4 _ (by rfl) (by rfl) (by rfl)).symm) (fr_dup _ _ 2 _ (by rfl) (by rfl) (by rfl)).symm), Nat.zero_le _, hw3⟩
  rintro r_1 a0 w0_1 ⟨k, l_1, hr_1, hl_1, rfl, hk, hw0_1⟩
  by_cases hlt : k < n0
  ·
    have b1 := ho0.at_ k
    obtain ⟨b0, o0, hA0, hq0, hce0⟩ := reads_cell hr0 hlt
    refine seq_plain hw0_1 [0] (by rfl) ?_
    refine L_val (.bool true) (by rfl) (by exact hl_1) (gives_lss (k := .i64) ((k : Int)) ((n0 : Int)) true (by rfl) (by rfl) (decide_eq_true (by omega))) ?_
    refine L_end ?_
    intro w4 hw4
    refine wp_seq ?_
    refine wp_cond_true (fr_at _ _ (by exact hl_1) _) ?_
    refine wp_skip ?_
    change Code.wp _ _ _ _ _
    refine wp_seq ?_
    refine wp_block ?_
    refine seq_plain hw4 [0, 1, 2] (by rfl) ?_
    refine L_val (.pointer (some ⟨b0, o0 + (k), none⟩)) (by rfl) (by exact hl_1) (gives_index_old A0 n0 c0 ((k : Int)) (k) _ _ hA0 (by rfl) (by rfl) und_u8s u8_sz rfl (by omega)) ?_
    refine L_val (.int .u8 (gt bs0 k)) (by rfl) (by exact hl_1) (gives_load_old _ (.int .u8 (gt bs0 k)) (by rfl) (fun _ h => (h.below.cell (p := ⟨b0, _, none⟩) hq0).trans hce0) und_u8') ?_
    refine L_val (.int .u8 (gt bs0 k)) (by rfl) (by exact hl_1) (gives_value _ fun _ => by rfl) ?_
    refine L_end ?_
    intro w5 hw5
    refine seq_plain hw5 [0] (by rfl) ?_
    refine L_val (.int .i64 7) (by rfl) (by exact hl_1) (gives_value _ fun _ => by rfl) ?_
    refine L_end ?_
    intro w6 hw6
    refine wp_block ?_
    refine loop_down (fun (r_ : Nat) a w => ∃ (r : Nat) (l_2 : List (Nat × Value)), r = r_ ∧ inFr 32 l_2 = true ∧ a = fr 32 ((2, .pointer (some ⟨g1, 0, none⟩)) :: (4, .pointer (some ⟨g2, 0, none⟩)) :: (5, .pointer (some ⟨g3, 0, none⟩)) :: (10, .slice A0 n0 c0) :: (11, .int .i64 (n0 : Int)) :: (12, .int .i64 (k : Int)) :: (7, .int .u8 (gt bs0 k)) :: (8, .int .i64 ((r : Int) - 1)) :: l_2) ∧ (r ≤ 8) ∧ Hbl v [(g3, 83, (c12 (pw x ((num (bs0.take k)).toNat * 2 ^ (8 - r) + (gt bs0 k).toNat / 2 ^ r)))), (g2, 83, (c12 (0 : T12))), (g1, 83, (c12 (x)))] w) ?_ _ _ _ ⟨8, ((8, .int .i64 7) :: (7, .int .u8 (gt bs0 k)) :: (15, .int .u8 (gt bs0 k)) :: (14, .pointer (some ⟨b0, o0 + (k), none⟩)) :: (13, .bool true) :: (2, .pointer (some ⟨g1, 0, none⟩)) :: (4, .pointer (some ⟨g2, 0, none⟩)) :: (5, .pointer (some ⟨g3, 0, none⟩)) :: (10, .slice A0 n0 c0) :: (11, .int .i64 (n0 : Int)) :: (12, .int .i64 (k : Int)) :: l_1), rfl, (by exact hl_1), (Eq.trans (Eq.trans (Eq.trans (Eq.trans (Eq.trans (Eq.trans (Eq.trans (fr_dup _ _ 8 _ (by exact hl_1) (by rfl) (by exact (congrArg (Value.int .i64) (by omega)))).symm (fr_dup _ _ 7 _ (by exact hl_1) (by rfl) (by rfl)).symm) (fr_dup _ _ 12 _ (by exact hl_1) (by rfl) (by rfl)).symm) (fr_dup _ _ 11 _ (by exact hl_1) (by rfl) (by rfl)).symm) (fr_dup _ _ 10 _ (by exact hl_1) (by rfl) (by rfl)).symm) (fr_dup _ _ 5 _ (by exact hl_1) (by rfl) (by rfl)).symm) (fr_dup _ _ 4 _ (by exact hl_1) (by rfl) (by rfl)).symm) (fr_dup _ _ 2 _ (by exact hl_1) (by rfl) (by rfl)).symm), Nat.le_refl _, (by rw [pow8_start bs0 k ho0]; exact hw6)⟩
    rintro r_2 a0 w0_2 ⟨r, l_2, hr_2, hl_2, rfl, hr8, hw0_2⟩
    rcases pow_three r (gt bs0 k / 2 ^ (r - 1)) with hlt2 | hlt2 | hlt2
    ·
      obtain ⟨hr0_, hq1⟩ := hlt2
      obtain ⟨q, hqd⟩ : ∃ q, q = gt bs0 k / 2 ^ (r - 1) := ⟨_, rfl⟩
      have hqb : 0 ≤ q ∧ q < 256 := hqd ▸ div8_lo _ _ b1.1 b1.2
      rw [← hqd] at hq1
      refine wp_seq ?_
      refine seq_plain hw0_2 [0, 1] (by rfl) ?_
      refine L_val (.int .i64 ((r : Int) - 1)) (by rfl) (by exact hl_2) (gives_value _ fun _ => by rfl) ?_
      refine L_val (.bool true) (by rfl) (by exact hl_2) (gives_geq (k := .i64) ((r : Int) - 1) (0) true (by rfl) (by rfl) (decide_eq_true (by omega))) ?_
      refine L_end ?_
      intro w7 hw7
      refine wp_cond_true (fr_at _ _ (by exact hl_2) _) ?_
      refine wp_skip ?_
      change Code.wp _ _ _ _ _
      refine wp_seq ?_
      refine wp_block ?_
      refine seq_plain hw7 [0, 1, 2] (by rfl) ?_
      refine L_val (.agg (c12 (pw x ((num (bs0.take k)).toNat * 2 ^ (8 - r) + (gt bs0 k).toNat / 2 ^ r)))) (by rfl) (by exact hl_2) (gives_load g3 0 83 (c12 (pw x ((num (bs0.take k)).toNat * 2 ^ (8 - r) + (gt bs0 k).toNat / 2 ^ r))) (c12 (pw x ((num (bs0.take k)).toNat * 2 ^ (8 - r) + (gt bs0 k).toNat / 2 ^ r))) _ (by rfl) (fun _ h => h.blk 0 (by rfl)) (Sl.refl _) Tryd.underlying83 (by rfl) (hi_12 _)) ?_
      refine L_val (.agg (c12 ((pw x ((num (bs0.take k)).toNat * 2 ^ (8 - r) + (gt bs0 k).toNat / 2 ^ r)) * (pw x ((num (bs0.take k)).toNat * 2 ^ (8 - r) + (gt bs0 k).toNat / 2 ^ r))))) (by rfl) (by exact hl_2) (gives_call (vl := [.agg (c12 (pw x ((num (bs0.take k)).toNat * 2 ^ (8 - r) + (gt bs0 k).toNat / 2 ^ r)))]) (by kernel_rfl) (by rfl) (fun w h => t_square _ w (hG.keep h.below))) ?_
      refine L_store (t := 83) 0 g3 (c12 (pw x ((num (bs0.take k)).toNat * 2 ^ (8 - r) + (gt bs0 k).toNat / 2 ^ r))) (c12 ((pw x ((num (bs0.take k)).toNat * 2 ^ (8 - r) + (gt bs0 k).toNat / 2 ^ r)) * (pw x ((num (bs0.take k)).toNat * 2 ^ (8 - r) + (gt bs0 k).toNat / 2 ^ r)))) (by rfl) (by exact hl_2) (by rfl) (by rfl) (by rfl) (hi_12 _) ((c12_size _).trans (c12_size _).symm) (c12_one _) ?_
      simp only [List.set_cons_zero, List.set_cons_succ]
      refine L_end ?_
      intro w8 hw8
      refine seq_plain hw8 [0, 1, 2, 3, 4] (by rfl) ?_
      refine L_val (.int .u8 (gt bs0 k)) (by rfl) (by exact hl_2) (gives_value _ fun _ => by rfl) ?_
      refine L_val (.int .i64 ((r : Int) - 1)) (by rfl) (by exact hl_2) (gives_value _ fun _ => by rfl) ?_
      refine L_val (.int .u8 q) (by rfl) (by exact hl_2) (gives_shr (k := .u8) (k2 := .i64) (gt bs0 k) ((r : Int) - 1) q (by rfl) (by rfl) (by omega) (shr_bit8 _ r q hr0_ hr8 hqd)) ?_
      refine L_val (.int .u8 (q % 2)) (by rfl) (by exact hl_2) (gives_and (k := .u8) (q) 1 (q % 2) (by rfl) (by rfl) (and_one8 _ hqb.1 hqb.2)) ?_
      refine L_val (.bool true) (by rfl) (by exact hl_2) (gives_ieq (k := .u8) (q % 2) (1) true (by rfl) (by rfl) (decide_eq_true (by omega))) ?_
      refine L_end ?_
      intro w9 hw9
      refine wp_cond_true (fr_at _ _ (by exact hl_2) _) ?_
      refine one_plain hw9 [0, 1, 2, 3] (by rfl) ?_
      refine L_val (.agg (c12 ((pw x ((num (bs0.take k)).toNat * 2 ^ (8 - r) + (gt bs0 k).toNat / 2 ^ r)) * (pw x ((num (bs0.take k)).toNat * 2 ^ (8 - r) + (gt bs0 k).toNat / 2 ^ r))))) (by rfl) (by exact hl_2) (gives_load g3 0 83 (c12 ((pw x ((num (bs0.take k)).toNat * 2 ^ (8 - r) + (gt bs0 k).toNat / 2 ^ r)) * (pw x ((num (bs0.take k)).toNat * 2 ^ (8 - r) + (gt bs0 k).toNat / 2 ^ r)))) (c12 ((pw x ((num (bs0.take k)).toNat * 2 ^ (8 - r) + (gt bs0 k).toNat / 2 ^ r)) * (pw x ((num (bs0.take k)).toNat * 2 ^ (8 - r) + (gt bs0 k).toNat / 2 ^ r)))) _ (by rfl) (fun _ h => h.blk 0 (by rfl)) (Sl.refl _) Tryd.underlying83 (by rfl) (hi_12 _)) ?_
      refine L_val (.agg (c12 (x))) (by rfl) (by exact hl_2) (gives_load g1 0 83 (c12 (x)) (c12 (x)) _ (by rfl) (fun _ h => h.blk 2 (by rfl)) (Sl.refl _) Tryd.underlying83 (by rfl) (hi_12 _)) ?_
      refine L_val (.agg (c12 (((pw x ((num (bs0.take k)).toNat * 2 ^ (8 - r) + (gt bs0 k).toNat / 2 ^ r)) * (pw x ((num (bs0.take k)).toNat * 2 ^ (8 - r) + (gt bs0 k).toNat / 2 ^ r))) * (x)))) (by rfl) (by exact hl_2) (gives_call (vl := [.agg (c12 ((pw x ((num (bs0.take k)).toNat * 2 ^ (8 - r) + (gt bs0 k).toNat / 2 ^ r)) * (pw x ((num (bs0.take k)).toNat * 2 ^ (8 - r) + (gt bs0 k).toNat / 2 ^ r)))), .agg (c12 (x))]) (by kernel_rfl) (by rfl) (fun w h => t_mul _ _ w (hG.keep h.below))) ?_
      refine L_store (t := 83) 0 g3 (c12 ((pw x ((num (bs0.take k)).toNat * 2 ^ (8 - r) + (gt bs0 k).toNat / 2 ^ r)) * (pw x ((num (bs0.take k)).toNat * 2 ^ (8 - r) + (gt bs0 k).toNat / 2 ^ r)))) (c12 (((pw x ((num (bs0.take k)).toNat * 2 ^ (8 - r) + (gt bs0 k).toNat / 2 ^ r)) * (pw x ((num (bs0.take k)).toNat * 2 ^ (8 - r) + (gt bs0 k).toNat / 2 ^ r))) * (x))) (by rfl) (by exact hl_2) (by rfl) (by rfl) (by rfl) (hi_12 _) ((c12_size _).trans (c12_size _).symm) (c12_one _) ?_
      simp only [List.set_cons_zero, List.set_cons_succ]
      refine L_end ?_
      intro w10 hw10
      change Code.wp _ _ _ _ _
      refine one_plain hw10 [0, 1, 2] (by rfl) ?_
      refine L_val (.int .i64 ((r : Int) - 1)) (by rfl) (by exact hl_2) (gives_value _ fun _ => by rfl) ?_
      refine L_val (.int .i64 (((r : Int) - 1) - 1)) (by rfl) (by exact hl_2) (gives_sub (k := .i64) ((r : Int) - 1) (1) (((r : Int) - 1) - 1) (by rfl) (by rfl) (IntWalk.i64_in _ (by omega))) ?_
      refine L_val (.int .i64 (((r : Int) - 1) - 1)) (by rfl) (by exact hl_2) (gives_value _ fun _ => by rfl) ?_
      refine L_end ?_
      intro w11 hw11
      change ∃ r' : Nat, r' < r_2 ∧ _
      refine ⟨_, ?_, r - 1, ((8, .int .i64 (((r : Int) - 1) - 1)) :: (19, .int .i64 (((r : Int) - 1) - 1)) :: (18, .int .i64 ((r : Int) - 1)) :: (29, .agg (c12 (((pw x ((num (bs0.take k)).toNat * 2 ^ (8 - r) + (gt bs0 k).toNat / 2 ^ r)) * (pw x ((num (bs0.take k)).toNat * 2 ^ (8 - r) + (gt bs0 k).toNat / 2 ^ r))) * (x)))) :: (28, .agg (c12 (x))) :: (27, .agg (c12 ((pw x ((num (bs0.take k)).toNat * 2 ^ (8 - r) + (gt bs0 k).toNat / 2 ^ r)) * (pw x ((num (bs0.take k)).toNat * 2 ^ (8 - r) + (gt bs0 k).toNat / 2 ^ r))))) :: (26, .bool true) :: (25, .int .u8 (q % 2)) :: (24, .int .u8 q) :: (23, .int .i64 ((r : Int) - 1)) :: (22, .int .u8 (gt bs0 k)) :: (21, .agg (c12 ((pw x ((num (bs0.take k)).toNat * 2 ^ (8 - r) + (gt bs0 k).toNat / 2 ^ r)) * (pw x ((num (bs0.take k)).toNat * 2 ^ (8 - r) + (gt bs0 k).toNat / 2 ^ r))))) :: (20, .agg (c12 (pw x ((num (bs0.take k)).toNat * 2 ^ (8 - r) + (gt bs0 k).toNat / 2 ^ r)))) :: (17, .bool true) :: (16, .int .i64 ((r : Int) - 1)) :: (2, .pointer (some ⟨g1, 0, none⟩)) :: (4, .pointer (some ⟨g2, 0, none⟩)) :: (5, .pointer (some ⟨g3, 0, none⟩)) :: (10, .slice A0 n0 c0) :: (11, .int .i64 (n0 : Int)) :: (12, .int .i64 (k : Int)) :: (7, .int .u8 (gt bs0 k)) :: (8, .int .i64 ((r : Int) - 1)) :: l_2), rfl, (by exact hl_2), (Eq.trans (Eq.trans (Eq.trans (Eq.trans (Eq.trans (Eq.trans (Eq.trans (fr_dup _ _ 8 _ (by exact hl_2) (by rfl) (by exact (congrArg (Value.int .i64) (by omega)))).symm (fr_dup _ _ 7 _ (by exact hl_2) (by rfl) (by rfl)).symm) (fr_dup _ _ 12 _ (by exact hl_2) (by rfl) (by rfl)).symm) (fr_dup _ _ 11 _ (by exact hl_2) (by rfl) (by rfl)).symm) (fr_dup _ _ 10 _ (by exact hl_2) (by rfl) (by rfl)).symm) (fr_dup _ _ 5 _ (by exact hl_2) (by rfl) (by rfl)).symm) (fr_dup _ _ 4 _ (by exact hl_2) (by rfl) (by rfl)).symm) (fr_dup _ _ 2 _ (by exact hl_2) (by rfl) (by rfl)).symm), by omega, (by rw [← pow8_odd T12.cr x _ _ r hr0_ hr8 b1.1 q hqd hq1]; exact hw11)⟩
      omega
    ·
      obtain ⟨hr0_, hq1⟩ := hlt2
      obtain ⟨q, hqd⟩ : ∃ q, q = gt bs0 k / 2 ^ (r - 1) := ⟨_, rfl⟩
      have hqb : 0 ≤ q ∧ q < 256 := hqd ▸ div8_lo _ _ b1.1 b1.2
      rw [← hqd] at hq1
      refine wp_seq ?_
      refine seq_plain hw0_2 [0, 1] (by rfl) ?_
      refine L_val (.int .i64 ((r : Int) - 1)) (by rfl) (by exact hl_2) (gives_value _ fun _ => by rfl) ?_
      refine L_val (.bool true) (by rfl) (by exact hl_2) (gives_geq (k := .i64) ((r : Int) - 1) (0) true (by rfl) (by rfl) (decide_eq_true (by omega))) ?_
      refine L_end ?_
      intro w12 hw12
      refine wp_cond_true (fr_at _ _ (by exact hl_2) _) ?_
      refine wp_skip ?_
      change Code.wp _ _ _ _ _
      refine wp_seq ?_
      refine wp_block ?_
      refine seq_plain hw12 [0, 1, 2] (by rfl) ?_
      refine L_val (.agg (c12 (pw x ((num (bs0.take k)).toNat * 2 ^ (8 - r) + (gt bs0 k).toNat / 2 ^ r)))) (by rfl) (by exact hl_2) (gives_load g3 0 83 (c12 (pw x ((num (bs0.take k)).toNat * 2 ^ (8 - r) + (gt bs0 k).toNat / 2 ^ r))) (c12 (pw x ((num (bs0.take k)).toNat * 2 ^ (8 - r) + (gt bs0 k).toNat / 2 ^ r))) _ (by rfl) (fun _ h => h.blk 0 (by rfl)) (Sl.refl _) Tryd.underlying83 (by rfl) (hi_12 _)) ?_
      refine L_val (.agg (c12 ((pw x ((num (bs0.take k)).toNat * 2 ^ (8 - r) + (gt bs0 k).toNat / 2 ^ r)) * (pw x ((num (bs0.take k)).toNat * 2 ^ (8 - r) + (gt bs0 k).toNat / 2 ^ r))))) (by rfl) (by exact hl_2) (gives_call (vl := [.agg (c12 (pw x ((num (bs0.take k)).toNat * 2 ^ (8 - r) + (gt bs0 k).toNat / 2 ^ r)))]) (by kernel_rfl) (by rfl) (fun w h => t_square _ w (hG.keep h.below))) ?_
      refine L_store (t := 83) 0 g3 (c12 (pw x ((num (bs0.take k)).toNat * 2 ^ (8 - r) + (gt bs0 k).toNat / 2 ^ r))) (c12 ((pw x ((num (bs0.take k)).toNat * 2 ^ (8 - r) + (gt bs0 k).toNat / 2 ^ r)) * (pw x ((num (bs0.take k)).toNat * 2 ^ (8 - r) + (gt bs0 k).toNat / 2 ^ r)))) (by rfl) (by exact hl_2) (by rfl) (by rfl) (by rfl) (hi_12 _) ((c12_size _).trans (c12_size _).symm) (c12_one _) ?_
      simp only [List.set_cons_zero, List.set_cons_succ]
      refine L_end ?_
      intro w13 hw13
      refine seq_plain hw13 [0, 1, 2, 3, 4] (by rfl) ?_
      refine L_val (.int .u8 (gt bs0 k)) (by rfl) (by exact hl_2) (gives_value _ fun _ => by rfl) ?_
      refine L_val (.int .i64 ((r : Int) - 1)) (by rfl) (by exact hl_2) (gives_value _ fun _ => by rfl) ?_
      refine L_val (.int .u8 q) (by rfl) (by exact hl_2) (gives_shr (k := .u8) (k2 := .i64) (gt bs0 k) ((r : Int) - 1) q (by rfl) (by rfl) (by omega) (shr_bit8 _ r q hr0_ hr8 hqd)) ?_
      refine L_val (.int .u8 (q % 2)) (by rfl) (by exact hl_2) (gives_and (k := .u8) (q) 1 (q % 2) (by rfl) (by rfl) (and_one8 _ hqb.1 hqb.2)) ?_
      refine L_val (.bool false) (by rfl) (by exact hl_2) (gives_ieq (k := .u8) (q % 2) (1) false (by rfl) (by rfl) (decide_eq_false (by omega))) ?_
      refine L_end ?_
      intro w14 hw14
      refine wp_cond_false (fr_at _ _ (by exact hl_2) _) ?_
      refine wp_skip ?_
      change Code.wp _ _ _ _ _
      refine one_plain hw14 [0, 1, 2] (by rfl) ?_
      refine L_val (.int .i64 ((r : Int) - 1)) (by rfl) (by exact hl_2) (gives_value _ fun _ => by rfl) ?_
      refine L_val (.int .i64 (((r : Int) - 1) - 1)) (by rfl) (by exact hl_2) (gives_sub (k := .i64) ((r : Int) - 1) (1) (((r : Int) - 1) - 1) (by rfl) (by rfl) (IntWalk.i64_in _ (by omega))) ?_
      refine L_val (.int .i64 (((r : Int) - 1) - 1)) (by rfl) (by exact hl_2) (gives_value _ fun _ => by rfl) ?_
      refine L_end ?_
      intro w15 hw15
      change ∃ r' : Nat, r' < r_2 ∧ _
      refine ⟨_, ?_, r - 1, ((8, .int .i64 (((r : Int) - 1) - 1)) :: (19, .int .i64 (((r : Int) - 1) - 1)) :: (18, .int .i64 ((r : Int) - 1)) :: (26, .bool false) :: (25, .int .u8 (q % 2)) :: (24, .int .u8 q) :: (23, .int .i64 ((r : Int) - 1)) :: (22, .int .u8 (gt bs0 k)) :: (21, .agg (c12 ((pw x ((num (bs0.take k)).toNat * 2 ^ (8 - r) + (gt bs0 k).toNat / 2 ^ r)) * (pw x ((num (bs0.take k)).toNat * 2 ^ (8 - r) + (gt bs0 k).toNat / 2 ^ r))))) :: (20, .agg (c12 (pw x ((num (bs0.take k)).toNat * 2 ^ (8 - r) + (gt bs0 k).toNat / 2 ^ r)))) :: (17, .bool true) :: (16, .int .i64 ((r : Int) - 1)) :: (2, .pointer (some ⟨g1, 0, none⟩)) :: (4, .pointer (some ⟨g2, 0, none⟩)) :: (5, .pointer (some ⟨g3, 0, none⟩)) :: (10, .slice A0 n0 c0) :: (11, .int .i64 (n0 : Int)) :: (12, .int .i64 (k : Int)) :: (7, .int .u8 (gt bs0 k)) :: (8, .int .i64 ((r : Int) - 1)) :: l_2), rfl, (by exact hl_2), (Eq.trans (Eq.trans (Eq.trans (Eq.trans (Eq.trans (Eq.trans (Eq.trans (fr_dup _ _ 8 _ (by exact hl_2) (by rfl) (by exact (congrArg (Value.int .i64) (by omega)))).symm (fr_dup _ _ 7 _ (by exact hl_2) (by rfl) (by rfl)).symm) (fr_dup _ _ 12 _ (by exact hl_2) (by rfl) (by rfl)).symm) (fr_dup _ _ 11 _ (by exact hl_2) (by rfl) (by rfl)).symm) (fr_dup _ _ 10 _ (by exact hl_2) (by rfl) (by rfl)).symm) (fr_dup _ _ 5 _ (by exact hl_2) (by rfl) (by rfl)).symm) (fr_dup _ _ 4 _ (by exact hl_2) (by rfl) (by rfl)).symm) (fr_dup _ _ 2 _ (by exact hl_2) (by rfl) (by rfl)).symm), by omega, (by rw [← pow8_even T12.cr x _ _ r hr0_ hr8 b1.1 q hqd hq1]; exact hw15)⟩
      omega
    ·
      refine wp_seq ?_
      refine seq_plain hw0_2 [0, 1] (by rfl) ?_
      refine L_val (.int .i64 ((r : Int) - 1)) (by rfl) (by exact hl_2) (gives_value _ fun _ => by rfl) ?_
      refine L_val (.bool false) (by rfl) (by exact hl_2) (gives_geq (k := .i64) ((r : Int) - 1) (0) false (by rfl) (by rfl) (decide_eq_false (by omega))) ?_
      refine L_end ?_
      intro w16 hw16
      refine wp_cond_false (fr_at _ _ (by exact hl_2) _) ?_
      refine wp_exit ?_
      change Code.wp _ _ _ _ _
      change Code.wp _ _ _ _ _
      refine one_plain hw16 [0, 1] (by rfl) ?_
      refine L_val (.int .i64 ((k : Int) + 1)) (by rfl) (by exact hl_2) (gives_add (k := .i64) ((k : Int)) (1) ((k : Int) + 1) (by rfl) (by rfl) (IntWalk.i64_in _ (by omega))) ?_
      refine L_val (.int .i64 ((k : Int) + 1)) (by rfl) (by exact hl_2) (gives_value _ fun _ => by rfl) ?_
      refine L_end ?_
      intro w17 hw17
      change ∃ r' : Nat, r' < r_1 ∧ _
      refine ⟨_, ?_, k + 1, ((12, .int .i64 ((k : Int) + 1)) :: (30, .int .i64 ((k : Int) + 1)) :: (17, .bool false) :: (16, .int .i64 ((r : Int) - 1)) :: (2, .pointer (some ⟨g1, 0, none⟩)) :: (4, .pointer (some ⟨g2, 0, none⟩)) :: (5, .pointer (some ⟨g3, 0, none⟩)) :: (10, .slice A0 n0 c0) :: (11, .int .i64 (n0 : Int)) :: (12, .int .i64 (k : Int)) :: (7, .int .u8 (gt bs0 k)) :: (8, .int .i64 ((r : Int) - 1)) :: l_2), rfl, (by exact hl_2), (Eq.trans (Eq.trans (Eq.trans (Eq.trans (Eq.trans (fr_dup _ _ 12 _ (by exact hl_2) (by rfl) (by rfl)).symm (fr_dup _ _ 11 _ (by exact hl_2) (by rfl) (by rfl)).symm) (fr_dup _ _ 10 _ (by exact hl_2) (by rfl) (by rfl)).symm) (fr_dup _ _ 5 _ (by exact hl_2) (by rfl) (by rfl)).symm) (fr_dup _ _ 4 _ (by exact hl_2) (by rfl) (by rfl)).symm) (fr_dup _ _ 2 _ (by exact hl_2) (by rfl) (by rfl)).symm), by omega, (by rw [pow8_end bs0 k (by omega) ho0 r hlt2]; exact hw17)⟩
      omega
  ·
    refine seq_plain hw0_1 [0] (by rfl) ?_
    refine L_val (.bool false) (by rfl) (by exact hl_1) (gives_lss (k := .i64) ((k : Int)) ((n0 : Int)) false (by rfl) (by rfl) (decide_eq_false (by omega))) ?_
    refine L_end ?_
    intro w18 hw18
    refine wp_seq ?_
    refine wp_cond_false (fr_at _ _ (by exact hl_1) _) ?_
    refine wp_exit ?_
    have hkN : k = n0 := by omega
    change Code.wp _ _ _ _ _
    change Code.wp _ _ _ _ _
    refine seq_plain hw18 [0, 1] (by rfl) ?_
    refine L_val (.agg (c12 (pw x ((num (bs0.take k)).toNat)))) (by rfl) (by exact hl_1) (gives_load g3 0 83 (c12 (pw x ((num (bs0.take k)).toNat))) (c12 (pw x ((num (bs0.take k)).toNat))) _ (by rfl) (fun _ h => h.blk 0 (by rfl)) (Sl.refl _) Tryd.underlying83 (by rfl) (hi_12 _)) ?_
    refine L_store (t := 83) 1 g2 (c12 (0 : T12)) (c12 (pw x ((num (bs0.take k)).toNat))) (by rfl) (by exact hl_1) (by rfl) (by rfl) (by rfl) (hi_12 _) ((c12_size _).trans (c12_size _).symm) (c12_one _) ?_
    simp only [List.set_cons_zero, List.set_cons_succ]
    refine L_end ?_
    intro w19 hw19
    refine wp_ret ?_
    change bodyPost _ _ _ Exit.ret _ _
    refine (ret_cell (by rfl) (by exact hl_1) (by rfl) (hw19.blk 1 (by rfl)) Tryd.underlying83 (by rfl) (hi_12 _) ⟨?_, hw19.below⟩)
    refine congrArg (fun z : T12 => Ending.returned (.agg (c12 z))) ?_
    rw [hkN, List.take_of_length_le (by omega)]
end Go.Proofs.YtialfoccalobpaaDoor
