/-
  The reference's powers, roots and signs; FpRoots: the walk.
-/
import Derived.Test.YtlbmohofdgooaaaDoorR3Z
namespace Go.Proofs.YtlbmohofdgooaaaDoor
set_option linter.unusedSimpArgs false
set_option linter.unusedVariables false
open Go.RowKit
theorem reads_cells {w : World} {B n : Nat} {A : Option Addr} {q : IntKind} {l : List Int} (h : Reads w B A n (l.map (Value.int q))) (h0 : 0 < n) :
    ∃ b o, A = some ⟨b, o, none⟩ ∧ b < B ∧ ∀ k, k < n → w.cell? ⟨b, o + k, none⟩ = some (.int q (gt l k)) := by
  obtain ⟨b, o, e, hb, -⟩ := reads_cell h h0
  refine ⟨b, o, e, hb, fun k hk => ?_⟩
  obtain ⟨b2, o2, e2, -, hc⟩ := reads_cell h hk
  rw [e] at e2
  simp only [Option.some.injEq, Addr.mk.injEq] at e2
  obtain ⟨rfl, rfl, -⟩ := e2
  exact hc
/-! ### Half -/
theorem half_digit (l : List Int) (h : W16 l) (k : Nat) : gt l k / 2 + gt l (k + 1) % 2 * 32768 = va l / 2 / 65536 ^ k % 65536 := by
  have h1 := va_word l h k
  have h2 := va_word l h (k + 1)
  rw [div_next] at h2
  have e : va l / 2 / 65536 ^ k = va l / 65536 ^ k / 2 := by
    rw [← edd _ _ _ (by omega), ← edd _ _ _ (Int.le_of_lt (bp k)), Int.mul_comm]
  rw [e]
  generalize va l / 65536 ^ k = W at *
  omega
theorem half_last (l : List Int) (h : W16 l) (k : Nat) (hk : l.length ≤ k + 1) : gt l k / 2 = va l / 2 / 65536 ^ k % 65536 := by
  have e := half_digit l h k
  rw [gt_none l (k + 1) hk] at e
  omega
theorem shr_1 (a : Int) (h0 : 0 ≤ a) : a.fdiv (2 ^ (min (1 : Int).toNat IntKind.u32.bits)) = a / 2 := by
  have e : (2 : Int) ^ (min (1 : Int).toNat IntKind.u32.bits) = 2 := by decide
  rw [e, Int.fdiv_eq_ediv_of_nonneg _ (by omega)]
theorem shl_15 (a : Int) (h0 : 0 ≤ a) (h : a ≤ 1) : IntKind.u32.wrap (a * 2 ^ (min (15 : Int).toNat IntKind.u32.bits)) = a * 32768 := by
  have e : (2 : Int) ^ (min (15 : Int).toNat IntKind.u32.bits) = 32768 := by decide
  rw [e, w32 _ (by omega) (by omega)]
theorem or_15 (a b : Int) (h0 : 0 ≤ a) (h : a < 32768) (b0 : 0 ≤ b) (b1 : b ≤ 1) : IntKind.u32.wrap (((a % 2 ^ IntKind.u32.bits).toNat ||| ((b * 32768) % 2 ^ IntKind.u32.bits).toNat : Nat) : Int) = a + b * 32768 :=
  or_low a b 15 h0 (by simpa using h) b0 (by simp; omega) (by omega) (by simp; omega)
theorem half_three (k n : Nat) : (k < n ∧ k + 1 < n) ∨ (k < n ∧ ¬ k + 1 < n) ∨ ¬ k < n := by omega
/-! ### Power -/
theorem pow_zero' (a p : Int) (l : List Int) (h : W16 l) (n : Nat) (hn : l.length = n) : a ^ (va l / 2 ^ (16 * n)).toNat % p = 1 % p := by
  have h1 := va_lt l h
  rw [hn, show (65536 : Int) = 2 ^ 16 from rfl, ← Int.pow_mul] at h1
  rw [Int.ediv_eq_zero_of_lt h1.1 h1.2]
  simp
theorem pow_even (a p E : Int) (r : Nat) (hr : 0 < r) (h0 : 0 ≤ E) (hb : E / 2 ^ (r - 1) % 2 = 0) : a ^ (E / 2 ^ r).toNat % p * (a ^ (E / 2 ^ r).toNat % p) % p = a ^ (E / 2 ^ (r - 1)).toNat % p := by
  obtain ⟨i, rfl⟩ : ∃ i, r = i + 1 := ⟨r - 1, by omega⟩
  have e : E / 2 ^ (i + 1) = E / 2 ^ i / 2 := by rw [Int.pow_succ, edd _ _ _ (Int.le_of_lt (Int.pow_pos (by omega)))]
  rw [e]
  simp only [Nat.add_sub_cancel] at *
  have hq : 0 ≤ E / 2 ^ i := Int.ediv_nonneg h0 (Int.le_of_lt (Int.pow_pos (by omega)))
  generalize E / 2 ^ i = Q at *
  rw [← Int.mul_emod, ← Int.pow_add]
  congr 2
  omega
theorem pow_odd (a p E : Int) (r : Nat) (hr : 0 < r) (h0 : 0 ≤ E) (hb : E / 2 ^ (r - 1) % 2 = 1) : a ^ (E / 2 ^ r).toNat % p * (a ^ (E / 2 ^ r).toNat % p) % p * a % p = a ^ (E / 2 ^ (r - 1)).toNat % p := by
  obtain ⟨i, rfl⟩ : ∃ i, r = i + 1 := ⟨r - 1, by omega⟩
  have e : E / 2 ^ (i + 1) = E / 2 ^ i / 2 := by rw [Int.pow_succ, edd _ _ _ (Int.le_of_lt (Int.pow_pos (by omega)))]
  rw [e]
  simp only [Nat.add_sub_cancel] at *
  have hq : 0 ≤ E / 2 ^ i := Int.ediv_nonneg h0 (Int.le_of_lt (Int.pow_pos (by omega)))
  generalize E / 2 ^ i = Q at *
  rw [← Int.mul_emod, ← Int.pow_add, Int.mul_emod (_ % p) a p, Int.emod_emod_of_dvd _ (Int.dvd_refl p), ← Int.mul_emod, ← Int.pow_succ]
  congr 2
  omega
theorem pow_three (r : Nat) (q : Int) : (0 < r ∧ q % 2 = 1) ∨ (0 < r ∧ q % 2 = 0) ∨ r = 0 := by omega
theorem one_num {w : World} {g : Nat} (hB : Blk w g 54 #[.int .u32 1]) : NumAt w (some ⟨g, 0, none⟩) 1 1 :=
  (show WB #[.int .u32 1] 1 1 1 from ⟨rfl, by omega, by omega, rfl⟩).num hB ⟨by omega, by simp⟩ (by omega)
section
variable {P : Program} {fn : Func} {E : Ending → World → Prop} {n : Nat} {sl : List (Nat × Value)} {w : World}
theorem ret_tmp_tmp {s s' : Nat} {u u' : Value} (hres : fn.results = #[.tmp s, .tmp s']) (hl : inFr n sl = true) (hs : look sl s = u) (hs' : look sl s' = u') (hE : E (.returned (.tuple #[u, u'])) w) : bodyPost P fn E .ret (fr n sl) w := by
  refine bodyPost_ret (v := .tuple #[u, u']) ?_ (fr_defers n sl) hE
  simp [results, hres, fr_at n sl hl, hs, hs']
end
section
variable {P : Program} {S : World → Prop}
theorem gives_eqbb {l : List (Nat × Value)} {dst : Option Tmp} {t ct ty : TypeId} {x y : Operand} {pos : String} {after : Array Edge} {gd : Option (Nat × Bool)} (a b : Bool) (hx : rho l x = .bool a) (hy : rho l y = .bool b)
    (ht : P.underlying t = some .bool) (h : a = b) : Gives P S (.bool true) (execOp (rho l) ⟨dst, .binOp .eql t x y ct, ty, pos, after, gd⟩) := gives_value _ fun w => by
  subst h
  have h' : (Op.equal t (.bool a) (.bool a)).run P w = .ok true w := by
    unfold Op.equal
    rw [show Op.maxDepth = 9999 + 1 from rfl, run_equalIn_bool w 9999 t a a ht]
    simp
  simp [execOp, hx, hy, eqGuard, binOp, h']
theorem gives_nebb {l : List (Nat × Value)} {dst : Option Tmp} {t ct ty : TypeId} {x y : Operand} {pos : String} {after : Array Edge} {gd : Option (Nat × Bool)} (a : Bool) (hx : rho l x = .bool a) (hy : rho l y = .bool a)
    (ht : P.underlying t = some .bool) : Gives P S (.bool false) (execOp (rho l) ⟨dst, .binOp .neq t x y ct, ty, pos, after, gd⟩) := gives_value _ fun w => by
  have h' : (Op.equal t (.bool a) (.bool a)).run P w = .ok true w := by
    unfold Op.equal
    rw [show Op.maxDepth = 9999 + 1 from rfl, run_equalIn_bool w 9999 t a a ht]
    simp
  simp [execOp, hx, hy, eqGuard, binOp, h']
end
theorem n_less' (w : World) (A0 : Option Addr) (n0 c0 : Nat) (a : Int) (A1 : Option Addr) (n1 c1 : Nat) (b : Int) (ha : NumAt w A0 n0 a) (hb : NumAt w A1 n1 b) : Rets 19 #[.slice A0 n0 c0, .slice A1 n1 c1] w (.bool (decide (a < b))) := by
  have s0 := ha.sz
  have s1 := hb.sz
  have e := r3_less w A0 n0 c0 _ A1 n1 c1 _ ha.rd hb.rd (wl_w16 _ _) (wl_w16 _ _) (by omega) (by omega)
  rw [ha.va, hb.va] at e
  exact e
theorem n_same3' (w : World) (A0 : Option Addr) (n0 c0 : Nat) (a : Int) (A1 : Option Addr) (n1 c1 : Nat) (b : Int) (ha : NumAt w A0 n0 a) (hb : NumAt w A1 n1 b) : Rets 21 #[.slice A0 n0 c0, .slice A1 n1 c1] w (.bool (decide (a = b))) := by
  have s0 := ha.sz
  have s1 := hb.sz
  have e := r3_same w A0 n0 c0 _ A1 n1 c1 _ ha.rd hb.rd (wl_w16 _ _) (wl_w16 _ _) (by omega) (by omega)
  rw [ha.va, hb.va] at e
  exact e
/-! ### Roots as numbers -/
theorem Qp_half : ((Mp + 1) / 2 / 2).toNat = Qp := by unfold Mp Qp; decide +kernel
theorem rt_n (X : Int) : (Fp.n X).rt = Fp.n ((X % Mp) ^ Qp % Mp) := by
  unfold Fp.rt
  rw [Fp.n_mod, Fp.n_pow, Fp.n_mod]
theorem rt_val (X : Int) : ((Fp.n X).rt.val : Int) = (X % Mp) ^ Qp % Mp := by
  rw [rt_n, Fp.n_val]
  exact Int.emod_emod_of_dvd _ (Int.dvd_refl _)
theorem rt_sq (X : Int) : (X % Mp) ^ Qp % Mp * ((X % Mp) ^ Qp % Mp) % Mp = X % Mp ↔ (Fp.n X).rt * (Fp.n X).rt = Fp.n X := by
  rw [rt_n, ← Fp.n_mul, Fp.n_inj]
theorem up_iff (X : Int) : Up ≤ ((Fp.n X).val : Int) ↔ Mp < X % Mp + X % Mp := by
  rw [Fp.n_val]
  generalize X % Mp = a
  unfold Up Mp
  omega
theorem odd_iff (X : Int) : (Fp.n X).val % 2 = 1 ↔ X % Mp % 65536 % 2 = 1 := by
  have h := Fp.n_val X
  omega
attribute [local irreducible] wpL wpF fr Code.wp bodyPost
set_option maxRecDepth 100000 in
set_option maxHeartbeats 4000000 in
theorem r4_half (A0 : Option Addr) (n0 c0 : Nat) (l0 : List Int) (v : World) (hr0 : Reads v v.heap.size A0 n0 (l0.map (Value.int .u32))) (ho0 : W16 l0) (hb0 : n0 ≤ 1099511627776) : RetsW 55 #[.slice A0 n0 c0] v n0 (va l0 / 2) := by
  have hn0 : l0.length = n0 := by simpa using hr0.1
  refine calls_fr1 Tryd.func55 rfl (by rfl : _ = 37) (by rfl) ?_
  have hw := Hbl.nil v
  refine seq_plain hw [0] (by rfl) ?_
  refine L_val (.slice none 0 0) (by rfl) (by rfl) (gives_value _ fun _ => by rfl) ?_
  refine L_end ?_
  intro w1 hw1
  refine seq_plain hw1 [0, 1] (by rfl) ?_
  refine L_build0 1 (by rfl) (by rfl) und_u32s u32_sz ?_; intro g1
  refine L_val (.slice (some ⟨g1, 0, none⟩) 0 0) (by rfl) (by rfl) (gives_value _ fun _ => by rfl) ?_
  refine L_end ?_
  intro w2 hw2
  refine wp_seq ?_
  refine seq_plain hw2 [0, 1, 2] (by rfl) ?_
  refine L_val (.slice A0 n0 c0) (by rfl) (by rfl) (gives_value _ fun _ => by rfl) ?_
  refine L_val (.int .i64 (n0 : Int)) (by rfl) (by rfl) (gives_len _ n0 c0 und_u32s (by rfl)) ?_
  refine L_val (.int .i64 0) (by rfl) (by rfl) (gives_value _ fun _ => by rfl) ?_
  refine L_end ?_
  intro w3 hw3
  refine wp_block ?_
  refine loop_down (fun (r_ : Nat) a w => ∃ (k : Nat) (g : Nat) (cap : Nat) (cs : Array Value) (l_1 : List (Nat × Value)), n0 - k = r_ ∧ inFr 37 l_1 = true ∧ a = fr 37 ((0, .slice A0 n0 c0) :: (3, .slice (some ⟨g, 0, none⟩) k cap) :: (8, .int .i64 (n0 : Int)) :: (9, .int .i64 (k : Int)) :: l_1) ∧ (k ≤ n0) ∧ (WB cs cap k (va l0 / 2)) ∧ Hbl v [(g, 54, cs)] w) ?_ _ _ _ ⟨0, g1, 0, #[], [(9, .int .i64 0), (8, .int .i64 (n0 : Int)), (7, .slice A0 n0 c0), (3, .slice (some ⟨g1, 0, none⟩) 0 0), (6, .slice (some ⟨g1, 0, none⟩) 0 0), (2, .slice none 0 0), (0, .slice A0 n0 c0)], rfl, (by rfl), (Eq.trans (Eq.trans (Eq.trans (fr_dup _ _ 9 _ (by rfl) (by rfl) (by rfl)).symm (fr_dup _ _ 8 _ (by rfl) (by rfl) (by rfl)).symm) (fr_dup _ _ 3 _ (by rfl) (by rfl) (by rfl)).symm) (fr_dup _ _ 0 _ (by rfl) (by rfl) (by rfl)).symm), Nat.zero_le _, WB.nil _, hw3⟩
  rintro r_1 a0 w0_1 ⟨k, g, cap, cs, l_1, hr_1, hl_1, rfl, hk, hwb, hw0_1⟩
  rcases half_three k n0 with hcase | hcase | hcase
  ·
    obtain ⟨hlt, hnx⟩ := hcase
    have b1 := ho0.at_ k
    have b2 := ho0.at_ (k + 1)
    obtain ⟨b0, o0, hA0, hq0, hcs0⟩ := reads_cells hr0 (show 0 < n0 by omega)
    refine seq_plain hw0_1 [0] (by rfl) ?_
    refine L_val (.bool true) (by rfl) (by exact hl_1) (gives_lss (k := .i64) ((k : Int)) ((n0 : Int)) true (by rfl) (by rfl) (decide_eq_true (by omega))) ?_
    refine L_end ?_
    intro w4 hw4
    refine wp_seq ?_
    refine wp_cond_true (fr_at _ _ (by exact hl_1) _) ?_
    refine wp_skip ?_
    change Code.wp _ _ _ _ _
    refine wp_seq ?_
    refine wp_block ?_
    refine seq_plain hw4 [0, 1] (by rfl) ?_
    refine L_val (.int .i64 (k : Int)) (by rfl) (by exact hl_1) (gives_value _ fun _ => by rfl) ?_
    refine L_val (.int .i64 (k : Int)) (by rfl) (by exact hl_1) (gives_value _ fun _ => by rfl) ?_
    refine L_end ?_
    intro w5 hw5
    refine seq_plain hw5 [0, 1, 2, 3, 4, 5] (by rfl) ?_
    refine L_val (.slice A0 n0 c0) (by rfl) (by exact hl_1) (gives_value _ fun _ => by rfl) ?_
    refine L_val (.int .i64 (k : Int)) (by rfl) (by exact hl_1) (gives_value _ fun _ => by rfl) ?_
    refine L_val (.pointer (some ⟨b0, o0 + (k), none⟩)) (by rfl) (by exact hl_1) (gives_index_old A0 n0 c0 ((k : Int)) (k) _ _ hA0 (by rfl) (by rfl) und_u32s u32_sz rfl (by omega)) ?_
    refine L_val (.int .u32 (gt l0 k)) (by rfl) (by exact hl_1) (gives_load_old _ (.int .u32 (gt l0 k)) (by rfl) (fun _ h => (h.below.cell (p := ⟨b0, _, none⟩) hq0).trans (hcs0 k (by omega))) und_u32) ?_
    refine L_val (.int .u32 ((gt l0 k) / 2)) (by rfl) (by exact hl_1) (gives_shr (k := .u32) (k2 := .u64) (gt l0 k) 1 ((gt l0 k) / 2) (by rfl) (by rfl) (by omega) (shr_1 _ b1.1)) ?_
    refine L_val (.int .u32 ((gt l0 k) / 2)) (by rfl) (by exact hl_1) (gives_value _ fun _ => by rfl) ?_
    refine L_end ?_
    intro w6 hw6
    refine wp_seq ?_
    refine seq_plain hw6 [0, 1, 2, 3, 4] (by rfl) ?_
    refine L_val (.int .i64 (k : Int)) (by rfl) (by exact hl_1) (gives_value _ fun _ => by rfl) ?_
    refine L_val (.int .i64 ((k : Int) + 1)) (by rfl) (by exact hl_1) (gives_add (k := .i64) ((k : Int)) (1) ((k : Int) + 1) (by rfl) (by rfl) (IntWalk.i64_in _ (by omega))) ?_
    refine L_val (.slice A0 n0 c0) (by rfl) (by exact hl_1) (gives_value _ fun _ => by rfl) ?_
    refine L_val (.int .i64 (n0 : Int)) (by rfl) (by exact hl_1) (gives_len _ n0 c0 und_u32s (by rfl)) ?_
    refine L_val (.bool true) (by rfl) (by exact hl_1) (gives_lss (k := .i64) ((k : Int) + 1) ((n0 : Int)) true (by rfl) (by rfl) (decide_eq_true (by omega))) ?_
    refine L_end ?_
    intro w7 hw7
    refine wp_cond_true (fr_at _ _ (by exact hl_1) _) ?_
    refine one_plain hw7 [0, 1, 2, 3, 4, 5, 6, 7, 8, 9] (by rfl) ?_
    refine L_val (.int .u32 ((gt l0 k) / 2)) (by rfl) (by exact hl_1) (gives_value _ fun _ => by rfl) ?_
    refine L_val (.slice A0 n0 c0) (by rfl) (by exact hl_1) (gives_value _ fun _ => by rfl) ?_
    refine L_val (.int .i64 (k : Int)) (by rfl) (by exact hl_1) (gives_value _ fun _ => by rfl) ?_
    refine L_val (.int .i64 ((k : Int) + 1)) (by rfl) (by exact hl_1) (gives_add (k := .i64) ((k : Int)) (1) ((k : Int) + 1) (by rfl) (by rfl) (IntWalk.i64_in _ (by omega))) ?_
    refine L_val (.pointer (some ⟨b0, o0 + (k + 1), none⟩)) (by rfl) (by exact hl_1) (gives_index_old A0 n0 c0 ((k : Int) + 1) (k + 1) _ _ hA0 (by rfl) (by rfl) und_u32s u32_sz (by omega) (by omega)) ?_
    refine L_val (.int .u32 (gt l0 (k + 1))) (by rfl) (by exact hl_1) (gives_load_old _ (.int .u32 (gt l0 (k + 1))) (by rfl) (fun _ h => (h.below.cell (p := ⟨b0, _, none⟩) hq0).trans (hcs0 (k + 1) (by omega))) und_u32) ?_
    refine L_val (.int .u32 ((gt l0 (k + 1)) % 2)) (by rfl) (by exact hl_1) (gives_and (k := .u32) (gt l0 (k + 1)) 1 ((gt l0 (k + 1)) % 2) (by rfl) (by rfl) (and_one32 _ (by omega) (by omega))) ?_
    refine L_val (.int .u32 (((gt l0 (k + 1)) % 2) * 32768)) (by rfl) (by exact hl_1) (gives_shl (k := .u32) (k2 := .u64) ((gt l0 (k + 1)) % 2) 15 (((gt l0 (k + 1)) % 2) * 32768) (by rfl) (by rfl) (by omega) (shl_15 _ (by omega) (by omega))) ?_
    refine L_val (.int .u32 (((gt l0 k) / 2) + (((gt l0 (k + 1)) % 2) * 32768))) (by rfl) (by exact hl_1) (gives_or (k := .u32) ((gt l0 k) / 2) (((gt l0 (k + 1)) % 2) * 32768) (((gt l0 k) / 2) + (((gt l0 (k + 1)) % 2) * 32768)) (by rfl) (by rfl) (or_15 _ _ (by omega) (by omega) (by omega) (by omega))) ?_
    refine L_val (.int .u32 (((gt l0 k) / 2) + (((gt l0 (k + 1)) % 2) * 32768))) (by rfl) (by exact hl_1) (gives_value _ fun _ => by rfl) ?_
    refine L_end ?_
    intro w8 hw8
    change Code.wp _ _ _ _ _
    refine one_plain hw8 [0, 1, 2, 3, 4] (by rfl) ?_
    refine L_val (.slice (some ⟨g, 0, none⟩) k cap) (by rfl) (by exact hl_1) (gives_value _ fun _ => by rfl) ?_
    refine L_val (.int .u32 (((gt l0 k) / 2) + (((gt l0 (k + 1)) % 2) * 32768))) (by rfl) (by exact hl_1) (gives_value _ fun _ => by rfl) ?_
    refine L_build1 (.int .u32 (((gt l0 k) / 2) + (((gt l0 (k + 1)) % 2) * 32768))) (.int .u32 0) (by rfl) (by exact hl_1) und_u32s u32_zs rfl (by rfl) rfl ?_; intro g2
    refine L_append 1 0 g g2 k cap 1 4 (.int .u32 0) (.int .u32 (((gt l0 k) / 2) + (((gt l0 (k + 1)) % 2) * 32768))) cs (by rfl) (by exact hl_1) und_u32s u32_all rfl (by rfl) (by rfl) (by rfl) (by rfl) rfl hwb.le hwb.size hwb.cap (by omega) (by omega) [(g2, 54, #[.int .u32 (((gt l0 k) / 2) + (((gt l0 (k + 1)) % 2) * 32768))])] (by rfl) ?_
    intro g3 cap_1 cs_1 ha1 hb1 hc1 hd1
    refine L_val (.slice (some ⟨g3, 0, none⟩) (k + 1) cap_1) (by rfl) (by exact hl_1) (gives_value _ fun _ => by rfl) ?_
    refine L_end ?_
    intro w9 hw9
    change Code.wp _ _ _ _ _
    refine one_plain hw9 [0, 1] (by rfl) ?_
    refine L_val (.int .i64 ((k : Int) + 1)) (by rfl) (by exact hl_1) (gives_add (k := .i64) ((k : Int)) (1) ((k : Int) + 1) (by rfl) (by rfl) (IntWalk.i64_in _ (by omega))) ?_
    refine L_val (.int .i64 ((k : Int) + 1)) (by rfl) (by exact hl_1) (gives_value _ fun _ => by rfl) ?_
    refine L_end ?_
    intro w10 hw10
    change ∃ r' : Nat, r' < r_1 ∧ _
    refine ⟨_, ?_, k + 1, g3, cap_1, cs_1, ((9, .int .i64 ((k : Int) + 1)) :: (35, .int .i64 ((k : Int) + 1)) :: (3, .slice (some ⟨g3, 0, none⟩) (k + 1) cap_1) :: (34, .slice (some ⟨g3, 0, none⟩) (k + 1) cap_1) :: (33, .slice (some ⟨g2, 0, none⟩) 1 1) :: (32, .int .u32 (((gt l0 k) / 2) + (((gt l0 (k + 1)) % 2) * 32768))) :: (31, .slice (some ⟨g, 0, none⟩) k cap) :: (5, .int .u32 (((gt l0 k) / 2) + (((gt l0 (k + 1)) % 2) * 32768))) :: (30, .int .u32 (((gt l0 k) / 2) + (((gt l0 (k + 1)) % 2) * 32768))) :: (29, .int .u32 (((gt l0 (k + 1)) % 2) * 32768)) :: (28, .int .u32 ((gt l0 (k + 1)) % 2)) :: (27, .int .u32 (gt l0 (k + 1))) :: (26, .pointer (some ⟨b0, o0 + (k + 1), none⟩)) :: (25, .int .i64 ((k : Int) + 1)) :: (24, .int .i64 (k : Int)) :: (23, .slice A0 n0 c0) :: (22, .int .u32 ((gt l0 k) / 2)) :: (21, .bool true) :: (20, .int .i64 (n0 : Int)) :: (19, .slice A0 n0 c0) :: (18, .int .i64 ((k : Int) + 1)) :: (17, .int .i64 (k : Int)) :: (5, .int .u32 ((gt l0 k) / 2)) :: (16, .int .u32 ((gt l0 k) / 2)) :: (15, .int .u32 (gt l0 k)) :: (14, .pointer (some ⟨b0, o0 + (k), none⟩)) :: (13, .int .i64 (k : Int)) :: (12, .slice A0 n0 c0) :: (4, .int .i64 (k : Int)) :: (11, .int .i64 (k : Int)) :: (10, .bool true) :: (0, .slice A0 n0 c0) :: (3, .slice (some ⟨g, 0, none⟩) k cap) :: (8, .int .i64 (n0 : Int)) :: (9, .int .i64 (k : Int)) :: l_1), rfl, (by exact hl_1), (Eq.trans (Eq.trans (Eq.trans (fr_dup _ _ 9 _ (by exact hl_1) (by rfl) (by rfl)).symm (fr_dup _ _ 8 _ (by exact hl_1) (by rfl) (by rfl)).symm) (fr_dup _ _ 3 _ (by exact hl_1) (by rfl) (by rfl)).symm) (fr_dup _ _ 0 _ (by exact hl_1) (by rfl) (by rfl)).symm), by omega, hwb.snoc ha1 hb1 hc1 hd1 (half_digit l0 ho0 k), hw10.sub (List.Sublist.cons_cons _ (List.Sublist.cons _ (List.Sublist.refl _)))⟩
    omega
  ·
    obtain ⟨hlt, hnx⟩ := hcase
    have b1 := ho0.at_ k
    have b2 := ho0.at_ (k + 1)
    obtain ⟨b0, o0, hA0, hq0, hcs0⟩ := reads_cells hr0 (show 0 < n0 by omega)
    refine seq_plain hw0_1 [0] (by rfl) ?_
    refine L_val (.bool true) (by rfl) (by exact hl_1) (gives_lss (k := .i64) ((k : Int)) ((n0 : Int)) true (by rfl) (by rfl) (decide_eq_true (by omega))) ?_
    refine L_end ?_
    intro w11 hw11
    refine wp_seq ?_
    refine wp_cond_true (fr_at _ _ (by exact hl_1) _) ?_
    refine wp_skip ?_
    change Code.wp _ _ _ _ _
    refine wp_seq ?_
    refine wp_block ?_
    refine seq_plain hw11 [0, 1] (by rfl) ?_
    refine L_val (.int .i64 (k : Int)) (by rfl) (by exact hl_1) (gives_value _ fun _ => by rfl) ?_
    refine L_val (.int .i64 (k : Int)) (by rfl) (by exact hl_1) (gives_value _ fun _ => by rfl) ?_
    refine L_end ?_
    intro w12 hw12
    refine seq_plain hw12 [0, 1, 2, 3, 4, 5] (by rfl) ?_
    refine L_val (.slice A0 n0 c0) (by rfl) (by exact hl_1) (gives_value _ fun _ => by rfl) ?_
    refine L_val (.int .i64 (k : Int)) (by rfl) (by exact hl_1) (gives_value _ fun _ => by rfl) ?_
    refine L_val (.pointer (some ⟨b0, o0 + (k), none⟩)) (by rfl) (by exact hl_1) (gives_index_old A0 n0 c0 ((k : Int)) (k) _ _ hA0 (by rfl) (by rfl) und_u32s u32_sz rfl (by omega)) ?_
    refine L_val (.int .u32 (gt l0 k)) (by rfl) (by exact hl_1) (gives_load_old _ (.int .u32 (gt l0 k)) (by rfl) (fun _ h => (h.below.cell (p := ⟨b0, _, none⟩) hq0).trans (hcs0 k (by omega))) und_u32) ?_
    refine L_val (.int .u32 ((gt l0 k) / 2)) (by rfl) (by exact hl_1) (gives_shr (k := .u32) (k2 := .u64) (gt l0 k) 1 ((gt l0 k) / 2) (by rfl) (by rfl) (by omega) (shr_1 _ b1.1)) ?_
    refine L_val (.int .u32 ((gt l0 k) / 2)) (by rfl) (by exact hl_1) (gives_value _ fun _ => by rfl) ?_
    refine L_end ?_
    intro w13 hw13
    refine wp_seq ?_
    refine seq_plain hw13 [0, 1, 2, 3, 4] (by rfl) ?_
    refine L_val (.int .i64 (k : Int)) (by rfl) (by exact hl_1) (gives_value _ fun _ => by rfl) ?_
    refine L_val (.int .i64 ((k : Int) + 1)) (by rfl) (by exact hl_1) (gives_add (k := .i64) ((k : Int)) (1) ((k : Int) + 1) (by rfl) (by rfl) (IntWalk.i64_in _ (by omega))) ?_
    refine L_val (.slice A0 n0 c0) (by rfl) (by exact hl_1) (gives_value _ fun _ => by rfl) ?_
    refine L_val (.int .i64 (n0 : Int)) (by rfl) (by exact hl_1) (gives_len _ n0 c0 und_u32s (by rfl)) ?_
    refine L_val (.bool false) (by rfl) (by exact hl_1) (gives_lss (k := .i64) ((k : Int) + 1) ((n0 : Int)) false (by rfl) (by rfl) (decide_eq_false (by omega))) ?_
    refine L_end ?_
    intro w14 hw14
    refine wp_cond_false (fr_at _ _ (by exact hl_1) _) ?_
    refine wp_skip ?_
    change Code.wp _ _ _ _ _
    refine one_plain hw14 [0, 1, 2, 3, 4] (by rfl) ?_
    refine L_val (.slice (some ⟨g, 0, none⟩) k cap) (by rfl) (by exact hl_1) (gives_value _ fun _ => by rfl) ?_
    refine L_val (.int .u32 ((gt l0 k) / 2)) (by rfl) (by exact hl_1) (gives_value _ fun _ => by rfl) ?_
    refine L_build1 (.int .u32 ((gt l0 k) / 2)) (.int .u32 0) (by rfl) (by exact hl_1) und_u32s u32_zs rfl (by rfl) rfl ?_; intro g4
    refine L_append 1 0 g g4 k cap 1 4 (.int .u32 0) (.int .u32 ((gt l0 k) / 2)) cs (by rfl) (by exact hl_1) und_u32s u32_all rfl (by rfl) (by rfl) (by rfl) (by rfl) rfl hwb.le hwb.size hwb.cap (by omega) (by omega) [(g4, 54, #[.int .u32 ((gt l0 k) / 2)])] (by rfl) ?_
    intro g5 cap_2 cs_2 ha2 hb2 hc2 hd2
    refine L_val (.slice (some ⟨g5, 0, none⟩) (k + 1) cap_2) (by rfl) (by exact hl_1) (gives_value _ fun _ => by rfl) ?_
    refine L_end ?_
    intro w15 hw15
    change Code.wp _ _ _ _ _
    refine one_plain hw15 [0, 1] (by rfl) ?_
    refine L_val (.int .i64 ((k : Int) + 1)) (by rfl) (by exact hl_1) (gives_add (k := .i64) ((k : Int)) (1) ((k : Int) + 1) (by rfl) (by rfl) (IntWalk.i64_in _ (by omega))) ?_
    refine L_val (.int .i64 ((k : Int) + 1)) (by rfl) (by exact hl_1) (gives_value _ fun _ => by rfl) ?_
    refine L_end ?_
    intro w16 hw16
    change ∃ r' : Nat, r' < r_1 ∧ _
    refine ⟨_, ?_, k + 1, g5, cap_2, cs_2, ((9, .int .i64 ((k : Int) + 1)) :: (35, .int .i64 ((k : Int) + 1)) :: (3, .slice (some ⟨g5, 0, none⟩) (k + 1) cap_2) :: (34, .slice (some ⟨g5, 0, none⟩) (k + 1) cap_2) :: (33, .slice (some ⟨g4, 0, none⟩) 1 1) :: (32, .int .u32 ((gt l0 k) / 2)) :: (31, .slice (some ⟨g, 0, none⟩) k cap) :: (21, .bool false) :: (20, .int .i64 (n0 : Int)) :: (19, .slice A0 n0 c0) :: (18, .int .i64 ((k : Int) + 1)) :: (17, .int .i64 (k : Int)) :: (5, .int .u32 ((gt l0 k) / 2)) :: (16, .int .u32 ((gt l0 k) / 2)) :: (15, .int .u32 (gt l0 k)) :: (14, .pointer (some ⟨b0, o0 + (k), none⟩)) :: (13, .int .i64 (k : Int)) :: (12, .slice A0 n0 c0) :: (4, .int .i64 (k : Int)) :: (11, .int .i64 (k : Int)) :: (10, .bool true) :: (0, .slice A0 n0 c0) :: (3, .slice (some ⟨g, 0, none⟩) k cap) :: (8, .int .i64 (n0 : Int)) :: (9, .int .i64 (k : Int)) :: l_1), rfl, (by exact hl_1), (Eq.trans (Eq.trans (Eq.trans (fr_dup _ _ 9 _ (by exact hl_1) (by rfl) (by rfl)).symm (fr_dup _ _ 8 _ (by exact hl_1) (by rfl) (by rfl)).symm) (fr_dup _ _ 3 _ (by exact hl_1) (by rfl) (by rfl)).symm) (fr_dup _ _ 0 _ (by exact hl_1) (by rfl) (by rfl)).symm), by omega, hwb.snoc ha2 hb2 hc2 hd2 (half_last l0 ho0 k (by omega)), hw16.sub (List.Sublist.cons_cons _ (List.Sublist.cons _ (List.Sublist.refl _)))⟩
    omega
  ·
    refine seq_plain hw0_1 [0] (by rfl) ?_
    refine L_val (.bool false) (by rfl) (by exact hl_1) (gives_lss (k := .i64) ((k : Int)) ((n0 : Int)) false (by rfl) (by rfl) (decide_eq_false (by omega))) ?_
    refine L_end ?_
    intro w17 hw17
    refine wp_seq ?_
    refine wp_cond_false (fr_at _ _ (by exact hl_1) _) ?_
    refine wp_exit ?_
    have hkN : k = n0 := by omega
    change Code.wp _ _ _ _ _
    change Code.wp _ _ _ _ _
    refine seq_plain hw17 [0, 1] (by rfl) ?_
    refine L_val (.slice (some ⟨g, 0, none⟩) k cap) (by rfl) (by exact hl_1) (gives_value _ fun _ => by rfl) ?_
    refine L_val (.slice (some ⟨g, 0, none⟩) k cap) (by rfl) (by exact hl_1) (gives_value _ fun _ => by rfl) ?_
    refine L_end ?_
    intro w18 hw18
    subst hkN
    refine wp_ret ?_
    change bodyPost _ _ _ Exit.ret _ _
    refine (ret_tmp (by rfl) (by exact hl_1) (by rfl) ⟨g, cap, cs, rfl, hwb, hw18.ge 0 (by rfl), hw18.blk 0 (by rfl), hw18.below⟩)
theorem n_half (w : World) (A0 : Option Addr) (n0 c0 : Nat) (a : Int) (h0 : NumAt w A0 n0 a) : RetsW 55 #[.slice A0 n0 c0] w n0 (a / 2) := by
  have s0 := h0.sz
  have h := r4_half A0 n0 c0 (wl a n0) w h0.rd (wl_w16 _ _) (by omega)
  rwa [h0.va] at h
theorem half_rng {a : Int} {n : Nat} (h0 : 0 ≤ a) (h : a < 65536 ^ n) : 0 ≤ a / 2 ∧ a / 2 < 65536 ^ n := by omega
set_option maxRecDepth 100000 in
set_option maxHeartbeats 4000000 in
theorem r3_power (A0 : Option Addr) (n0 c0 : Nat) (z : Int) (A1 : Option Addr) (n1 c1 : Nat) (l1 : List Int) (A2 : Option Addr) (n2 c2 : Nat) (p : Int) (v : World) (h0 : NumAt v A0 n0 z) (hr1 : Reads v v.heap.size A1 n1 (l1.map (Value.int .u32))) (ho1 : W16 l1) (hb1 : n1 ≤ 1099511627776) (h2 : NumAt v A2 n2 p) (hp : 0 < p) (hs : n0 + n2 + n2 + n2 ≤ 1000000) : RetsW 54 #[.slice A0 n0 c0, .slice A1 n1 c1, .slice A2 n2 c2] v n2 (z ^ (va l1).toNat % p) := by
  have hn1 : l1.length = n1 := by simpa using hr1.1
  refine calls_fr3 Tryd.func54 rfl (by rfl : _ = 40) (by rfl) ?_
  have hw := Hbl.nil v
  refine seq_plain hw [0] (by rfl) ?_
  refine L_val (.slice none 0 0) (by rfl) (by rfl) (gives_value _ fun _ => by rfl) ?_
  refine L_end ?_
  intro w1 hw1
  refine seq_plain hw1 [0, 1, 2, 3] (by rfl) ?_
  refine L_build1 (.int .u32 1) (.int .u32 0) (by rfl) (by rfl) und_u32s u32_zs rfl (by rfl) rfl ?_; intro g1
  refine L_val (.slice A2 n2 c2) (by rfl) (by rfl) (gives_value _ fun _ => by rfl) ?_
  refine L_freshW (vl := [.slice (some ⟨g1, 0, none⟩) 1 1, .slice A2 n2 c2]) (n2) (1 % p) (by rfl) (by rfl) (by kernel_rfl) (by rfl) (fun w h => n_mod w _ _ _ _ _ _ _ _ (one_num (h.blk 0 (by rfl))) (h2.of h) hp) ?_; intro g2 cap_1 cs_1 hwb_1
  refine L_val (.slice (some ⟨g2, 0, none⟩) (n2) cap_1) (by rfl) (by rfl) (gives_value _ fun _ => by rfl) ?_
  refine L_end ?_
  intro w2 hw2
  refine wp_seq ?_
  refine seq_plain hw2 [0, 1, 2, 3, 4] (by rfl) ?_
  refine L_val (.slice A1 n1 c1) (by rfl) (by rfl) (gives_value _ fun _ => by rfl) ?_
  refine L_val (.int .i64 (n1 : Int)) (by rfl) (by rfl) (gives_len _ n1 c1 und_u32s (by rfl)) ?_
  refine L_val (.int .i64 (16 * (n1 : Int))) (by rfl) (by rfl) (gives_mul (k := .i64) (16) ((n1 : Int)) (16 * (n1 : Int)) (by rfl) (by rfl) (IntWalk.i64_in _ (by omega))) ?_
  refine L_val (.int .i64 ((16 * (n1 : Int)) - 1)) (by rfl) (by rfl) (gives_sub (k := .i64) (16 * (n1 : Int)) (1) ((16 * (n1 : Int)) - 1) (by rfl) (by rfl) (IntWalk.i64_in _ (by omega))) ?_
  refine L_val (.int .i64 ((16 * (n1 : Int)) - 1)) (by rfl) (by rfl) (gives_value _ fun _ => by rfl) ?_
  refine L_end ?_
  intro w3 hw3
  refine wp_block ?_
  refine loop_down (fun (r_ : Nat) a w => ∃ (r : Nat) (g : Nat) (cap : Nat) (cs : Array Value) (l_1 : List (Nat × Value)), r = r_ ∧ inFr 40 l_1 = true ∧ a = fr 40 ((0, .slice A0 n0 c0) :: (1, .slice A1 n1 c1) :: (2, .slice A2 n2 c2) :: (7, .slice (some ⟨g, 0, none⟩) n2 cap) :: (8, .int .i64 ((r : Int) - 1)) :: l_1) ∧ (r ≤ 16 * n1) ∧ (WB cs cap n2 (z ^ (va l1 / 2 ^ r).toNat % p)) ∧ Hbl v [(g, 54, cs)] w) ?_ _ _ _ ⟨16 * n1, g2, cap_1, cs_1, [(8, .int .i64 ((16 * (n1 : Int)) - 1)), (15, .int .i64 ((16 * (n1 : Int)) - 1)), (14, .int .i64 (16 * (n1 : Int))), (13, .int .i64 (n1 : Int)), (12, .slice A1 n1 c1), (7, .slice (some ⟨g2, 0, none⟩) (n2) cap_1), (11, .slice (some ⟨g2, 0, none⟩) (n2) cap_1), (10, .slice A2 n2 c2), (9, .slice (some ⟨g1, 0, none⟩) 1 1), (6, .slice none 0 0), (2, .slice A2 n2 c2), (1, .slice A1 n1 c1), (0, .slice A0 n0 c0)], rfl, (by rfl), (Eq.trans (Eq.trans (Eq.trans (Eq.trans (fr_dup _ _ 8 _ (by rfl) (by rfl) (by exact (congrArg (Value.int .i64) (by omega)))).symm (fr_dup _ _ 7 _ (by rfl) (by rfl) (by rfl)).symm) (fr_dup _ _ 2 _ (by rfl) (by rfl) (by rfl)).symm) (fr_dup _ _ 1 _ (by rfl) (by rfl) (by rfl)).symm) (fr_dup _ _ 0 _ (by rfl) (by rfl) (by rfl)).symm), Nat.le_refl _, (hwb_1.val (pow_zero' z p l1 ho1 n1 hn1).symm), hw3.sub (List.Sublist.cons_cons _ (List.Sublist.cons _ (List.Sublist.refl _)))⟩
  rintro r_1 a0 w0_1 ⟨r, g, cap, cs, l_1, hr_1, hl_1, rfl, hk, hwb_99, hw0_1⟩
  rcases pow_three r (gt l1 ((r - 1) / 16) / 2 ^ ((r - 1) % 16)) with hlt | hlt | hlt
  ·
    obtain ⟨hr0, hq1⟩ := hlt
    obtain ⟨q, hqd⟩ : ∃ q, q = gt l1 ((r - 1) / 16) / 2 ^ ((r - 1) % 16) := ⟨_, rfl⟩
    have hqb : 0 ≤ q ∧ q < 65536 := hqd ▸ div_lo _ _ (ho1.at_ _).1 (ho1.at_ _).2
    have hbit : q % 2 = va l1 / 2 ^ (r - 1) % 2 := hqd ▸ va_bit l1 ho1 (r - 1)
    rw [← hqd] at hq1
    obtain ⟨b1, o1, hA1, hq1_, hce1⟩ := reads_cell hr1 (show (r - 1) / 16 < n1 by omega)
    refine wp_seq ?_
    refine seq_plain hw0_1 [0, 1] (by rfl) ?_
    refine L_val (.int .i64 ((r : Int) - 1)) (by rfl) (by exact hl_1) (gives_value _ fun _ => by rfl) ?_
    refine L_val (.bool true) (by rfl) (by exact hl_1) (gives_geq (k := .i64) ((r : Int) - 1) (0) true (by rfl) (by rfl) (decide_eq_true (by omega))) ?_
    refine L_end ?_
    intro w4 hw4
    refine wp_cond_true (fr_at _ _ (by exact hl_1) _) ?_
    refine wp_skip ?_
    change Code.wp _ _ _ _ _
    refine wp_seq ?_
    refine wp_block ?_
    refine seq_plain hw4 [0, 1, 2, 3, 4] (by rfl) ?_
    refine L_val (.slice (some ⟨g, 0, none⟩) n2 cap) (by rfl) (by exact hl_1) (gives_value _ fun _ => by rfl) ?_
    refine L_val (.slice (some ⟨g, 0, none⟩) n2 cap) (by rfl) (by exact hl_1) (gives_value _ fun _ => by rfl) ?_
    refine L_val (.slice A2 n2 c2) (by rfl) (by exact hl_1) (gives_value _ fun _ => by rfl) ?_
    refine L_freshW (vl := [.slice (some ⟨g, 0, none⟩) n2 cap, .slice (some ⟨g, 0, none⟩) n2 cap, .slice A2 n2 c2]) (n2) (((z ^ (va l1 / 2 ^ r).toNat % p) * (z ^ (va l1 / 2 ^ r).toNat % p)) % p) (by rfl) (by exact hl_1) (by kernel_rfl) (by rfl) (fun w h => n_mul w _ _ _ _ _ _ _ _ _ _ _ _ (hwb_99.num (h.blk 0 (by rfl)) (mod_rng _ _ _ hp h2.hi) (by omega)) (hwb_99.num (h.blk 0 (by rfl)) (mod_rng _ _ _ hp h2.hi) (by omega)) (h2.of h) hp (by omega)) ?_; intro g3 cap_2 cs_2 hwb_2
    refine L_val (.slice (some ⟨g3, 0, none⟩) (n2) cap_2) (by rfl) (by exact hl_1) (gives_value _ fun _ => by rfl) ?_
    refine L_end ?_
    intro w5 hw5
    refine seq_plain hw5 [0, 1, 2, 3, 4, 5, 6, 7, 8, 9, 10] (by rfl) ?_
    refine L_val (.slice A1 n1 c1) (by rfl) (by exact hl_1) (gives_value _ fun _ => by rfl) ?_
    refine L_val (.int .i64 ((r : Int) - 1)) (by rfl) (by exact hl_1) (gives_value _ fun _ => by rfl) ?_
    refine L_val (.int .i64 (((r : Int) - 1) / 16)) (by rfl) (by exact hl_1) (gives_quo (k := .i64) ((r : Int) - 1) (16) (((r : Int) - 1) / 16) (by rfl) (by rfl) (by omega) (IntWalk.i64_quo _ _ (by omega))) ?_
    refine L_val (.pointer (some ⟨b1, o1 + ((r - 1) / 16), none⟩)) (by rfl) (by exact hl_1) (gives_index_old A1 n1 c1 (((r : Int) - 1) / 16) ((r - 1) / 16) _ _ hA1 (by rfl) (by rfl) und_u32s u32_sz (by omega) (by omega)) ?_
    refine L_val (.int .u32 (gt l1 ((r - 1) / 16))) (by rfl) (by exact hl_1) (gives_load_old _ (.int .u32 (gt l1 ((r - 1) / 16))) (by rfl) (fun _ h => (h.below.cell (p := ⟨b1, _, none⟩) hq1_).trans hce1) und_u32) ?_
    refine L_val (.int .i64 ((r : Int) - 1)) (by rfl) (by exact hl_1) (gives_value _ fun _ => by rfl) ?_
    refine L_val (.int .i64 (((r : Int) - 1) % 16)) (by rfl) (by exact hl_1) (gives_rem (k := .i64) ((r : Int) - 1) (16) (((r : Int) - 1) % 16) (by rfl) (by rfl) (by omega) (IntWalk.rem_in _ _ (by omega))) ?_
    refine L_val (.int .u64 (((r : Int) - 1) % 16)) (by rfl) (by exact hl_1) (gives_conv (k2 := .u64) (((r : Int) - 1) % 16) (((r : Int) - 1) % 16) (by rfl) und_int und_uint (IntWalk.u64_in _ (by omega))) ?_
    refine L_val (.int .u32 q) (by rfl) (by exact hl_1) (gives_shr (k := .u32) (k2 := .u64) (gt l1 ((r - 1) / 16)) (((r : Int) - 1) % 16) q (by rfl) (by rfl) (by omega) (shr_bit _ r q hr0 (ho1.at_ _).1 hqd)) ?_
    refine L_val (.int .u32 (q % 2)) (by rfl) (by exact hl_1) (gives_and (k := .u32) (q) 1 (q % 2) (by rfl) (by rfl) (and_one32 _ (by omega) (by omega))) ?_
    refine L_val (.bool true) (by rfl) (by exact hl_1) (gives_ieq (k := .u32) (q % 2) (1) true (by rfl) (by rfl) (decide_eq_true (by omega))) ?_
    refine L_end ?_
    intro w6 hw6
    refine wp_cond_true (fr_at _ _ (by exact hl_1) _) ?_
    refine one_plain hw6 [0, 1, 2, 3, 4] (by rfl) ?_
    refine L_val (.slice (some ⟨g3, 0, none⟩) (n2) cap_2) (by rfl) (by exact hl_1) (gives_value _ fun _ => by rfl) ?_
    refine L_val (.slice A0 n0 c0) (by rfl) (by exact hl_1) (gives_value _ fun _ => by rfl) ?_
    refine L_val (.slice A2 n2 c2) (by rfl) (by exact hl_1) (gives_value _ fun _ => by rfl) ?_
    refine L_freshW (vl := [.slice (some ⟨g3, 0, none⟩) (n2) cap_2, .slice A0 n0 c0, .slice A2 n2 c2]) (n2) (((((z ^ (va l1 / 2 ^ r).toNat % p) * (z ^ (va l1 / 2 ^ r).toNat % p)) % p) * z) % p) (by rfl) (by exact hl_1) (by kernel_rfl) (by rfl) (fun w h => n_mul w _ _ _ _ _ _ _ _ _ _ _ _ (hwb_2.num (h.blk 0 (by rfl)) (mod_rng _ _ _ hp h2.hi) (by omega)) (h0.of h) (h2.of h) hp (by omega)) ?_; intro g4 cap_3 cs_3 hwb_3
    refine L_val (.slice (some ⟨g4, 0, none⟩) (n2) cap_3) (by rfl) (by exact hl_1) (gives_value _ fun _ => by rfl) ?_
    refine L_end ?_
    intro w7 hw7
    change Code.wp _ _ _ _ _
    refine one_plain hw7 [0, 1, 2] (by rfl) ?_
    refine L_val (.int .i64 ((r : Int) - 1)) (by rfl) (by exact hl_1) (gives_value _ fun _ => by rfl) ?_
    refine L_val (.int .i64 (((r : Int) - 1) - 1)) (by rfl) (by exact hl_1) (gives_sub (k := .i64) ((r : Int) - 1) (1) (((r : Int) - 1) - 1) (by rfl) (by rfl) (IntWalk.i64_in _ (by omega))) ?_
    refine L_val (.int .i64 (((r : Int) - 1) - 1)) (by rfl) (by exact hl_1) (gives_value _ fun _ => by rfl) ?_
    refine L_end ?_
    intro w8 hw8
    change ∃ r' : Nat, r' < r_1 ∧ _
    refine ⟨_, ?_, r - 1, g4, cap_3, cs_3, ((8, .int .i64 (((r : Int) - 1) - 1)) :: (19, .int .i64 (((r : Int) - 1) - 1)) :: (18, .int .i64 ((r : Int) - 1)) :: (7, .slice (some ⟨g4, 0, none⟩) (n2) cap_3) :: (38, .slice (some ⟨g4, 0, none⟩) (n2) cap_3) :: (37, .slice A2 n2 c2) :: (36, .slice A0 n0 c0) :: (35, .slice (some ⟨g3, 0, none⟩) (n2) cap_2) :: (34, .bool true) :: (33, .int .u32 (q % 2)) :: (32, .int .u32 q) :: (31, .int .u64 (((r : Int) - 1) % 16)) :: (30, .int .i64 (((r : Int) - 1) % 16)) :: (29, .int .i64 ((r : Int) - 1)) :: (28, .int .u32 (gt l1 ((r - 1) / 16))) :: (27, .pointer (some ⟨b1, o1 + ((r - 1) / 16), none⟩)) :: (26, .int .i64 (((r : Int) - 1) / 16)) :: (25, .int .i64 ((r : Int) - 1)) :: (24, .slice A1 n1 c1) :: (7, .slice (some ⟨g3, 0, none⟩) (n2) cap_2) :: (23, .slice (some ⟨g3, 0, none⟩) (n2) cap_2) :: (22, .slice A2 n2 c2) :: (21, .slice (some ⟨g, 0, none⟩) n2 cap) :: (20, .slice (some ⟨g, 0, none⟩) n2 cap) :: (17, .bool true) :: (16, .int .i64 ((r : Int) - 1)) :: (0, .slice A0 n0 c0) :: (1, .slice A1 n1 c1) :: (2, .slice A2 n2 c2) :: (7, .slice (some ⟨g, 0, none⟩) n2 cap) :: (8, .int .i64 ((r : Int) - 1)) :: l_1), rfl, (by exact hl_1), (Eq.trans (Eq.trans (Eq.trans (Eq.trans (fr_dup _ _ 8 _ (by exact hl_1) (by rfl) (by exact (congrArg (Value.int .i64) (by omega)))).symm (fr_dup _ _ 7 _ (by exact hl_1) (by rfl) (by rfl)).symm) (fr_dup _ _ 2 _ (by exact hl_1) (by rfl) (by rfl)).symm) (fr_dup _ _ 1 _ (by exact hl_1) (by rfl) (by rfl)).symm) (fr_dup _ _ 0 _ (by exact hl_1) (by rfl) (by rfl)).symm), by omega, hwb_3.val (pow_odd z p _ r hr0 (va_lt l1 ho1).1 (hbit ▸ hq1)), hw8.sub (List.Sublist.cons_cons _ (List.Sublist.cons _ (List.Sublist.cons _ (List.Sublist.refl _))))⟩
    omega
  ·
    obtain ⟨hr0, hq1⟩ := hlt
    obtain ⟨q, hqd⟩ : ∃ q, q = gt l1 ((r - 1) / 16) / 2 ^ ((r - 1) % 16) := ⟨_, rfl⟩
    have hqb : 0 ≤ q ∧ q < 65536 := hqd ▸ div_lo _ _ (ho1.at_ _).1 (ho1.at_ _).2
    have hbit : q % 2 = va l1 / 2 ^ (r - 1) % 2 := hqd ▸ va_bit l1 ho1 (r - 1)
    rw [← hqd] at hq1
    obtain ⟨b1, o1, hA1, hq1_, hce1⟩ := reads_cell hr1 (show (r - 1) / 16 < n1 by omega)
    refine wp_seq ?_
    refine seq_plain hw0_1 [0, 1] (by rfl) ?_
    refine L_val (.int .i64 ((r : Int) - 1)) (by rfl) (by exact hl_1) (gives_value _ fun _ => by rfl) ?_
    refine L_val (.bool true) (by rfl) (by exact hl_1) (gives_geq (k := .i64) ((r : Int) - 1) (0) true (by rfl) (by rfl) (decide_eq_true (by omega))) ?_
    refine L_end ?_
    intro w9 hw9
    refine wp_cond_true (fr_at _ _ (by exact hl_1) _) ?_
    refine wp_skip ?_
    change Code.wp _ _ _ _ _
    refine wp_seq ?_
    refine wp_block ?_
    refine seq_plain hw9 [0, 1, 2, 3, 4] (by rfl) ?_
    refine L_val (.slice (some ⟨g, 0, none⟩) n2 cap) (by rfl) (by exact hl_1) (gives_value _ fun _ => by rfl) ?_
    refine L_val (.slice (some ⟨g, 0, none⟩) n2 cap) (by rfl) (by exact hl_1) (gives_value _ fun _ => by rfl) ?_
    refine L_val (.slice A2 n2 c2) (by rfl) (by exact hl_1) (gives_value _ fun _ => by rfl) ?_
    refine L_freshW (vl := [.slice (some ⟨g, 0, none⟩) n2 cap, .slice (some ⟨g, 0, none⟩) n2 cap, .slice A2 n2 c2]) (n2) (((z ^ (va l1 / 2 ^ r).toNat % p) * (z ^ (va l1 / 2 ^ r).toNat % p)) % p) (by rfl) (by exact hl_1) (by kernel_rfl) (by rfl) (fun w h => n_mul w _ _ _ _ _ _ _ _ _ _ _ _ (hwb_99.num (h.blk 0 (by rfl)) (mod_rng _ _ _ hp h2.hi) (by omega)) (hwb_99.num (h.blk 0 (by rfl)) (mod_rng _ _ _ hp h2.hi) (by omega)) (h2.of h) hp (by omega)) ?_; intro g5 cap_4 cs_4 hwb_4
    refine L_val (.slice (some ⟨g5, 0, none⟩) (n2) cap_4) (by rfl) (by exact hl_1) (gives_value _ fun _ => by rfl) ?_
    refine L_end ?_
    intro w10 hw10
    refine seq_plain hw10 [0, 1, 2, 3, 4, 5, 6, 7, 8, 9, 10] (by rfl) ?_
    refine L_val (.slice A1 n1 c1) (by rfl) (by exact hl_1) (gives_value _ fun _ => by rfl) ?_
    refine L_val (.int .i64 ((r : Int) - 1)) (by rfl) (by exact hl_1) (gives_value _ fun _ => by rfl) ?_
    refine L_val (.int .i64 (((r : Int) - 1) / 16)) (by rfl) (by exact hl_1) (gives_quo (k := .i64) ((r : Int) - 1) (16) (((r : Int) - 1) / 16) (by rfl) (by rfl) (by omega) (IntWalk.i64_quo _ _ (by omega))) ?_
    refine L_val (.pointer (some ⟨b1, o1 + ((r - 1) / 16), none⟩)) (by rfl) (by exact hl_1) (gives_index_old A1 n1 c1 (((r : Int) - 1) / 16) ((r - 1) / 16) _ _ hA1 (by rfl) (by rfl) und_u32s u32_sz (by omega) (by omega)) ?_
    refine L_val (.int .u32 (gt l1 ((r - 1) / 16))) (by rfl) (by exact hl_1) (gives_load_old _ (.int .u32 (gt l1 ((r - 1) / 16))) (by rfl) (fun _ h => (h.below.cell (p := ⟨b1, _, none⟩) hq1_).trans hce1) und_u32) ?_
    refine L_val (.int .i64 ((r : Int) - 1)) (by rfl) (by exact hl_1) (gives_value _ fun _ => by rfl) ?_
    refine L_val (.int .i64 (((r : Int) - 1) % 16)) (by rfl) (by exact hl_1) (gives_rem (k := .i64) ((r : Int) - 1) (16) (((r : Int) - 1) % 16) (by rfl) (by rfl) (by omega) (IntWalk.rem_in _ _ (by omega))) ?_
    refine L_val (.int .u64 (((r : Int) - 1) % 16)) (by rfl) (by exact hl_1) (gives_conv (k2 := .u64) (((r : Int) - 1) % 16) (((r : Int) - 1) % 16) (by rfl) und_int und_uint (IntWalk.u64_in _ (by omega))) ?_
    refine L_val (.int .u32 q) (by rfl) (by exact hl_1) (gives_shr (k := .u32) (k2 := .u64) (gt l1 ((r - 1) / 16)) (((r : Int) - 1) % 16) q (by rfl) (by rfl) (by omega) (shr_bit _ r q hr0 (ho1.at_ _).1 hqd)) ?_
    refine L_val (.int .u32 (q % 2)) (by rfl) (by exact hl_1) (gives_and (k := .u32) (q) 1 (q % 2) (by rfl) (by rfl) (and_one32 _ (by omega) (by omega))) ?_
    refine L_val (.bool false) (by rfl) (by exact hl_1) (gives_ieq (k := .u32) (q % 2) (1) false (by rfl) (by rfl) (decide_eq_false (by omega))) ?_
    refine L_end ?_
    intro w11 hw11
    refine wp_cond_false (fr_at _ _ (by exact hl_1) _) ?_
    refine wp_skip ?_
    change Code.wp _ _ _ _ _
    refine one_plain hw11 [0, 1, 2] (by rfl) ?_
    refine L_val (.int .i64 ((r : Int) - 1)) (by rfl) (by exact hl_1) (gives_value _ fun _ => by rfl) ?_
    refine L_val (.int .i64 (((r : Int) - 1) - 1)) (by rfl) (by exact hl_1) (gives_sub (k := .i64) ((r : Int) - 1) (1) (((r : Int) - 1) - 1) (by rfl) (by rfl) (IntWalk.i64_in _ (by omega))) ?_
    refine L_val (.int .i64 (((r : Int) - 1) - 1)) (by rfl) (by exact hl_1) (gives_value _ fun _ => by rfl) ?_
    refine L_end ?_
    intro w12 hw12
    change ∃ r' : Nat, r' < r_1 ∧ _
    refine ⟨_, ?_, r - 1, g5, cap_4, cs_4, ((8, .int .i64 (((r : Int) - 1) - 1)) :: (19, .int .i64 (((r : Int) - 1) - 1)) :: (18, .int .i64 ((r : Int) - 1)) :: (34, .bool false) :: (33, .int .u32 (q % 2)) :: (32, .int .u32 q) :: (31, .int .u64 (((r : Int) - 1) % 16)) :: (30, .int .i64 (((r : Int) - 1) % 16)) :: (29, .int .i64 ((r : Int) - 1)) :: (28, .int .u32 (gt l1 ((r - 1) / 16))) :: (27, .pointer (some ⟨b1, o1 + ((r - 1) / 16), none⟩)) :: (26, .int .i64 (((r : Int) - 1) / 16)) :: (25, .int .i64 ((r : Int) - 1)) :: (24, .slice A1 n1 c1) :: (7, .slice (some ⟨g5, 0, none⟩) (n2) cap_4) :: (23, .slice (some ⟨g5, 0, none⟩) (n2) cap_4) :: (22, .slice A2 n2 c2) :: (21, .slice (some ⟨g, 0, none⟩) n2 cap) :: (20, .slice (some ⟨g, 0, none⟩) n2 cap) :: (17, .bool true) :: (16, .int .i64 ((r : Int) - 1)) :: (0, .slice A0 n0 c0) :: (1, .slice A1 n1 c1) :: (2, .slice A2 n2 c2) :: (7, .slice (some ⟨g, 0, none⟩) n2 cap) :: (8, .int .i64 ((r : Int) - 1)) :: l_1), rfl, (by exact hl_1), (Eq.trans (Eq.trans (Eq.trans (Eq.trans (fr_dup _ _ 8 _ (by exact hl_1) (by rfl) (by exact (congrArg (Value.int .i64) (by omega)))).symm (fr_dup _ _ 7 _ (by exact hl_1) (by rfl) (by rfl)).symm) (fr_dup _ _ 2 _ (by exact hl_1) (by rfl) (by rfl)).symm) (fr_dup _ _ 1 _ (by exact hl_1) (by rfl) (by rfl)).symm) (fr_dup _ _ 0 _ (by exact hl_1) (by rfl) (by rfl)).symm), by omega, hwb_4.val (pow_even z p _ r hr0 (va_lt l1 ho1).1 (hbit ▸ hq1)), hw12.sub (List.Sublist.cons_cons _ (List.Sublist.cons _ (List.Sublist.refl _)))⟩
    omega
  ·
    refine wp_seq ?_
    refine seq_plain hw0_1 [0, 1] (by rfl) ?_
    refine L_val (.int .i64 ((r : Int) - 1)) (by rfl) (by exact hl_1) (gives_value _ fun _ => by rfl) ?_
    refine L_val (.bool false) (by rfl) (by exact hl_1) (gives_geq (k := .i64) ((r : Int) - 1) (0) false (by rfl) (by rfl) (decide_eq_false (by omega))) ?_
    refine L_end ?_
    intro w13 hw13
    refine wp_cond_false (fr_at _ _ (by exact hl_1) _) ?_
    refine wp_exit ?_
    subst hlt
    change Code.wp _ _ _ _ _
    change Code.wp _ _ _ _ _
    refine seq_plain hw13 [0, 1] (by rfl) ?_
    refine L_val (.slice (some ⟨g, 0, none⟩) n2 cap) (by rfl) (by exact hl_1) (gives_value _ fun _ => by rfl) ?_
    refine L_val (.slice (some ⟨g, 0, none⟩) n2 cap) (by rfl) (by exact hl_1) (gives_value _ fun _ => by rfl) ?_
    refine L_end ?_
    intro w14 hw14
    refine wp_ret ?_
    change bodyPost _ _ _ Exit.ret _ _
    refine (ret_tmp (by rfl) (by exact hl_1) (by rfl) ⟨g, cap, cs, rfl, hwb_99.val (by simp), hw14.ge 0 (by rfl), hw14.blk 0 (by rfl), hw14.below⟩)
theorem n_power (w : World) (A0 : Option Addr) (n0 c0 : Nat) (a : Int) (A1 : Option Addr) (n1 c1 : Nat) (e : Int) (A2 : Option Addr) (n2 c2 : Nat) (p : Int) (h0 : NumAt w A0 n0 a) (h1 : NumAt w A1 n1 e) (h2 : NumAt w A2 n2 p) (hp : 0 < p) (hs : n0 + n2 + n2 + n2 ≤ 1000000) : RetsW 54 #[.slice A0 n0 c0, .slice A1 n1 c1, .slice A2 n2 c2] w n2 (a ^ e.toNat % p) := by
  have s1 := h1.sz
  have h := r3_power A0 n0 c0 a A1 n1 c1 (wl e n1) A2 n2 c2 p w h0 h1.rd (wl_w16 _ _) (by omega) h2 hp hs
  rwa [h1.va] at h
theorem mp1_rng : 0 ≤ Mp + 1 ∧ Mp + 1 < 65536 ^ 25 := by unfold Mp; decide
theorem v_zero_z' (w : World) (hG : Glo w) : Rets 18 #[.agg (pc 0)] w (.bool true) := by
  have h := v_zero 0 w hG
  rwa [decide_eq_true rfl] at h
set_option maxRecDepth 100000 in
set_option maxHeartbeats 4000000 in
theorem n_sqrt4 (A0 : Option Addr) (c0 : Nat) (a : Int) (v : World) (h0 : NumAt v A0 24 a) : RetsU (fun g cap => .tuple #[.slice (some ⟨g, 0, none⟩) 24 cap, .bool (decide (a ^ Qp % Mp * (a ^ Qp % Mp) % Mp = a))]) 34 #[.slice A0 24 c0] v 24 (a ^ Qp % Mp) := by
  refine calls_fr1 Tryd.func34 rfl (by rfl : _ = 22) (by rfl) ?_
  have hw := Hbl.nil v
  refine seq_plain hw [0, 1] (by rfl) ?_
  refine L_val (.slice none 0 0) (by rfl) (by rfl) (gives_value _ fun _ => by rfl) ?_
  refine L_val (.bool false) (by rfl) (by rfl) (gives_value _ fun _ => by rfl) ?_
  refine L_end ?_
  intro w1 hw1
  refine seq_plain hw1 [0, 1] (by rfl) ?_
  refine L_freshW (vl := []) (24) (Mp) (by rfl) (by rfl) (by kernel_rfl) (by rfl) (fun w h => m_04 w) ?_; intro g1 cap_1 cs_1 hwb_1
  refine L_val (.slice (some ⟨g1, 0, none⟩) (24) cap_1) (by rfl) (by rfl) (gives_value _ fun _ => by rfl) ?_
  refine L_end ?_
  intro w2 hw2
  refine seq_plain hw2 [0, 1, 2, 3, 4, 5, 6, 7, 8] (by rfl) ?_
  refine L_val (.slice A0 24 c0) (by rfl) (by rfl) (gives_value _ fun _ => by rfl) ?_
  refine L_val (.slice (some ⟨g1, 0, none⟩) (24) cap_1) (by rfl) (by rfl) (gives_value _ fun _ => by rfl) ?_
  refine L_build1 (.int .u32 1) (.int .u32 0) (by rfl) (by rfl) und_u32s u32_zs rfl (by rfl) rfl ?_; intro g2
  refine L_freshW (vl := [.slice (some ⟨g1, 0, none⟩) (24) cap_1, .slice (some ⟨g2, 0, none⟩) 1 1]) (25) (Mp + 1) (by rfl) (by rfl) (by kernel_rfl) (by rfl) (fun w h => n_plus w _ _ _ _ _ _ _ _ (hwb_1.num (h.blk 1 (by rfl)) ⟨Int.le_of_lt Mp_pos, Mp_24⟩ (by omega)) (one_num (h.blk 0 (by rfl)))) ?_; intro g3 cap_2 cs_2 hwb_2
  refine L_freshW (vl := [.slice (some ⟨g3, 0, none⟩) (25) cap_2]) (25) ((Mp + 1) / 2) (by rfl) (by rfl) (by kernel_rfl) (by rfl) (fun w h => n_half w _ _ _ _ (hwb_2.num (h.blk 0 (by rfl)) mp1_rng (by omega))) ?_; intro g4 cap_3 cs_3 hwb_3
  refine L_freshW (vl := [.slice (some ⟨g4, 0, none⟩) (25) cap_3]) (25) (((Mp + 1) / 2) / 2) (by rfl) (by rfl) (by kernel_rfl) (by rfl) (fun w h => n_half w _ _ _ _ (hwb_3.num (h.blk 0 (by rfl)) (half_rng mp1_rng.1 mp1_rng.2) (by omega))) ?_; intro g5 cap_4 cs_4 hwb_4
  refine L_val (.slice (some ⟨g1, 0, none⟩) (24) cap_1) (by rfl) (by rfl) (gives_value _ fun _ => by rfl) ?_
  refine L_freshW (vl := [.slice A0 24 c0, .slice (some ⟨g5, 0, none⟩) (25) cap_4, .slice (some ⟨g1, 0, none⟩) (24) cap_1]) (24) (a ^ Qp % Mp) (by rfl) (by rfl) (by kernel_rfl) (by rfl) (fun w h => (by rw [← Qp_half]; exact n_power w _ _ _ _ _ _ _ _ _ _ _ _ (h0.of h) (hwb_4.num (h.blk 0 (by rfl)) (half_rng (half_rng mp1_rng.1 mp1_rng.2).1 (half_rng mp1_rng.1 mp1_rng.2).2) (by omega)) (hwb_1.num (h.blk 4 (by rfl)) ⟨Int.le_of_lt Mp_pos, Mp_24⟩ (by omega)) Mp_pos (by omega))) ?_; intro g6 cap_5 cs_5 hwb_5
  refine L_val (.slice (some ⟨g6, 0, none⟩) (24) cap_5) (by rfl) (by rfl) (gives_value _ fun _ => by rfl) ?_
  refine L_end ?_
  intro w3 hw3
  refine seq_plain hw3 [0, 1, 2, 3, 4, 5, 6, 7, 8] (by rfl) ?_
  refine L_val (.slice (some ⟨g6, 0, none⟩) (24) cap_5) (by rfl) (by rfl) (gives_value _ fun _ => by rfl) ?_
  refine L_val (.slice (some ⟨g6, 0, none⟩) (24) cap_5) (by rfl) (by rfl) (gives_value _ fun _ => by rfl) ?_
  refine L_val (.slice (some ⟨g6, 0, none⟩) (24) cap_5) (by rfl) (by rfl) (gives_value _ fun _ => by rfl) ?_
  refine L_val (.slice (some ⟨g1, 0, none⟩) (24) cap_1) (by rfl) (by rfl) (gives_value _ fun _ => by rfl) ?_
  refine L_freshW (vl := [.slice (some ⟨g6, 0, none⟩) (24) cap_5, .slice (some ⟨g6, 0, none⟩) (24) cap_5, .slice (some ⟨g1, 0, none⟩) (24) cap_1]) (24) (((a ^ Qp % Mp) * (a ^ Qp % Mp)) % Mp) (by rfl) (by rfl) (by kernel_rfl) (by rfl) (fun w h => n_mul w _ _ _ _ _ _ _ _ _ _ _ _ (hwb_5.num (h.blk 0 (by rfl)) (mod_rng _ _ _ Mp_pos Mp_24) (by omega)) (hwb_5.num (h.blk 0 (by rfl)) (mod_rng _ _ _ Mp_pos Mp_24) (by omega)) (hwb_1.num (h.blk 5 (by rfl)) ⟨Int.le_of_lt Mp_pos, Mp_24⟩ (by omega)) Mp_pos (by omega)) ?_; intro g7 cap_6 cs_6 hwb_6
  refine L_val (.slice A0 24 c0) (by rfl) (by rfl) (gives_value _ fun _ => by rfl) ?_
  refine L_val (.bool (decide (((a ^ Qp % Mp) * (a ^ Qp % Mp)) % Mp = a))) (by rfl) (by rfl) (gives_call (vl := [.slice (some ⟨g7, 0, none⟩) (24) cap_6, .slice A0 24 c0]) (by kernel_rfl) (by rfl) (fun w h => n_same3' w _ _ _ _ _ _ _ _ (hwb_6.num (h.blk 0 (by rfl)) (mod_rng _ _ _ Mp_pos Mp_24) (by omega)) (h0.of h))) ?_
  refine L_val (.slice (some ⟨g6, 0, none⟩) (24) cap_5) (by rfl) (by rfl) (gives_value _ fun _ => by rfl) ?_
  refine L_val (.bool (decide (((a ^ Qp % Mp) * (a ^ Qp % Mp)) % Mp = a))) (by rfl) (by rfl) (gives_value _ fun _ => by rfl) ?_
  refine L_end ?_
  intro w4 hw4
  refine wp_ret ?_
  change bodyPost _ _ _ Exit.ret _ _
  refine (ret_tmp_tmp (by rfl) (by rfl) (by rfl) (by rfl) ⟨_, _, _, rfl, hwb_5, hw4.ge 1 (by rfl), hw4.blk 1 (by rfl), hw4.below⟩)
theorem n_sqrt4_t (w : World) (A0 : Option Addr) (c0 : Nat) (a : Int) (h0 : NumAt w A0 24 a) (h : (a ^ Qp % Mp * (a ^ Qp % Mp) % Mp = a)) : RetsU (fun g cap => .tuple #[.slice (some ⟨g, 0, none⟩) 24 cap, .bool true]) 34 #[.slice A0 24 c0] w 24 (a ^ Qp % Mp) := by
  have e := n_sqrt4 A0 c0 a w h0
  rwa [decide_eq_true h] at e
theorem n_sqrt4_f (w : World) (A0 : Option Addr) (c0 : Nat) (a : Int) (h0 : NumAt w A0 24 a) (h : ¬ (a ^ Qp % Mp * (a ^ Qp % Mp) % Mp = a)) : RetsU (fun g cap => .tuple #[.slice (some ⟨g, 0, none⟩) 24 cap, .bool false]) 34 #[.slice A0 24 c0] w 24 (a ^ Qp % Mp) := by
  have e := n_sqrt4 A0 c0 a w h0
  rwa [decide_eq_false h] at e
set_option maxRecDepth 100000 in
set_option maxHeartbeats 4000000 in
theorem r4_large (A0 : Option Addr) (n0 c0 : Nat) (a : Int) (v : World) (h0 : NumAt v A0 n0 a) (hs : n0 ≤ 1000000) : Rets 38 #[.slice A0 n0 c0] v (.bool (decide (Mp < a + a))) := by
  refine calls_fr1 Tryd.func38 rfl (by rfl : _ = 8) (by rfl) ?_
  have hw := Hbl.nil v
  refine seq_plain hw [0] (by rfl) ?_
  refine L_val (.bool false) (by rfl) (by rfl) (gives_value _ fun _ => by rfl) ?_
  refine L_end ?_
  intro w1 hw1
  refine seq_plain hw1 [0, 1, 2, 3, 4, 5] (by rfl) ?_
  refine L_freshW (vl := []) (24) (Mp) (by rfl) (by rfl) (by kernel_rfl) (by rfl) (fun w h => m_04 w) ?_; intro g1 cap_1 cs_1 hwb_1
  refine L_val (.slice A0 n0 c0) (by rfl) (by rfl) (gives_value _ fun _ => by rfl) ?_
  refine L_val (.slice A0 n0 c0) (by rfl) (by rfl) (gives_value _ fun _ => by rfl) ?_
  refine L_freshW (vl := [.slice A0 n0 c0, .slice A0 n0 c0]) (max n0 n0 + 1) (a + a) (by rfl) (by rfl) (by kernel_rfl) (by rfl) (fun w h => n_plus w _ _ _ _ _ _ _ _ (h0.of h) (h0.of h)) ?_; intro g2 cap_2 cs_2 hwb_2
  refine L_val (.bool (decide (Mp < a + a))) (by rfl) (by rfl) (gives_call (vl := [.slice (some ⟨g1, 0, none⟩) (24) cap_1, .slice (some ⟨g2, 0, none⟩) (max n0 n0 + 1) cap_2]) (by kernel_rfl) (by rfl) (fun w h => n_less' w _ _ _ _ _ _ _ _ (hwb_1.num (h.blk 1 (by rfl)) ⟨Int.le_of_lt Mp_pos, Mp_24⟩ (by omega)) (hwb_2.num (h.blk 0 (by rfl)) (plus_rng h0 h0) (by omega)))) ?_
  refine L_val (.bool (decide (Mp < a + a))) (by rfl) (by rfl) (gives_value _ fun _ => by rfl) ?_
  refine L_end ?_
  intro w2 hw2
  refine wp_ret ?_
  change bodyPost _ _ _ Exit.ret _ _
  refine (ret_tmp (by rfl) (by rfl) (by rfl) ⟨rfl, hw2.below⟩)
theorem n_large4 (w : World) (A0 : Option Addr) (n0 c0 : Nat) {a : Int} (h0 : NumAt w A0 n0 a) (hs : n0 ≤ 1000000) : Rets 38 #[.slice A0 n0 c0] w (.bool (decide (Mp < a + a))) := r4_large A0 n0 c0 a w h0 hs
theorem word0 {cs : Array Value} {cap : Nat} {a : Int} (h : WB cs cap 24 a) : cs[0 + 0]? = some (Value.int .u32 (a % 65536)) := by
  rw [h.two.at_ 0 (by omega), gt_wl a 24 0 (by omega)]
  simp
set_option maxRecDepth 100000 in
set_option maxHeartbeats 4000000 in
theorem roots_long (A0 : Option Addr) (L0 C0 : Nat) (bs0 : List Int) (v : World) (hG : Glo v) (hQ : GQp v) (hU : GUp v) (hr0 : Reads v v.heap.size A0 L0 (bs0.map (Value.int .u8))) (ho0 : Oct bs0) (hs : 64 < L0) : Rets 8 #[.slice A0 L0 C0] v (.bool true) := by
  have hn0 : bs0.length = L0 := by simpa using hr0.1
  refine calls_fr1 Tryd.func8 rfl (by rfl : _ = 65) (by rfl) ?_
  have hw := Hbl.nil v
  refine seq_plain hw [0] (by rfl) ?_
  refine L_val (.bool false) (by rfl) (by rfl) (gives_value _ fun _ => by rfl) ?_
  refine L_end ?_
  intro w1 hw1
  refine wp_seq ?_
  refine seq_plain hw1 [0, 1] (by rfl) ?_
  refine L_val (.bool true) (by rfl) (by rfl) (gives_call (vl := []) (by kernel_rfl) (by rfl) (fun w h => v_head w (hG.keep h.below) (hQ.keep h.below) (hU.keep h.below))) ?_
  refine L_val (.bool false) (by rfl) (by rfl) (gives_value _ fun _ => by rfl) ?_
  refine L_end ?_
  intro w2 hw2
  refine wp_cond_false (fr_at _ _ (by rfl) _) ?_
  refine wp_skip ?_
  change Code.wp _ _ _ _ _
  refine wp_seq ?_
  refine seq_plain hw2 [0, 1, 2] (by rfl) ?_
  refine L_val (.slice A0 L0 C0) (by rfl) (by rfl) (gives_value _ fun _ => by rfl) ?_
  refine L_val (.int .i64 (L0 : Int)) (by rfl) (by rfl) (gives_len _ L0 C0 und_u8s (by rfl)) ?_
  refine L_val (.bool true) (by rfl) (by rfl) (gives_gtr (k := .i64) ((L0 : Int)) (64) true (by rfl) (by rfl) (decide_eq_true (by omega))) ?_
  refine L_end ?_
  intro w3 hw3
  refine wp_cond_true (fr_at _ _ (by rfl) _) ?_
  refine seq_plain hw3 [0] (by rfl) ?_
  refine L_val (.bool true) (by rfl) (by rfl) (gives_value _ fun _ => by rfl) ?_
  refine L_end ?_
  intro w4 hw4
  refine wp_ret ?_
  change bodyPost _ _ _ Exit.ret _ _
  refine (ret_tmp (by rfl) (by rfl) (by rfl) ⟨rfl, hw4.below⟩)
set_option maxRecDepth 100000 in
set_option maxHeartbeats 4000000 in
theorem roots_yes (A0 : Option Addr) (L0 C0 : Nat) (bs0 : List Int) (v : World) (hG : Glo v) (hQ : GQp v) (hU : GUp v) (hr0 : Reads v v.heap.size A0 L0 (bs0.map (Value.int .u8))) (ho0 : Oct bs0) (hs : L0 ≤ 64) (hsq : (Fp.n (num bs0)).rt * (Fp.n (num bs0)).rt = Fp.n (num bs0)) : Rets 8 #[.slice A0 L0 C0] v (.bool true) := by
  have hn0 : bs0.length = L0 := by simpa using hr0.1
  refine calls_fr1 Tryd.func8 rfl (by rfl : _ = 65) (by rfl) ?_
  have hw := Hbl.nil v
  refine seq_plain hw [0] (by rfl) ?_
  refine L_val (.bool false) (by rfl) (by rfl) (gives_value _ fun _ => by rfl) ?_
  refine L_end ?_
  intro w1 hw1
  refine wp_seq ?_
  refine seq_plain hw1 [0, 1] (by rfl) ?_
  refine L_val (.bool true) (by rfl) (by rfl) (gives_call (vl := []) (by kernel_rfl) (by rfl) (fun w h => v_head w (hG.keep h.below) (hQ.keep h.below) (hU.keep h.below))) ?_
  refine L_val (.bool false) (by rfl) (by rfl) (gives_value _ fun _ => by rfl) ?_
  refine L_end ?_
  intro w2 hw2
  refine wp_cond_false (fr_at _ _ (by rfl) _) ?_
  refine wp_skip ?_
  change Code.wp _ _ _ _ _
  refine wp_seq ?_
  refine seq_plain hw2 [0, 1, 2] (by rfl) ?_
  refine L_val (.slice A0 L0 C0) (by rfl) (by rfl) (gives_value _ fun _ => by rfl) ?_
  refine L_val (.int .i64 (L0 : Int)) (by rfl) (by rfl) (gives_len _ L0 C0 und_u8s (by rfl)) ?_
  refine L_val (.bool false) (by rfl) (by rfl) (gives_gtr (k := .i64) ((L0 : Int)) (64) false (by rfl) (by rfl) (decide_eq_false (by omega))) ?_
  refine L_end ?_
  intro w3 hw3
  refine wp_cond_false (fr_at _ _ (by rfl) _) ?_
  refine wp_skip ?_
  change Code.wp _ _ _ _ _
  refine seq_plain hw3 [0, 1, 2, 3, 4, 5, 6, 7] (by rfl) ?_
  refine L_val (.slice A0 L0 C0) (by rfl) (by rfl) (gives_value _ fun _ => by rfl) ?_
  refine L_freshU (vl := [.slice A0 L0 C0]) (fun g cap => .tuple #[.slice (some ⟨g, 0, none⟩) 24 cap, .agg (pc (Fp.n (num bs0)))]) (24) (num bs0 % Mp) (by rfl) (by rfl) (by kernel_rfl) (by rfl) (fun w h => l4_number A0 L0 C0 bs0 w (hG.keep h.below) ((hr0.below h.below).more h.below.size) ho0 (by omega)) ?_; intro g1 cap_1 cs_1 hwb_1
  refine L_val (.tuple #[.slice (some ⟨g1, 0, none⟩) 24 cap_1, .agg (pc (Fp.n (num bs0)))]) (by rfl) (by rfl) (gives_value _ fun _ => by rfl) ?_
  refine L_val (.slice (some ⟨g1, 0, none⟩) 24 cap_1) (by rfl) (by rfl) (gives_value _ fun _ => by kernel_rfl) ?_
  refine L_val (.agg (pc (Fp.n (num bs0)))) (by rfl) (by rfl) (gives_value _ fun _ => by kernel_rfl) ?_
  refine L_alloc _ (by rfl) (by rfl) z_1 (pc (0 : Fp)) rfl ?_; intro g2
  refine L_val (.slice (some ⟨g1, 0, none⟩) 24 cap_1) (by rfl) (by rfl) (gives_value _ fun _ => by rfl) ?_
  refine L_store (t := 28) 0 g2 (pc (0 : Fp)) (pc (Fp.n (num bs0))) (by rfl) (by rfl) (by rfl) (by rfl) (by rfl) (hi_1 _) ((pc_size _).trans (pc_size _).symm) (pc_one _) ?_
  simp only [List.set_cons_zero, List.set_cons_succ]
  refine L_end ?_
  intro w4 hw4
  refine seq_plain hw4 [0, 1, 2, 3, 4, 5, 6] (by rfl) ?_
  refine L_val (.slice (some ⟨g1, 0, none⟩) 24 cap_1) (by rfl) (by rfl) (gives_value _ fun _ => by rfl) ?_
  refine L_freshU (vl := [.slice (some ⟨g1, 0, none⟩) 24 cap_1]) (fun g cap => .tuple #[.slice (some ⟨g, 0, none⟩) 24 cap, .bool true]) (24) ((num bs0 % Mp) ^ Qp % Mp) (by rfl) (by rfl) (by kernel_rfl) (by rfl) (fun w h => n_sqrt4_t w _ _ _ (hwb_1.num (h.blk 1 (by rfl)) (mod_rng _ _ _ Mp_pos Mp_24) (by omega)) ((rt_sq _).2 hsq)) ?_; intro g3 cap_2 cs_2 hwb_2
  refine L_val (.tuple #[.slice (some ⟨g3, 0, none⟩) 24 cap_2, .bool true]) (by rfl) (by rfl) (gives_value _ fun _ => by rfl) ?_
  refine L_val (.slice (some ⟨g3, 0, none⟩) 24 cap_2) (by rfl) (by rfl) (gives_value _ fun _ => by kernel_rfl) ?_
  refine L_val (.bool true) (by rfl) (by rfl) (gives_value _ fun _ => by kernel_rfl) ?_
  refine L_val (.slice (some ⟨g3, 0, none⟩) 24 cap_2) (by rfl) (by rfl) (gives_value _ fun _ => by rfl) ?_
  refine L_val (.bool true) (by rfl) (by rfl) (gives_value _ fun _ => by rfl) ?_
  refine L_end ?_
  intro w5 hw5
  refine seq_plain hw5 [0, 1, 2, 3, 4, 5, 6, 7] (by rfl) ?_
  refine L_val (.agg (pc (Fp.n (num bs0)))) (by rfl) (by rfl) (gives_load g2 0 28 (pc (Fp.n (num bs0))) (pc (Fp.n (num bs0))) _ (by rfl) (fun _ h => h.blk 1 (by rfl)) (Sl.refl _) Tryd.underlying28 (by rfl) (hi_1 _)) ?_
  refine L_val (.tuple #[.agg (pc (Fp.rt (Fp.n (num bs0)))), .bool true]) (by rfl) (by rfl) (gives_call (vl := [.agg (pc (Fp.n (num bs0)))]) (by kernel_rfl) (by rfl) (fun w h => v_sqrt_yes _ w (hG.keep h.below) (hQ.keep h.below) hsq)) ?_
  refine L_val (.tuple #[.agg (pc (Fp.rt (Fp.n (num bs0)))), .bool true]) (by rfl) (by rfl) (gives_value _ fun _ => by rfl) ?_
  refine L_val (.agg (pc (Fp.rt (Fp.n (num bs0))))) (by rfl) (by rfl) (gives_value _ fun _ => by kernel_rfl) ?_
  refine L_val (.bool true) (by rfl) (by rfl) (gives_value _ fun _ => by kernel_rfl) ?_
  refine L_alloc _ (by rfl) (by rfl) z_1 (pc (0 : Fp)) rfl ?_; intro g4
  refine L_store (t := 28) 0 g4 (pc (0 : Fp)) (pc (Fp.rt (Fp.n (num bs0)))) (by rfl) (by rfl) (by rfl) (by rfl) (by rfl) (hi_1 _) ((pc_size _).trans (pc_size _).symm) (pc_one _) ?_
  simp only [List.set_cons_zero, List.set_cons_succ]
  refine L_val (.bool true) (by rfl) (by rfl) (gives_value _ fun _ => by rfl) ?_
  refine L_end ?_
  intro w6 hw6
  refine wp_seq ?_
  refine seq_plain hw6 [0, 1, 2, 3, 4, 5, 6, 7, 8, 9, 10, 11, 12, 13, 14, 15, 16, 17, 18, 19, 20] (by rfl) ?_
  refine L_val (.bool true) (by rfl) (by rfl) (gives_value _ fun _ => by rfl) ?_
  refine L_val (.bool true) (by rfl) (by rfl) (gives_value _ fun _ => by rfl) ?_
  refine L_val (.bool false) (by rfl) (by rfl) (gives_value _ fun _ => by rfl) ?_
  refine L_val (.bool false) (by rfl) (by rfl) (gives_value _ fun _ => by rfl) ?_
  refine L_val_g (dj := 32) (.bool true) (by rfl) (by rfl) (by rfl) (by rfl) (by rfl) (gives_value _ fun _ => by rfl) ?_
  refine L_val_g (dj := 32) (.bool true) (by rfl) (by rfl) (by rfl) (by rfl) (by rfl) (gives_value _ fun _ => by rfl) ?_
  refine L_val_g (dj := 34) (.agg (pc (Fp.rt (Fp.n (num bs0))))) (by rfl) (by rfl) (by rfl) (by rfl) (by rfl) (gives_load g4 0 28 (pc (Fp.rt (Fp.n (num bs0)))) (pc (Fp.rt (Fp.n (num bs0)))) _ (by rfl) (fun _ h => h.blk 0 (by rfl)) (Sl.refl _) Tryd.underlying28 (by rfl) (hi_1 _)) ?_
  refine L_val_g (dj := 34) (.slice (some ⟨g3, 0, none⟩) 24 cap_2) (by rfl) (by rfl) (by rfl) (by rfl) (by rfl) (gives_value _ fun _ => by rfl) ?_
  refine L_val_g (dj := 34) (.bool true) (by rfl) (by rfl) (by rfl) (by rfl) (by rfl) (gives_call (vl := [.agg (pc (Fp.rt (Fp.n (num bs0)))), .slice (some ⟨g3, 0, none⟩) 24 cap_2]) (by kernel_rfl) (by rfl) (fun w h => l4_is _ _ _ _ _ w (hG.keep h.below) (hwb_2.num (h.blk 1 (by rfl)) (mod_rng _ _ _ Mp_pos Mp_24) (by omega)) (rt_val _))) ?_
  refine L_val_g (dj := 34) (.bool false) (by rfl) (by rfl) (by rfl) (by rfl) (by rfl) (gives_value _ fun _ => by rfl) ?_
  refine L_val_g (dj := 32) (.bool false) (by rfl) (by rfl) (by rfl) (by rfl) (by rfl) (gives_value _ fun _ => by rfl) ?_
  refine L_val (.bool false) (by rfl) (by rfl) (gives_value _ fun _ => by rfl) ?_
  refine L_val (.bool false) (by rfl) (by rfl) (gives_value _ fun _ => by rfl) ?_
  refine L_val_g (dj := 41) (.bool true) (by rfl) (by rfl) (by rfl) (by rfl) (by rfl) (gives_value _ fun _ => by rfl) ?_
  refine L_val_g (dj := 41) (.bool false) (by rfl) (by rfl) (by rfl) (by rfl) (by rfl) (gives_value _ fun _ => by rfl) ?_
  refine L_val_g (dj := 41) (.bool false) (by rfl) (by rfl) (by rfl) (by rfl) (by rfl) (gives_value _ fun _ => by rfl) ?_
  refine L_skip (dj := 44) (by rfl) (by rfl) (by rfl) (by rfl) (by rfl) ?_
  refine L_skip (dj := 44) (by rfl) (by rfl) (by rfl) (by rfl) (by rfl) ?_
  refine L_skip (dj := 44) (by rfl) (by rfl) (by rfl) (by rfl) (by rfl) ?_
  refine L_val_g (dj := 41) (.bool false) (by rfl) (by rfl) (by rfl) (by rfl) (by rfl) (gives_value _ fun _ => by rfl) ?_
  refine L_val (.bool false) (by rfl) (by rfl) (gives_value _ fun _ => by rfl) ?_
  refine L_end ?_
  intro w7 hw7
  refine wp_cond_false (fr_at _ _ (by rfl) _) ?_
  refine wp_skip ?_
  change Code.wp _ _ _ _ _
  refine seq_flow (by kernel_rfl) hw7 [] [(g4, 28, (pc (Fp.rt (Fp.n (num bs0))))), (g3, 54, cs_2), (g2, 28, (pc (Fp.n (num bs0)))), (g1, 54, cs_1)] 16 (by rfl) ?_
  refine flow_take (i := 0) (.agg (pc (Fp.n (num bs0)))) (by rfl) (by kernel_rfl) (by kernel_rfl) (by kernel_rfl) (by rfl) (by kernel_rfl) (List.Sublist.refl _) (gives_load g2 0 28 (pc (Fp.n (num bs0))) (pc (Fp.n (num bs0))) _ (by rfl) (fun _ h => h.blk 2 (by rfl)) (Sl.refl _) Tryd.underlying28 (by rfl) (hi_1 _)) ?_
  refine flow_take (i := 2) (.slice (some ⟨g1, 0, none⟩) 24 cap_1) (by rfl) (by kernel_rfl) (by kernel_rfl) (by kernel_rfl) (by rfl) (by kernel_rfl) (List.Sublist.refl _) (gives_value _ fun _ => by rfl) ?_
  refine flow_take (i := 3) (.pointer (some ⟨g1, 0 + (0), none⟩)) (by rfl) (by kernel_rfl) (by kernel_rfl) (by kernel_rfl) (by rfl) (by kernel_rfl) (List.Sublist.refl _) (gives_index g1 0 (24) (cap_1) (0) (0) (by rfl) (by rfl) und_u32s u32_sz (by omega) (by omega)) ?_
  refine flow_take (i := 4) (.int .u32 (num bs0 % Mp % 65536)) (by rfl) (by kernel_rfl) (by kernel_rfl) (by kernel_rfl) (by rfl) (by kernel_rfl) (List.Sublist.refl _) (gives_load1 g1 (0 + (0)) _ cs_1 (.int .u32 (num bs0 % Mp % 65536)) (by rfl) (fun _ h => h.blk 3 (by rfl)) (word0 hwb_1) und_u32) ?_
  refine flow_take (i := 5) (.int .u32 ((num bs0 % Mp % 65536) % 2)) (by rfl) (by kernel_rfl) (by kernel_rfl) (by kernel_rfl) (by rfl) (by kernel_rfl) (List.Sublist.refl _) (gives_and (k := .u32) (num bs0 % Mp % 65536) 1 ((num bs0 % Mp % 65536) % 2) (by rfl) (by rfl) (and_one32 _ (by omega) (by omega))) ?_
  refine flow_take (i := 6) (.bool (decide ((num bs0 % Mp % 65536) % 2 = 1))) (by rfl) (by kernel_rfl) (by kernel_rfl) (by kernel_rfl) (by rfl) (by kernel_rfl) (List.Sublist.refl _) (gives_ieq (k := .u32) ((num bs0 % Mp % 65536) % 2) (1) (decide ((num bs0 % Mp % 65536) % 2 = 1)) (by rfl) (by rfl) rfl) ?_
  refine flow_one 1 (by kernel_rfl) ?_
  refine F_val (vl := [.agg (pc (Fp.n (num bs0)))]) (.bool (decide ((Fp.n (num bs0)).val % 2 = 1))) (by rfl) (by rfl) Want.none (by kernel_rfl) (by rfl) (List.Sublist.refl _) (fun w h => v_odd _ w (hG.keep h.below)) ?_
  refine flow_take (i := 7) (.bool true) (by rfl) (by kernel_rfl) (by kernel_rfl) (by kernel_rfl) (by rfl) (by kernel_rfl) (List.Sublist.refl _) (gives_eqbb _ _ (by rfl) (by rfl) (by rfl) (decide_eq_decide.2 (odd_iff _))) ?_
  refine flow_take (i := 8) (.bool true) (by rfl) (by kernel_rfl) (by kernel_rfl) (by kernel_rfl) (by rfl) (by kernel_rfl) (List.Sublist.refl _) (gives_value _ fun _ => by rfl) ?_
  refine flow_take_g (i := 9) (dj := 58) (.agg (pc (Fp.n (num bs0)))) (by rfl) (by kernel_rfl) (by kernel_rfl) (by kernel_rfl) (by rfl) (by kernel_rfl) (List.Sublist.refl _) (by rfl) (by rfl) (by rfl) (gives_load g2 0 28 (pc (Fp.n (num bs0))) (pc (Fp.n (num bs0))) _ (by rfl) (fun _ h => h.blk 2 (by rfl)) (Sl.refl _) Tryd.underlying28 (by rfl) (hi_1 _)) ?_
  refine flow_take_g (i := 11) (dj := 58) (.slice (some ⟨g1, 0, none⟩) 24 cap_1) (by rfl) (by kernel_rfl) (by kernel_rfl) (by kernel_rfl) (by rfl) (by kernel_rfl) (List.Sublist.refl _) (by rfl) (by rfl) (by rfl) (gives_value _ fun _ => by rfl) ?_
  refine flow_one 10 (by kernel_rfl) ?_
  refine F_val (vl := [.agg (pc (Fp.n (num bs0)))]) (.bool (decide (Up ≤ ((Fp.n (num bs0)).val : Int)))) (by rfl) (by rfl) (Want.some (dj := 58) (by rfl) (by rfl) (by rfl) (by rfl)) (by kernel_rfl) (by rfl) (List.Sublist.refl _) (fun w h => v_large _ w (hG.keep h.below) (hU.keep h.below)) ?_
  refine flow_one 12 (by kernel_rfl) ?_
  refine F_val (vl := [.slice (some ⟨g1, 0, none⟩) 24 cap_1]) (.bool (decide (Mp < (num bs0 % Mp) + (num bs0 % Mp)))) (by rfl) (by rfl) (Want.some (dj := 58) (by rfl) (by rfl) (by rfl) (by rfl)) (by kernel_rfl) (by rfl) (List.Sublist.refl _) (fun w h => n_large4 w _ _ _ (hwb_1.num (h.blk 3 (by rfl)) (mod_rng _ _ _ Mp_pos Mp_24) (by omega)) (by omega)) ?_
  refine flow_take_g (i := 13) (dj := 58) (.bool true) (by rfl) (by kernel_rfl) (by kernel_rfl) (by kernel_rfl) (by rfl) (by kernel_rfl) (List.Sublist.refl _) (by rfl) (by rfl) (by rfl) (gives_eqbb _ _ (by rfl) (by rfl) (by rfl) (decide_eq_decide.2 (up_iff _))) ?_
  refine flow_take (i := 14) (.bool true) (by rfl) (by kernel_rfl) (by kernel_rfl) (by kernel_rfl) (by rfl) (by kernel_rfl) (List.Sublist.refl _) (gives_value _ fun _ => by rfl) ?_
  refine flow_take (i := 15) (.bool true) (by rfl) (by kernel_rfl) (by kernel_rfl) (by kernel_rfl) (by rfl) (by kernel_rfl) (List.Sublist.refl _) (gives_value _ fun _ => by rfl) ?_
  refine flow_done (by kernel_rfl) ?_
  intro w8 hw8
  refine wp_ret ?_
  change bodyPost _ _ _ Exit.ret _ _
  refine (ret_tmp (by rfl) (by rfl) (by rfl) ⟨rfl, hw8.below⟩)
set_option maxRecDepth 100000 in
set_option maxHeartbeats 4000000 in
theorem roots_no (A0 : Option Addr) (L0 C0 : Nat) (bs0 : List Int) (v : World) (hG : Glo v) (hQ : GQp v) (hU : GUp v) (hr0 : Reads v v.heap.size A0 L0 (bs0.map (Value.int .u8))) (ho0 : Oct bs0) (hs : L0 ≤ 64) (hsq : ¬ (Fp.n (num bs0)).rt * (Fp.n (num bs0)).rt = Fp.n (num bs0)) : Rets 8 #[.slice A0 L0 C0] v (.bool true) := by
  have hn0 : bs0.length = L0 := by simpa using hr0.1
  refine calls_fr1 Tryd.func8 rfl (by rfl : _ = 65) (by rfl) ?_
  have hw := Hbl.nil v
  refine seq_plain hw [0] (by rfl) ?_
  refine L_val (.bool false) (by rfl) (by rfl) (gives_value _ fun _ => by rfl) ?_
  refine L_end ?_
  intro w1 hw1
  refine wp_seq ?_
  refine seq_plain hw1 [0, 1] (by rfl) ?_
  refine L_val (.bool true) (by rfl) (by rfl) (gives_call (vl := []) (by kernel_rfl) (by rfl) (fun w h => v_head w (hG.keep h.below) (hQ.keep h.below) (hU.keep h.below))) ?_
  refine L_val (.bool false) (by rfl) (by rfl) (gives_value _ fun _ => by rfl) ?_
  refine L_end ?_
  intro w2 hw2
  refine wp_cond_false (fr_at _ _ (by rfl) _) ?_
  refine wp_skip ?_
  change Code.wp _ _ _ _ _
  refine wp_seq ?_
  refine seq_plain hw2 [0, 1, 2] (by rfl) ?_
  refine L_val (.slice A0 L0 C0) (by rfl) (by rfl) (gives_value _ fun _ => by rfl) ?_
  refine L_val (.int .i64 (L0 : Int)) (by rfl) (by rfl) (gives_len _ L0 C0 und_u8s (by rfl)) ?_
  refine L_val (.bool false) (by rfl) (by rfl) (gives_gtr (k := .i64) ((L0 : Int)) (64) false (by rfl) (by rfl) (decide_eq_false (by omega))) ?_
  refine L_end ?_
  intro w3 hw3
  refine wp_cond_false (fr_at _ _ (by rfl) _) ?_
  refine wp_skip ?_
  change Code.wp _ _ _ _ _
  refine seq_plain hw3 [0, 1, 2, 3, 4, 5, 6, 7] (by rfl) ?_
  refine L_val (.slice A0 L0 C0) (by rfl) (by rfl) (gives_value _ fun _ => by rfl) ?_
  refine L_freshU (vl := [.slice A0 L0 C0]) (fun g cap => .tuple #[.slice (some ⟨g, 0, none⟩) 24 cap, .agg (pc (Fp.n (num bs0)))]) (24) (num bs0 % Mp) (by rfl) (by rfl) (by kernel_rfl) (by rfl) (fun w h => l4_number A0 L0 C0 bs0 w (hG.keep h.below) ((hr0.below h.below).more h.below.size) ho0 (by omega)) ?_; intro g1 cap_1 cs_1 hwb_1
  refine L_val (.tuple #[.slice (some ⟨g1, 0, none⟩) 24 cap_1, .agg (pc (Fp.n (num bs0)))]) (by rfl) (by rfl) (gives_value _ fun _ => by rfl) ?_
  refine L_val (.slice (some ⟨g1, 0, none⟩) 24 cap_1) (by rfl) (by rfl) (gives_value _ fun _ => by kernel_rfl) ?_
  refine L_val (.agg (pc (Fp.n (num bs0)))) (by rfl) (by rfl) (gives_value _ fun _ => by kernel_rfl) ?_
  refine L_alloc _ (by rfl) (by rfl) z_1 (pc (0 : Fp)) rfl ?_; intro g2
  refine L_val (.slice (some ⟨g1, 0, none⟩) 24 cap_1) (by rfl) (by rfl) (gives_value _ fun _ => by rfl) ?_
  refine L_store (t := 28) 0 g2 (pc (0 : Fp)) (pc (Fp.n (num bs0))) (by rfl) (by rfl) (by rfl) (by rfl) (by rfl) (hi_1 _) ((pc_size _).trans (pc_size _).symm) (pc_one _) ?_
  simp only [List.set_cons_zero, List.set_cons_succ]
  refine L_end ?_
  intro w4 hw4
  refine seq_plain hw4 [0, 1, 2, 3, 4, 5, 6] (by rfl) ?_
  refine L_val (.slice (some ⟨g1, 0, none⟩) 24 cap_1) (by rfl) (by rfl) (gives_value _ fun _ => by rfl) ?_
  refine L_freshU (vl := [.slice (some ⟨g1, 0, none⟩) 24 cap_1]) (fun g cap => .tuple #[.slice (some ⟨g, 0, none⟩) 24 cap, .bool false]) (24) ((num bs0 % Mp) ^ Qp % Mp) (by rfl) (by rfl) (by kernel_rfl) (by rfl) (fun w h => n_sqrt4_f w _ _ _ (hwb_1.num (h.blk 1 (by rfl)) (mod_rng _ _ _ Mp_pos Mp_24) (by omega)) (fun e => hsq ((rt_sq _).1 e))) ?_; intro g3 cap_2 cs_2 hwb_2
  refine L_val (.tuple #[.slice (some ⟨g3, 0, none⟩) 24 cap_2, .bool false]) (by rfl) (by rfl) (gives_value _ fun _ => by rfl) ?_
  refine L_val (.slice (some ⟨g3, 0, none⟩) 24 cap_2) (by rfl) (by rfl) (gives_value _ fun _ => by kernel_rfl) ?_
  refine L_val (.bool false) (by rfl) (by rfl) (gives_value _ fun _ => by kernel_rfl) ?_
  refine L_val (.slice (some ⟨g3, 0, none⟩) 24 cap_2) (by rfl) (by rfl) (gives_value _ fun _ => by rfl) ?_
  refine L_val (.bool false) (by rfl) (by rfl) (gives_value _ fun _ => by rfl) ?_
  refine L_end ?_
  intro w5 hw5
  refine seq_plain hw5 [0, 1, 2, 3, 4, 5, 6, 7] (by rfl) ?_
  refine L_val (.agg (pc (Fp.n (num bs0)))) (by rfl) (by rfl) (gives_load g2 0 28 (pc (Fp.n (num bs0))) (pc (Fp.n (num bs0))) _ (by rfl) (fun _ h => h.blk 1 (by rfl)) (Sl.refl _) Tryd.underlying28 (by rfl) (hi_1 _)) ?_
  refine L_val (.tuple #[.agg (pc (0 : Fp)), .bool false]) (by rfl) (by rfl) (gives_call (vl := [.agg (pc (Fp.n (num bs0)))]) (by kernel_rfl) (by rfl) (fun w h => v_sqrt_no _ w (hG.keep h.below) (hQ.keep h.below) hsq)) ?_
  refine L_val (.tuple #[.agg (pc (0 : Fp)), .bool false]) (by rfl) (by rfl) (gives_value _ fun _ => by rfl) ?_
  refine L_val (.agg (pc (0 : Fp))) (by rfl) (by rfl) (gives_value _ fun _ => by kernel_rfl) ?_
  refine L_val (.bool false) (by rfl) (by rfl) (gives_value _ fun _ => by kernel_rfl) ?_
  refine L_alloc _ (by rfl) (by rfl) z_1 (pc (0 : Fp)) rfl ?_; intro g4
  refine L_store (t := 28) 0 g4 (pc (0 : Fp)) (pc (0 : Fp)) (by rfl) (by rfl) (by rfl) (by rfl) (by rfl) (hi_1 _) ((pc_size _).trans (pc_size _).symm) (pc_one _) ?_
  simp only [List.set_cons_zero, List.set_cons_succ]
  refine L_val (.bool false) (by rfl) (by rfl) (gives_value _ fun _ => by rfl) ?_
  refine L_end ?_
  intro w6 hw6
  refine wp_seq ?_
  refine seq_plain hw6 [0, 1, 2, 3, 4, 5, 6, 7, 8, 9, 10, 11, 12, 13, 14, 15, 16, 17, 18, 19, 20] (by rfl) ?_
  refine L_val (.bool false) (by rfl) (by rfl) (gives_value _ fun _ => by rfl) ?_
  refine L_val (.bool false) (by rfl) (by rfl) (gives_value _ fun _ => by rfl) ?_
  refine L_val (.bool false) (by rfl) (by rfl) (gives_value _ fun _ => by rfl) ?_
  refine L_val (.bool false) (by rfl) (by rfl) (gives_value _ fun _ => by rfl) ?_
  refine L_val_g (dj := 32) (.bool false) (by rfl) (by rfl) (by rfl) (by rfl) (by rfl) (gives_value _ fun _ => by rfl) ?_
  refine L_val_g (dj := 32) (.bool false) (by rfl) (by rfl) (by rfl) (by rfl) (by rfl) (gives_value _ fun _ => by rfl) ?_
  refine L_skip (dj := 34) (by rfl) (by rfl) (by rfl) (by rfl) (by rfl) ?_
  refine L_skip (dj := 34) (by rfl) (by rfl) (by rfl) (by rfl) (by rfl) ?_
  refine L_skip (dj := 34) (by rfl) (by rfl) (by rfl) (by rfl) (by rfl) ?_
  refine L_skip (dj := 34) (by rfl) (by rfl) (by rfl) (by rfl) (by rfl) ?_
  refine L_val_g (dj := 32) (.bool false) (by rfl) (by rfl) (by rfl) (by rfl) (by rfl) (gives_value _ fun _ => by rfl) ?_
  refine L_val (.bool false) (by rfl) (by rfl) (gives_value _ fun _ => by rfl) ?_
  refine L_val (.bool false) (by rfl) (by rfl) (gives_value _ fun _ => by rfl) ?_
  refine L_val_g (dj := 41) (.bool false) (by rfl) (by rfl) (by rfl) (by rfl) (by rfl) (gives_value _ fun _ => by rfl) ?_
  refine L_val_g (dj := 41) (.bool true) (by rfl) (by rfl) (by rfl) (by rfl) (by rfl) (gives_value _ fun _ => by rfl) ?_
  refine L_val_g (dj := 41) (.bool true) (by rfl) (by rfl) (by rfl) (by rfl) (by rfl) (gives_value _ fun _ => by rfl) ?_
  refine L_val_g (dj := 44) (.agg (pc (0 : Fp))) (by rfl) (by rfl) (by rfl) (by rfl) (by rfl) (gives_load g4 0 28 (pc (0 : Fp)) (pc (0 : Fp)) _ (by rfl) (fun _ h => h.blk 0 (by rfl)) (Sl.refl _) Tryd.underlying28 (by rfl) (hi_1 _)) ?_
  refine L_val_g (dj := 44) (.bool true) (by rfl) (by rfl) (by rfl) (by rfl) (by rfl) (gives_call (vl := [.agg (pc (0 : Fp))]) (by kernel_rfl) (by rfl) (fun w h => v_zero_z' w (hG.keep h.below))) ?_
  refine L_val_g (dj := 44) (.bool false) (by rfl) (by rfl) (by rfl) (by rfl) (by rfl) (gives_value _ fun _ => by rfl) ?_
  refine L_val_g (dj := 41) (.bool false) (by rfl) (by rfl) (by rfl) (by rfl) (by rfl) (gives_value _ fun _ => by rfl) ?_
  refine L_val (.bool false) (by rfl) (by rfl) (gives_value _ fun _ => by rfl) ?_
  refine L_end ?_
  intro w7 hw7
  refine wp_cond_false (fr_at _ _ (by rfl) _) ?_
  refine wp_skip ?_
  change Code.wp _ _ _ _ _
  refine seq_flow (by kernel_rfl) hw7 [] [(g4, 28, (pc (0 : Fp))), (g3, 54, cs_2), (g2, 28, (pc (Fp.n (num bs0)))), (g1, 54, cs_1)] 16 (by rfl) ?_
  refine flow_take (i := 0) (.agg (pc (Fp.n (num bs0)))) (by rfl) (by kernel_rfl) (by kernel_rfl) (by kernel_rfl) (by rfl) (by kernel_rfl) (List.Sublist.refl _) (gives_load g2 0 28 (pc (Fp.n (num bs0))) (pc (Fp.n (num bs0))) _ (by rfl) (fun _ h => h.blk 2 (by rfl)) (Sl.refl _) Tryd.underlying28 (by rfl) (hi_1 _)) ?_
  refine flow_take (i := 2) (.slice (some ⟨g1, 0, none⟩) 24 cap_1) (by rfl) (by kernel_rfl) (by kernel_rfl) (by kernel_rfl) (by rfl) (by kernel_rfl) (List.Sublist.refl _) (gives_value _ fun _ => by rfl) ?_
  refine flow_take (i := 3) (.pointer (some ⟨g1, 0 + (0), none⟩)) (by rfl) (by kernel_rfl) (by kernel_rfl) (by kernel_rfl) (by rfl) (by kernel_rfl) (List.Sublist.refl _) (gives_index g1 0 (24) (cap_1) (0) (0) (by rfl) (by rfl) und_u32s u32_sz (by omega) (by omega)) ?_
  refine flow_take (i := 4) (.int .u32 (num bs0 % Mp % 65536)) (by rfl) (by kernel_rfl) (by kernel_rfl) (by kernel_rfl) (by rfl) (by kernel_rfl) (List.Sublist.refl _) (gives_load1 g1 (0 + (0)) _ cs_1 (.int .u32 (num bs0 % Mp % 65536)) (by rfl) (fun _ h => h.blk 3 (by rfl)) (word0 hwb_1) und_u32) ?_
  refine flow_take (i := 5) (.int .u32 ((num bs0 % Mp % 65536) % 2)) (by rfl) (by kernel_rfl) (by kernel_rfl) (by kernel_rfl) (by rfl) (by kernel_rfl) (List.Sublist.refl _) (gives_and (k := .u32) (num bs0 % Mp % 65536) 1 ((num bs0 % Mp % 65536) % 2) (by rfl) (by rfl) (and_one32 _ (by omega) (by omega))) ?_
  refine flow_take (i := 6) (.bool (decide ((num bs0 % Mp % 65536) % 2 = 1))) (by rfl) (by kernel_rfl) (by kernel_rfl) (by kernel_rfl) (by rfl) (by kernel_rfl) (List.Sublist.refl _) (gives_ieq (k := .u32) ((num bs0 % Mp % 65536) % 2) (1) (decide ((num bs0 % Mp % 65536) % 2 = 1)) (by rfl) (by rfl) rfl) ?_
  refine flow_one 1 (by kernel_rfl) ?_
  refine F_val (vl := [.agg (pc (Fp.n (num bs0)))]) (.bool (decide ((Fp.n (num bs0)).val % 2 = 1))) (by rfl) (by rfl) Want.none (by kernel_rfl) (by rfl) (List.Sublist.refl _) (fun w h => v_odd _ w (hG.keep h.below)) ?_
  refine flow_take (i := 7) (.bool true) (by rfl) (by kernel_rfl) (by kernel_rfl) (by kernel_rfl) (by rfl) (by kernel_rfl) (List.Sublist.refl _) (gives_eqbb _ _ (by rfl) (by rfl) (by rfl) (decide_eq_decide.2 (odd_iff _))) ?_
  refine flow_take (i := 8) (.bool true) (by rfl) (by kernel_rfl) (by kernel_rfl) (by kernel_rfl) (by rfl) (by kernel_rfl) (List.Sublist.refl _) (gives_value _ fun _ => by rfl) ?_
  refine flow_take_g (i := 9) (dj := 58) (.agg (pc (Fp.n (num bs0)))) (by rfl) (by kernel_rfl) (by kernel_rfl) (by kernel_rfl) (by rfl) (by kernel_rfl) (List.Sublist.refl _) (by rfl) (by rfl) (by rfl) (gives_load g2 0 28 (pc (Fp.n (num bs0))) (pc (Fp.n (num bs0))) _ (by rfl) (fun _ h => h.blk 2 (by rfl)) (Sl.refl _) Tryd.underlying28 (by rfl) (hi_1 _)) ?_
  refine flow_take_g (i := 11) (dj := 58) (.slice (some ⟨g1, 0, none⟩) 24 cap_1) (by rfl) (by kernel_rfl) (by kernel_rfl) (by kernel_rfl) (by rfl) (by kernel_rfl) (List.Sublist.refl _) (by rfl) (by rfl) (by rfl) (gives_value _ fun _ => by rfl) ?_
  refine flow_one 10 (by kernel_rfl) ?_
  refine F_val (vl := [.agg (pc (Fp.n (num bs0)))]) (.bool (decide (Up ≤ ((Fp.n (num bs0)).val : Int)))) (by rfl) (by rfl) (Want.some (dj := 58) (by rfl) (by rfl) (by rfl) (by rfl)) (by kernel_rfl) (by rfl) (List.Sublist.refl _) (fun w h => v_large _ w (hG.keep h.below) (hU.keep h.below)) ?_
  refine flow_one 12 (by kernel_rfl) ?_
  refine F_val (vl := [.slice (some ⟨g1, 0, none⟩) 24 cap_1]) (.bool (decide (Mp < (num bs0 % Mp) + (num bs0 % Mp)))) (by rfl) (by rfl) (Want.some (dj := 58) (by rfl) (by rfl) (by rfl) (by rfl)) (by kernel_rfl) (by rfl) (List.Sublist.refl _) (fun w h => n_large4 w _ _ _ (hwb_1.num (h.blk 3 (by rfl)) (mod_rng _ _ _ Mp_pos Mp_24) (by omega)) (by omega)) ?_
  refine flow_take_g (i := 13) (dj := 58) (.bool true) (by rfl) (by kernel_rfl) (by kernel_rfl) (by kernel_rfl) (by rfl) (by kernel_rfl) (List.Sublist.refl _) (by rfl) (by rfl) (by rfl) (gives_eqbb _ _ (by rfl) (by rfl) (by rfl) (decide_eq_decide.2 (up_iff _))) ?_
  refine flow_take (i := 14) (.bool true) (by rfl) (by kernel_rfl) (by kernel_rfl) (by kernel_rfl) (by rfl) (by kernel_rfl) (List.Sublist.refl _) (gives_value _ fun _ => by rfl) ?_
  refine flow_take (i := 15) (.bool true) (by rfl) (by kernel_rfl) (by kernel_rfl) (by kernel_rfl) (by rfl) (by kernel_rfl) (List.Sublist.refl _) (gives_value _ fun _ => by rfl) ?_
  refine flow_done (by kernel_rfl) ?_
  intro w8 hw8
  refine wp_ret ?_
  change bodyPost _ _ _ Exit.ret _ _
  refine (ret_tmp (by rfl) (by rfl) (by rfl) ⟨rfl, hw8.below⟩)
theorem roots_any (A0 : Option Addr) (L0 C0 : Nat) (bs0 : List Int) (v : World) (hG : Glo v) (hQ : GQp v) (hU : GUp v) (hr0 : Reads v v.heap.size A0 L0 (bs0.map (Value.int .u8))) (ho0 : Oct bs0) : Rets 8 #[.slice A0 L0 C0] v (.bool true) := by
  by_cases h : 64 < L0
  · exact roots_long A0 L0 C0 bs0 v hG hQ hU hr0 ho0 h
  · by_cases hsq : (Fp.n (num bs0)).rt * (Fp.n (num bs0)).rt = Fp.n (num bs0)
    · exact roots_yes A0 L0 C0 bs0 v hG hQ hU hr0 ho0 (by omega) hsq
    · exact roots_no A0 L0 C0 bs0 v hG hQ hU hr0 ho0 (by omega) hsq
end Go.Proofs.YtlbmohofdgooaaaDoor
