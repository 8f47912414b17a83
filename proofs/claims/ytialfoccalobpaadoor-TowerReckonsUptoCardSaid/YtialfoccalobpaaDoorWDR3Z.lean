/-
  R3K, R3L, R3M, R3T, R3N, R3H, FlowM, R3X, R3Y, in one text.
-/
import Derived.Test.YtialfoccalobpaaDoorWDA2
import Derived.Test.YtialfoccalobpaaDoorWDA3
import Derived.Test.YtialfoccalobpaaDoorWDA5
/-! ## R3K -/
namespace Go.Proofs.YtialfoccalobpaaDoor
set_option linter.unusedSimpArgs false
set_option linter.unusedVariables false
open Go.RowKit
theorem bp (k : Nat) : (0 : Int) < 65536 ^ k := Int.pow_pos (by omega)
theorem vg_split (f : Nat → Int) (k j : Nat) : ∃ q, vg f (k + j) = vg f k + 65536 ^ k * q := by
  induction j with
  | zero => exact ⟨0, by simp⟩
  | succ j ih =>
    obtain ⟨q, hq⟩ := ih
    refine ⟨q + 65536 ^ j * f (k + j), ?_⟩
    rw [← Nat.add_assoc, vg, hq, Int.pow_add]
    grind
theorem va_low (l : List Int) (k : Nat) : ∃ q, va l = vg (gt l) k + 65536 ^ k * q := by
  obtain ⟨q, hq⟩ := vg_split (gt l) k l.length
  exact ⟨q, by rw [va_vg l (k + l.length) (by omega), hq]⟩
theorem wl_snoc (v : Int) (k : Nat) : wl v (k + 1) = wl v k ++ [v / 65536 ^ k % 65536] := by
  induction k generalizing v with
  | zero => simp [wl]
  | succ k ih =>
    have e : v / 65536 ^ (k + 1) = v / 65536 / 65536 ^ k := by rw [Int.pow_succ, Int.mul_comm, edd _ _ _ (by omega)]
    rw [wl, ih (v / 65536), e]
    rfl
/-- A digit of a number that is D below its k + 1-st word. -/
theorem digit_of (S D q : Int) (k : Nat) (h : S = D + 65536 ^ (k + 1) * q) : S / 65536 ^ k % 65536 = D / 65536 ^ k % 65536 := by
  have e : (65536 : Int) ^ (k + 1) * q = 65536 ^ k * (65536 * q) := by rw [Int.pow_succ]; grind
  rw [h, e, Int.add_mul_ediv_left _ _ (Int.ne_of_gt (bp k))]
  omega
theorem next_div (T a : Int) (k : Nat) : (T + 65536 ^ k * a) / 65536 ^ k = T / 65536 ^ k + a := Int.add_mul_ediv_left _ _ (Int.ne_of_gt (bp k))
theorem div_next (T : Int) (k : Nat) : T / 65536 ^ (k + 1) = T / 65536 ^ k / 65536 := by rw [Int.pow_succ, edd _ _ _ (Int.le_of_lt (bp k))]
/-- The carry into word k of a sum; the borrow of a difference. -/
def cy (l m : List Int) (k : Nat) : Int := (vg (gt l) k + vg (gt m) k) / 65536 ^ k
def bw (l m : List Int) (k : Nat) : Int := -((vg (gt l) k - vg (gt m) k) / 65536 ^ k)
theorem cy_zero (l m : List Int) : cy l m 0 = 0 := by simp [cy, vg]
theorem bw_zero (l m : List Int) : bw l m 0 = 0 := by simp [bw, vg]
theorem cy_next (l m : List Int) (k : Nat) : cy l m (k + 1) = (gt l k + gt m k + cy l m k) / 65536 := by
  have e : vg (gt l) k + 65536 ^ k * gt l k + (vg (gt m) k + 65536 ^ k * gt m k) = vg (gt l) k + vg (gt m) k + 65536 ^ k * (gt l k + gt m k) := by grind
  unfold cy
  rw [div_next, vg, vg, e, next_div]
  congr 1
  omega
theorem bw_next (l m : List Int) (k : Nat) : bw l m (k + 1) = -((gt l k - gt m k - bw l m k) / 65536) := by
  have e : vg (gt l) k + 65536 ^ k * gt l k - (vg (gt m) k + 65536 ^ k * gt m k) = vg (gt l) k - vg (gt m) k + 65536 ^ k * (gt l k - gt m k) := by grind
  unfold bw
  rw [div_next, vg, vg, e, next_div]
  congr 2
  omega
theorem cy_lo (l m : List Int) (hl : W16 l) (hm : W16 m) (k : Nat) : 0 ≤ cy l m k ∧ cy l m k ≤ 1 := by
  induction k with
  | zero => rw [cy_zero]; omega
  | succ k ih =>
    have h1 := hl.at_ k
    have h2 := hm.at_ k
    rw [cy_next]
    omega
theorem bw_lo (l m : List Int) (hl : W16 l) (hm : W16 m) (k : Nat) : 0 ≤ bw l m k ∧ bw l m k ≤ 1 := by
  induction k with
  | zero => rw [bw_zero]; omega
  | succ k ih =>
    have h1 := hl.at_ k
    have h2 := hm.at_ k
    rw [bw_next]
    omega
theorem plus_digit (l m : List Int) (k : Nat) : (gt l k + gt m k + cy l m k) % 65536 = (va l + va m) / 65536 ^ k % 65536 := by
  obtain ⟨q, hq⟩ := va_low l (k + 1)
  obtain ⟨p, hp⟩ := va_low m (k + 1)
  rw [digit_of (va l + va m) (vg (gt l) (k + 1) + vg (gt m) (k + 1)) (q + p) k (by rw [hq, hp]; grind)]
  have e : vg (gt l) k + 65536 ^ k * gt l k + (vg (gt m) k + 65536 ^ k * gt m k) = vg (gt l) k + vg (gt m) k + 65536 ^ k * (gt l k + gt m k) := by grind
  rw [vg, vg, e, next_div]
  unfold cy
  congr 1
  omega
theorem minus_digit (l m : List Int) (k : Nat) : (gt l k + 65536 - gt m k - bw l m k) % 65536 = (va l - va m) / 65536 ^ k % 65536 := by
  obtain ⟨q, hq⟩ := va_low l (k + 1)
  obtain ⟨p, hp⟩ := va_low m (k + 1)
  rw [digit_of (va l - va m) (vg (gt l) (k + 1) - vg (gt m) (k + 1)) (q - p) k (by rw [hq, hp]; grind)]
  have e : vg (gt l) k + 65536 ^ k * gt l k - (vg (gt m) k + 65536 ^ k * gt m k) = vg (gt l) k - vg (gt m) k + 65536 ^ k * (gt l k - gt m k) := by grind
  rw [vg, vg, e, next_div]
  unfold bw
  omega
theorem bw_flip (l m : List Int) (k : Nat) : 1 - (gt l k + 65536 - gt m k - bw l m k) / 65536 = bw l m (k + 1) := by
  rw [bw_next]
  omega
/-- m words of val lie at the front of a block. -/
structure WB (cs : Array Value) (cap m : Nat) (val : Int) : Prop where
  size : cs.size = cap
  le : m ≤ cap
  cap : cap ≤ 9223372036854775807
  words : cs.toList.take m = (wl val m).map (Value.int .u32)
theorem WB.reads {w : World} {g cap m : Nat} {e : TypeId} {cs : Array Value} {val : Int} (h : WB cs cap m val) (hB : Blk w g e cs) : Reads w w.heap.size (some ⟨g, 0, none⟩) m ((wl val m).map (Value.int .u32)) := by
  have := hB.reads hB.lt 0 m (by rw [h.size, Nat.zero_add]; exact h.le)
  rwa [List.drop_zero, h.words] at this
theorem WB.nil (val : Int) : WB #[] 0 0 val := ⟨rfl, Nat.le_refl _, by omega, rfl⟩
theorem WB.snoc {cs cs' : Array Value} {cap cap' m : Nat} {val d : Int} (h : WB cs cap m val) (h1 : m + 1 ≤ cap') (h2 : cs'.size = cap') (h3 : cap' ≤ 9223372036854775807) (h4 : cs'.toList.take (m + 1) = cs.toList.take m ++ [.int .u32 d]) (hd : d = val / 65536 ^ m % 65536) : WB cs' cap' (m + 1) val :=
  ⟨h2, h1, h3, by rw [h4, h.words, wl_snoc, hd]; simp⟩
/-- A function returns m words of val, in new memory. -/
def RetsW (f : FuncId) (args : Array Value) (w : World) (m : Nat) (val : Int) : Prop :=
  Calls Tryd.prog f args w fun e w' => ∃ g cap cs, e = .returned (.slice (some ⟨g, 0, none⟩) m cap) ∧ WB cs cap m val ∧ w.heap.size ≤ g ∧ Blk w' g 100 cs ∧ Below w.heap.size w w'
theorem Hbl.ge {v w : World} {L : List (Nat × TypeId × Array Value)} (h : Hbl v L w) (k : Nat) {g : Nat} {t : TypeId} {cs : Array Value} (hk : L[k]? = some (g, t, cs)) : v.heap.size ≤ g := (h.2.1 (g, t, cs) (List.mem_of_getElem? hk)).2
theorem u32_all : (Tryd.prog.info? 100).map (fun i => (i.zero, i.size, i.bytes)) = some (some (.int .u32 0), 1, 4) := by kernel_rfl
theorem u32_zs : (Tryd.prog.info? 100).map (fun i => (i.zero, i.size)) = some (some (.int .u32 0), 1) := by kernel_rfl
theorem u32_sz : (Tryd.prog.info? 100).map (·.size) = some 1 := by kernel_rfl
theorem u8_sz : (Tryd.prog.info? 5).map (·.size) = some 1 := by kernel_rfl
theorem und_int : Tryd.prog.underlying 3 = some (.int .i64) := by kernel_rfl
theorem und_uint : Tryd.prog.underlying 64 = some (.int .u64) := by kernel_rfl
theorem und_u32 : Tryd.prog.underlying 100 = some (.int .u32) := by kernel_rfl
theorem und_u32s : Tryd.prog.underlying 39 = some (.slice 100) := by kernel_rfl
theorem und_u8s : Tryd.prog.underlying 22 = some (.slice 5) := by kernel_rfl
theorem und_u8' : Tryd.prog.underlying 5 = some (.int .u8) := by kernel_rfl
theorem w32 (x : Int) (h0 : 0 ≤ x) (h : x < 4294967296) : IntKind.u32.wrap x = x := by
  simp [IntKind.wrap, IntKind.bits, IntKind.signed]; omega
theorem and_ffff (a : Int) (h0 : 0 ≤ a) (h : a < 4294967296) : IntKind.u32.wrap (((a % 2 ^ IntKind.u32.bits).toNat &&& ((65535 : Int) % 2 ^ IntKind.u32.bits).toNat : Nat) : Int) = a % 65536 := by
  have e1 : (2 : Int) ^ IntKind.u32.bits = 4294967296 := by decide
  have e2 : ((65535 : Int) % 4294967296).toNat = 2 ^ 16 - 1 := by decide
  rw [e1, e2, Nat.and_two_pow_sub_one_eq_mod, Int.emod_eq_of_lt h0 h]
  have e3 : ((a.toNat % 2 ^ 16 : Nat) : Int) = a % 65536 := by omega
  rw [e3]
  exact w32 _ (by omega) (by omega)
theorem shr_16 (a : Int) (h0 : 0 ≤ a) : a.fdiv (2 ^ (min (16 : Int).toNat IntKind.u32.bits)) = a / 65536 := by
  have e : (2 : Int) ^ (min (16 : Int).toNat IntKind.u32.bits) = 65536 := by decide
  rw [e, Int.fdiv_eq_ediv_of_nonneg _ (by omega)]
/-- word, as a call that only grows memory. -/
theorem r3_word' (w : World) (B : Nat) (A : Option Addr) (n c : Nat) (l : List Int) (hr : Reads w B A n (l.map (Value.int .u32))) (i : Nat) : Calls Tryd.prog 115 #[.slice A n c, .int .i64 i] w fun e w' => e = .returned (.int .u32 (gt l i)) ∧ Below w.heap.size w w' :=
  (r3_word w B A n c l hr i).mono fun _ _ ⟨he, hw⟩ => ⟨he, hw ▸ Below.refl _ _⟩
end Go.Proofs.YtialfoccalobpaaDoor

/-! ## R3L -/
namespace Go.Proofs.YtialfoccalobpaaDoor
set_option linter.unusedSimpArgs false
set_option linter.unusedVariables false
open Go.RowKit
attribute [local irreducible] wpL wpF fr Code.wp bodyPost
set_option maxRecDepth 100000 in
set_option maxHeartbeats 4000000 in
theorem r3_plus_gt (A0 : Option Addr) (n0 c0 : Nat) (l0 : List Int) (A1 : Option Addr) (n1 c1 : Nat) (l1 : List Int) (v : World) (hr0 : Reads v v.heap.size A0 n0 (l0.map (Value.int .u32))) (ho0 : W16 l0) (hb0 : n0 ≤ 1099511627776) (hr1 : Reads v v.heap.size A1 n1 (l1.map (Value.int .u32))) (ho1 : W16 l1) (hb1 : n1 ≤ 1099511627776) (hc : n0 < n1) : RetsW 143 #[.slice A0 n0 c0, .slice A1 n1 c1] v (n1 + 1) (va l0 + va l1) := by
  refine calls_fr2 Tryd.func143 rfl (by rfl : _ = 41) (by rfl) ?_
  have hw := Hbl.nil v
  refine seq_plain hw [0] (by rfl) ?_
  refine L_val (.slice none 0 0) (by rfl) (by rfl) (gives_value _ fun _ => by rfl) ?_
  refine L_end ?_
  intro w1 hw1
  refine seq_plain hw1 [0, 1, 2] (by rfl) ?_
  refine L_val (.slice A0 n0 c0) (by rfl) (by rfl) (gives_value _ fun _ => by rfl) ?_
  refine L_val (.int .i64 (n0 : Int)) (by rfl) (by rfl) (gives_len _ n0 c0 und_u32s (by rfl)) ?_
  refine L_val (.int .i64 (n0 : Int)) (by rfl) (by rfl) (gives_value _ fun _ => by rfl) ?_
  refine L_end ?_
  intro w2 hw2
  refine wp_seq ?_
  refine seq_plain hw2 [0, 1, 2, 3] (by rfl) ?_
  refine L_val (.slice A1 n1 c1) (by rfl) (by rfl) (gives_value _ fun _ => by rfl) ?_
  refine L_val (.int .i64 (n1 : Int)) (by rfl) (by rfl) (gives_len _ n1 c1 und_u32s (by rfl)) ?_
  refine L_val (.int .i64 (n0 : Int)) (by rfl) (by rfl) (gives_value _ fun _ => by rfl) ?_
  refine L_val (.bool true) (by rfl) (by rfl) (gives_gtr (k := .i64) ((n1 : Int)) ((n0 : Int)) true (by rfl) (by rfl) (decide_eq_true (by omega))) ?_
  refine L_end ?_
  intro w3 hw3
  refine wp_cond_true (fr_at _ _ (by rfl) _) ?_
  refine one_plain hw3 [0, 1, 2] (by rfl) ?_
  refine L_val (.slice A1 n1 c1) (by rfl) (by rfl) (gives_value _ fun _ => by rfl) ?_
  refine L_val (.int .i64 (n1 : Int)) (by rfl) (by rfl) (gives_len _ n1 c1 und_u32s (by rfl)) ?_
  refine L_val (.int .i64 (n1 : Int)) (by rfl) (by rfl) (gives_value _ fun _ => by rfl) ?_
  refine L_end ?_
  intro w4 hw4
  change Code.wp _ _ _ _ _
  refine seq_plain hw4 [0, 1] (by rfl) ?_
  refine L_build0 1 (by rfl) (by rfl) und_u32s u32_sz ?_; intro g1
  refine L_val (.slice (some ⟨g1, 0, none⟩) 0 0) (by rfl) (by rfl) (gives_value _ fun _ => by rfl) ?_
  refine L_end ?_
  intro w5 hw5
  refine seq_plain hw5 [0] (by rfl) ?_
  refine L_val (.int .u32 0) (by rfl) (by rfl) (gives_value _ fun _ => by rfl) ?_
  refine L_end ?_
  intro w6 hw6
  refine wp_seq ?_
  refine seq_plain hw6 [0] (by rfl) ?_
  refine L_val (.int .i64 0) (by rfl) (by rfl) (gives_value _ fun _ => by rfl) ?_
  refine L_end ?_
  intro w7 hw7
  refine wp_block ?_
  refine loop_down (fun (r_ : Nat) a w => ∃ (k : Nat) (g : Nat) (cap : Nat) (cs : Array Value) (l_1 : List (Nat × Value)), n1 + 1 - k = r_ ∧ inFr 41 l_1 = true ∧ a = fr 41 ((0, .slice A0 n0 c0) :: (1, .slice A1 n1 c1) :: (5, .int .i64 (n1 : Int)) :: (6, .slice (some ⟨g, 0, none⟩) k cap) :: (7, .int .u32 (cy l0 l1 k)) :: (8, .int .i64 (k : Int)) :: l_1) ∧ (k ≤ n1 + 1) ∧ (WB cs cap k (va l0 + va l1)) ∧ Hbl v [(g, 100, cs)] w) ?_ _ _ _ ⟨0, g1, 0, #[], [(8, .int .i64 0), (7, .int .u32 0), (6, .slice (some ⟨g1, 0, none⟩) 0 0), (18, .slice (some ⟨g1, 0, none⟩) 0 0), (5, .int .i64 (n1 : Int)), (17, .int .i64 (n1 : Int)), (16, .slice A1 n1 c1), (15, .bool true), (14, .int .i64 (n0 : Int)), (13, .int .i64 (n1 : Int)), (12, .slice A1 n1 c1), (5, .int .i64 (n0 : Int)), (11, .int .i64 (n0 : Int)), (10, .slice A0 n0 c0), (4, .slice none 0 0), (1, .slice A1 n1 c1), (0, .slice A0 n0 c0)], rfl, (by rfl), (Eq.trans (Eq.trans (Eq.trans (Eq.trans (Eq.trans (fr_dup _ _ 8 _ (by rfl) (by rfl) (by rfl)).symm (fr_dup _ _ 7 _ (by rfl) (by rfl) (by exact (congrArg (Value.int .u32) (cy_zero l0 l1).symm))).symm) (fr_dup _ _ 6 _ (by rfl) (by rfl) (by rfl)).symm) (fr_dup _ _ 5 _ (by rfl) (by rfl) (by rfl)).symm) (fr_dup _ _ 1 _ (by rfl) (by rfl) (by rfl)).symm) (fr_dup _ _ 0 _ (by rfl) (by rfl) (by rfl)).symm), Nat.zero_le _, WB.nil _, hw7⟩
  rintro r_1 a0 w0_1 ⟨k, g, cap, cs, l_1, hr_1, hl_1, rfl, hk, hwb, hw0_1⟩
  by_cases hlt : k ≤ n1
  ·
    have b1 := ho0.at_ k
    have b2 := ho1.at_ k
    have b3 := cy_lo l0 l1 ho0 ho1 k
    refine wp_seq ?_
    refine seq_plain hw0_1 [0, 1, 2] (by rfl) ?_
    refine L_val (.int .i64 (k : Int)) (by rfl) (by exact hl_1) (gives_value _ fun _ => by rfl) ?_
    refine L_val (.int .i64 (n1 : Int)) (by rfl) (by exact hl_1) (gives_value _ fun _ => by rfl) ?_
    refine L_val (.bool true) (by rfl) (by exact hl_1) (gives_leq (k := .i64) ((k : Int)) ((n1 : Int)) true (by rfl) (by rfl) (decide_eq_true (by omega))) ?_
    refine L_end ?_
    intro w8 hw8
    refine wp_cond_true (fr_at _ _ (by exact hl_1) _) ?_
    refine wp_skip ?_
    change Code.wp _ _ _ _ _
    refine wp_seq ?_
    refine wp_block ?_
    refine seq_plain hw8 [0, 1, 2, 3, 4, 5, 6, 7, 8, 9] (by rfl) ?_
    refine L_val (.slice A0 n0 c0) (by rfl) (by exact hl_1) (gives_value _ fun _ => by rfl) ?_
    refine L_val (.int .i64 (k : Int)) (by rfl) (by exact hl_1) (gives_value _ fun _ => by rfl) ?_
    refine L_val (.int .u32 (gt l0 k)) (by rfl) (by exact hl_1) (gives_call (vl := [.slice A0 n0 c0, .int .i64 (k : Int)]) (by kernel_rfl) (by rfl) (fun w h => r3_word' w _ A0 n0 c0 l0 (hr0.below h.below) k)) ?_
    refine L_val (.slice A1 n1 c1) (by rfl) (by exact hl_1) (gives_value _ fun _ => by rfl) ?_
    refine L_val (.int .i64 (k : Int)) (by rfl) (by exact hl_1) (gives_value _ fun _ => by rfl) ?_
    refine L_val (.int .u32 (gt l1 k)) (by rfl) (by exact hl_1) (gives_call (vl := [.slice A1 n1 c1, .int .i64 (k : Int)]) (by kernel_rfl) (by rfl) (fun w h => r3_word' w _ A1 n1 c1 l1 (hr1.below h.below) k)) ?_
    refine L_val (.int .u32 ((gt l0 k) + (gt l1 k))) (by rfl) (by exact hl_1) (gives_add (k := .u32) (gt l0 k) (gt l1 k) ((gt l0 k) + (gt l1 k)) (by rfl) (by rfl) (IntWalk.u32_in _ (by omega))) ?_
    refine L_val (.int .u32 (cy l0 l1 k)) (by rfl) (by exact hl_1) (gives_value _ fun _ => by rfl) ?_
    refine L_val (.int .u32 (((gt l0 k) + (gt l1 k)) + (cy l0 l1 k))) (by rfl) (by exact hl_1) (gives_add (k := .u32) ((gt l0 k) + (gt l1 k)) (cy l0 l1 k) (((gt l0 k) + (gt l1 k)) + (cy l0 l1 k)) (by rfl) (by rfl) (IntWalk.u32_in _ (by omega))) ?_
    refine L_val (.int .u32 (((gt l0 k) + (gt l1 k)) + (cy l0 l1 k))) (by rfl) (by exact hl_1) (gives_value _ fun _ => by rfl) ?_
    refine L_end ?_
    intro w9 hw9
    refine seq_plain hw9 [0, 1, 2, 3, 4, 5] (by rfl) ?_
    refine L_val (.slice (some ⟨g, 0, none⟩) k cap) (by rfl) (by exact hl_1) (gives_value _ fun _ => by rfl) ?_
    refine L_val (.int .u32 (((gt l0 k) + (gt l1 k)) + (cy l0 l1 k))) (by rfl) (by exact hl_1) (gives_value _ fun _ => by rfl) ?_
    refine L_val (.int .u32 ((((gt l0 k) + (gt l1 k)) + (cy l0 l1 k)) % 65536)) (by rfl) (by exact hl_1) (gives_and (k := .u32) (((gt l0 k) + (gt l1 k)) + (cy l0 l1 k)) 65535 ((((gt l0 k) + (gt l1 k)) + (cy l0 l1 k)) % 65536) (by rfl) (by rfl) (and_ffff _ (by omega) (by omega))) ?_
    refine L_build1 (.int .u32 ((((gt l0 k) + (gt l1 k)) + (cy l0 l1 k)) % 65536)) (.int .u32 0) (by rfl) (by exact hl_1) und_u32s u32_zs rfl (by rfl) rfl ?_; intro g2
    refine L_append 1 0 g g2 k cap 1 4 (.int .u32 0) (.int .u32 ((((gt l0 k) + (gt l1 k)) + (cy l0 l1 k)) % 65536)) cs (by rfl) (by exact hl_1) und_u32s u32_all rfl (by rfl) (by rfl) (by rfl) (by rfl) rfl hwb.le hwb.size hwb.cap (by omega) (by omega) [(g2, 100, #[.int .u32 ((((gt l0 k) + (gt l1 k)) + (cy l0 l1 k)) % 65536)])] (by rfl) ?_
    intro g3 cap_1 cs_1 ha1 hb1 hc1 hd1
    refine L_val (.slice (some ⟨g3, 0, none⟩) (k + 1) cap_1) (by rfl) (by exact hl_1) (gives_value _ fun _ => by rfl) ?_
    refine L_end ?_
    intro w10 hw10
    refine one_plain hw10 [0, 1, 2] (by rfl) ?_
    refine L_val (.int .u32 (((gt l0 k) + (gt l1 k)) + (cy l0 l1 k))) (by rfl) (by exact hl_1) (gives_value _ fun _ => by rfl) ?_
    refine L_val (.int .u32 ((((gt l0 k) + (gt l1 k)) + (cy l0 l1 k)) / 65536)) (by rfl) (by exact hl_1) (gives_shr (k := .u32) (k2 := .u64) (((gt l0 k) + (gt l1 k)) + (cy l0 l1 k)) 16 ((((gt l0 k) + (gt l1 k)) + (cy l0 l1 k)) / 65536) (by rfl) (by rfl) (by omega) (shr_16 _ (by omega))) ?_
    refine L_val (.int .u32 ((((gt l0 k) + (gt l1 k)) + (cy l0 l1 k)) / 65536)) (by rfl) (by exact hl_1) (gives_value _ fun _ => by rfl) ?_
    refine L_end ?_
    intro w11 hw11
    change Code.wp _ _ _ _ _
    refine one_plain hw11 [0, 1, 2] (by rfl) ?_
    refine L_val (.int .i64 (k : Int)) (by rfl) (by exact hl_1) (gives_value _ fun _ => by rfl) ?_
    refine L_val (.int .i64 ((k : Int) + 1)) (by rfl) (by exact hl_1) (gives_add (k := .i64) ((k : Int)) (1) ((k : Int) + 1) (by rfl) (by rfl) (IntWalk.i64_in _ (by omega))) ?_
    refine L_val (.int .i64 ((k : Int) + 1)) (by rfl) (by exact hl_1) (gives_value _ fun _ => by rfl) ?_
    refine L_end ?_
    intro w12 hw12
    change ∃ r' : Nat, r' < r_1 ∧ _
    refine ⟨_, ?_, k + 1, g3, cap_1, cs_1, ((8, .int .i64 ((k : Int) + 1)) :: (23, .int .i64 ((k : Int) + 1)) :: (22, .int .i64 (k : Int)) :: (7, .int .u32 ((((gt l0 k) + (gt l1 k)) + (cy l0 l1 k)) / 65536)) :: (39, .int .u32 ((((gt l0 k) + (gt l1 k)) + (cy l0 l1 k)) / 65536)) :: (38, .int .u32 (((gt l0 k) + (gt l1 k)) + (cy l0 l1 k))) :: (6, .slice (some ⟨g3, 0, none⟩) (k + 1) cap_1) :: (37, .slice (some ⟨g3, 0, none⟩) (k + 1) cap_1) :: (36, .slice (some ⟨g2, 0, none⟩) 1 1) :: (35, .int .u32 ((((gt l0 k) + (gt l1 k)) + (cy l0 l1 k)) % 65536)) :: (34, .int .u32 (((gt l0 k) + (gt l1 k)) + (cy l0 l1 k))) :: (33, .slice (some ⟨g, 0, none⟩) k cap) :: (9, .int .u32 (((gt l0 k) + (gt l1 k)) + (cy l0 l1 k))) :: (32, .int .u32 (((gt l0 k) + (gt l1 k)) + (cy l0 l1 k))) :: (31, .int .u32 (cy l0 l1 k)) :: (30, .int .u32 ((gt l0 k) + (gt l1 k))) :: (29, .int .u32 (gt l1 k)) :: (28, .int .i64 (k : Int)) :: (27, .slice A1 n1 c1) :: (26, .int .u32 (gt l0 k)) :: (25, .int .i64 (k : Int)) :: (24, .slice A0 n0 c0) :: (21, .bool true) :: (20, .int .i64 (n1 : Int)) :: (19, .int .i64 (k : Int)) :: (0, .slice A0 n0 c0) :: (1, .slice A1 n1 c1) :: (5, .int .i64 (n1 : Int)) :: (6, .slice (some ⟨g, 0, none⟩) k cap) :: (7, .int .u32 (cy l0 l1 k)) :: (8, .int .i64 (k : Int)) :: l_1), rfl, (by exact hl_1), (Eq.trans (Eq.trans (Eq.trans (Eq.trans (Eq.trans (fr_dup _ _ 8 _ (by exact hl_1) (by rfl) (by rfl)).symm (fr_dup _ _ 7 _ (by exact hl_1) (by rfl) (by exact (congrArg (Value.int .u32) (cy_next l0 l1 k).symm))).symm) (fr_dup _ _ 6 _ (by exact hl_1) (by rfl) (by rfl)).symm) (fr_dup _ _ 5 _ (by exact hl_1) (by rfl) (by rfl)).symm) (fr_dup _ _ 1 _ (by exact hl_1) (by rfl) (by rfl)).symm) (fr_dup _ _ 0 _ (by exact hl_1) (by rfl) (by rfl)).symm), by omega, hwb.snoc ha1 hb1 hc1 hd1 (plus_digit l0 l1 k), hw12.sub (List.Sublist.cons_cons _ (List.Sublist.cons _ (List.Sublist.refl _)))⟩
    omega
  ·
    refine wp_seq ?_
    refine seq_plain hw0_1 [0, 1, 2] (by rfl) ?_
    refine L_val (.int .i64 (k : Int)) (by rfl) (by exact hl_1) (gives_value _ fun _ => by rfl) ?_
    refine L_val (.int .i64 (n1 : Int)) (by rfl) (by exact hl_1) (gives_value _ fun _ => by rfl) ?_
    refine L_val (.bool false) (by rfl) (by exact hl_1) (gives_leq (k := .i64) ((k : Int)) ((n1 : Int)) false (by rfl) (by rfl) (decide_eq_false (by omega))) ?_
    refine L_end ?_
    intro w13 hw13
    refine wp_cond_false (fr_at _ _ (by exact hl_1) _) ?_
    refine wp_exit ?_
    have hkN : k = n1 + 1 := by omega
    change Code.wp _ _ _ _ _
    change Code.wp _ _ _ _ _
    refine seq_plain hw13 [0, 1] (by rfl) ?_
    refine L_val (.slice (some ⟨g, 0, none⟩) k cap) (by rfl) (by exact hl_1) (gives_value _ fun _ => by rfl) ?_
    refine L_val (.slice (some ⟨g, 0, none⟩) k cap) (by rfl) (by exact hl_1) (gives_value _ fun _ => by rfl) ?_
    refine L_end ?_
    intro w14 hw14
    subst hkN
    refine wp_ret ?_
    change bodyPost _ _ _ Exit.ret _ _
    refine (ret_tmp (by rfl) (by exact hl_1) (by rfl) ⟨g, cap, cs, rfl, hwb, hw14.ge 0 (by rfl), hw14.blk 0 (by rfl), hw14.below⟩)
set_option maxRecDepth 100000 in
set_option maxHeartbeats 4000000 in
theorem r3_plus_le (A0 : Option Addr) (n0 c0 : Nat) (l0 : List Int) (A1 : Option Addr) (n1 c1 : Nat) (l1 : List Int) (v : World) (hr0 : Reads v v.heap.size A0 n0 (l0.map (Value.int .u32))) (ho0 : W16 l0) (hb0 : n0 ≤ 1099511627776) (hr1 : Reads v v.heap.size A1 n1 (l1.map (Value.int .u32))) (ho1 : W16 l1) (hb1 : n1 ≤ 1099511627776) (hc : ¬ n0 < n1) : RetsW 143 #[.slice A0 n0 c0, .slice A1 n1 c1] v (n0 + 1) (va l0 + va l1) := by
  refine calls_fr2 Tryd.func143 rfl (by rfl : _ = 41) (by rfl) ?_
  have hw := Hbl.nil v
  refine seq_plain hw [0] (by rfl) ?_
  refine L_val (.slice none 0 0) (by rfl) (by rfl) (gives_value _ fun _ => by rfl) ?_
  refine L_end ?_
  intro w1 hw1
  refine seq_plain hw1 [0, 1, 2] (by rfl) ?_
  refine L_val (.slice A0 n0 c0) (by rfl) (by rfl) (gives_value _ fun _ => by rfl) ?_
  refine L_val (.int .i64 (n0 : Int)) (by rfl) (by rfl) (gives_len _ n0 c0 und_u32s (by rfl)) ?_
  refine L_val (.int .i64 (n0 : Int)) (by rfl) (by rfl) (gives_value _ fun _ => by rfl) ?_
  refine L_end ?_
  intro w2 hw2
  refine wp_seq ?_
  refine seq_plain hw2 [0, 1, 2, 3] (by rfl) ?_
  refine L_val (.slice A1 n1 c1) (by rfl) (by rfl) (gives_value _ fun _ => by rfl) ?_
  refine L_val (.int .i64 (n1 : Int)) (by rfl) (by rfl) (gives_len _ n1 c1 und_u32s (by rfl)) ?_
  refine L_val (.int .i64 (n0 : Int)) (by rfl) (by rfl) (gives_value _ fun _ => by rfl) ?_
  refine L_val (.bool false) (by rfl) (by rfl) (gives_gtr (k := .i64) ((n1 : Int)) ((n0 : Int)) false (by rfl) (by rfl) (decide_eq_false (by omega))) ?_
  refine L_end ?_
  intro w3 hw3
  refine wp_cond_false (fr_at _ _ (by rfl) _) ?_
  refine wp_skip ?_
  change Code.wp _ _ _ _ _
  refine seq_plain hw3 [0, 1] (by rfl) ?_
  refine L_build0 1 (by rfl) (by rfl) und_u32s u32_sz ?_; intro g1
  refine L_val (.slice (some ⟨g1, 0, none⟩) 0 0) (by rfl) (by rfl) (gives_value _ fun _ => by rfl) ?_
  refine L_end ?_
  intro w4 hw4
  refine seq_plain hw4 [0] (by rfl) ?_
  refine L_val (.int .u32 0) (by rfl) (by rfl) (gives_value _ fun _ => by rfl) ?_
  refine L_end ?_
  intro w5 hw5
  refine wp_seq ?_
  refine seq_plain hw5 [0] (by rfl) ?_
  refine L_val (.int .i64 0) (by rfl) (by rfl) (gives_value _ fun _ => by rfl) ?_
  refine L_end ?_
  intro w6 hw6
  refine wp_block ?_
  refine loop_down (fun (r_ : Nat) a w => ∃ (k : Nat) (g : Nat) (cap : Nat) (cs : Array Value) (l_1 : List (Nat × Value)), n0 + 1 - k = r_ ∧ inFr 41 l_1 = true ∧ a = fr 41 ((0, .slice A0 n0 c0) :: (1, .slice A1 n1 c1) :: (5, .int .i64 (n0 : Int)) :: (6, .slice (some ⟨g, 0, none⟩) k cap) :: (7, .int .u32 (cy l0 l1 k)) :: (8, .int .i64 (k : Int)) :: l_1) ∧ (k ≤ n0 + 1) ∧ (WB cs cap k (va l0 + va l1)) ∧ Hbl v [(g, 100, cs)] w) ?_ _ _ _ ⟨0, g1, 0, #[], [(8, .int .i64 0), (7, .int .u32 0), (6, .slice (some ⟨g1, 0, none⟩) 0 0), (18, .slice (some ⟨g1, 0, none⟩) 0 0), (15, .bool false), (14, .int .i64 (n0 : Int)), (13, .int .i64 (n1 : Int)), (12, .slice A1 n1 c1), (5, .int .i64 (n0 : Int)), (11, .int .i64 (n0 : Int)), (10, .slice A0 n0 c0), (4, .slice none 0 0), (1, .slice A1 n1 c1), (0, .slice A0 n0 c0)], rfl, (by rfl), (Eq.trans (Eq.trans (Eq.trans (Eq.trans (Eq.trans (fr_dup _ _ 8 _ (by rfl) (by rfl) (by rfl)).symm (fr_dup _ _ 7 _ (by rfl) (by rfl) (by exact (congrArg (Value.int .u32) (cy_zero l0 l1).symm))).symm) (fr_dup _ _ 6 _ (by rfl) (by rfl) (by rfl)).symm) (fr_dup _ _ 5 _ (by rfl) (by rfl) (by rfl)).symm) (fr_dup _ _ 1 _ (by rfl) (by rfl) (by rfl)).symm) (fr_dup _ _ 0 _ (by rfl) (by rfl) (by rfl)).symm), Nat.zero_le _, WB.nil _, hw6⟩
  rintro r_1 a0 w0_1 ⟨k, g, cap, cs, l_1, hr_1, hl_1, rfl, hk, hwb, hw0_1⟩
  by_cases hlt : k ≤ n0
  ·
    have b1 := ho0.at_ k
    have b2 := ho1.at_ k
    have b3 := cy_lo l0 l1 ho0 ho1 k
    refine wp_seq ?_
    refine seq_plain hw0_1 [0, 1, 2] (by rfl) ?_
    refine L_val (.int .i64 (k : Int)) (by rfl) (by exact hl_1) (gives_value _ fun _ => by rfl) ?_
    refine L_val (.int .i64 (n0 : Int)) (by rfl) (by exact hl_1) (gives_value _ fun _ => by rfl) ?_
    refine L_val (.bool true) (by rfl) (by exact hl_1) (gives_leq (k := .i64) ((k : Int)) ((n0 : Int)) true (by rfl) (by rfl) (decide_eq_true (by omega))) ?_
    refine L_end ?_
    intro w7 hw7
    refine wp_cond_true (fr_at _ _ (by exact hl_1) _) ?_
    refine wp_skip ?_
    change Code.wp _ _ _ _ _
    refine wp_seq ?_
    refine wp_block ?_
    refine seq_plain hw7 [0, 1, 2, 3, 4, 5, 6, 7, 8, 9] (by rfl) ?_
    refine L_val (.slice A0 n0 c0) (by rfl) (by exact hl_1) (gives_value _ fun _ => by rfl) ?_
    refine L_val (.int .i64 (k : Int)) (by rfl) (by exact hl_1) (gives_value _ fun _ => by rfl) ?_
    refine L_val (.int .u32 (gt l0 k)) (by rfl) (by exact hl_1) (gives_call (vl := [.slice A0 n0 c0, .int .i64 (k : Int)]) (by kernel_rfl) (by rfl) (fun w h => r3_word' w _ A0 n0 c0 l0 (hr0.below h.below) k)) ?_
    refine L_val (.slice A1 n1 c1) (by rfl) (by exact hl_1) (gives_value _ fun _ => by rfl) ?_
    refine L_val (.int .i64 (k : Int)) (by rfl) (by exact hl_1) (gives_value _ fun _ => by rfl) ?_
    refine L_val (.int .u32 (gt l1 k)) (by rfl) (by exact hl_1) (gives_call (vl := [.slice A1 n1 c1, .int .i64 (k : Int)]) (by kernel_rfl) (by rfl) (fun w h => r3_word' w _ A1 n1 c1 l1 (hr1.below h.below) k)) ?_
    refine L_val (.int .u32 ((gt l0 k) + (gt l1 k))) (by rfl) (by exact hl_1) (gives_add (k := .u32) (gt l0 k) (gt l1 k) ((gt l0 k) + (gt l1 k)) (by rfl) (by rfl) (IntWalk.u32_in _ (by omega))) ?_
    refine L_val (.int .u32 (cy l0 l1 k)) (by rfl) (by exact hl_1) (gives_value _ fun _ => by rfl) ?_
    refine L_val (.int .u32 (((gt l0 k) + (gt l1 k)) + (cy l0 l1 k))) (by rfl) (by exact hl_1) (gives_add (k := .u32) ((gt l0 k) + (gt l1 k)) (cy l0 l1 k) (((gt l0 k) + (gt l1 k)) + (cy l0 l1 k)) (by rfl) (by rfl) (IntWalk.u32_in _ (by omega))) ?_
    refine L_val (.int .u32 (((gt l0 k) + (gt l1 k)) + (cy l0 l1 k))) (by rfl) (by exact hl_1) (gives_value _ fun _ => by rfl) ?_
    refine L_end ?_
    intro w8 hw8
    refine seq_plain hw8 [0, 1, 2, 3, 4, 5] (by rfl) ?_
    refine L_val (.slice (some ⟨g, 0, none⟩) k cap) (by rfl) (by exact hl_1) (gives_value _ fun _ => by rfl) ?_
    refine L_val (.int .u32 (((gt l0 k) + (gt l1 k)) + (cy l0 l1 k))) (by rfl) (by exact hl_1) (gives_value _ fun _ => by rfl) ?_
    refine L_val (.int .u32 ((((gt l0 k) + (gt l1 k)) + (cy l0 l1 k)) % 65536)) (by rfl) (by exact hl_1) (gives_and (k := .u32) (((gt l0 k) + (gt l1 k)) + (cy l0 l1 k)) 65535 ((((gt l0 k) + (gt l1 k)) + (cy l0 l1 k)) % 65536) (by rfl) (by rfl) (and_ffff _ (by omega) (by omega))) ?_
    refine L_build1 (.int .u32 ((((gt l0 k) + (gt l1 k)) + (cy l0 l1 k)) % 65536)) (.int .u32 0) (by rfl) (by exact hl_1) und_u32s u32_zs rfl (by rfl) rfl ?_; intro g2
    refine L_append 1 0 g g2 k cap 1 4 (.int .u32 0) (.int .u32 ((((gt l0 k) + (gt l1 k)) + (cy l0 l1 k)) % 65536)) cs (by rfl) (by exact hl_1) und_u32s u32_all rfl (by rfl) (by rfl) (by rfl) (by rfl) rfl hwb.le hwb.size hwb.cap (by omega) (by omega) [(g2, 100, #[.int .u32 ((((gt l0 k) + (gt l1 k)) + (cy l0 l1 k)) % 65536)])] (by rfl) ?_
    intro g3 cap_1 cs_1 ha1 hb1 hc1 hd1
    refine L_val (.slice (some ⟨g3, 0, none⟩) (k + 1) cap_1) (by rfl) (by exact hl_1) (gives_value _ fun _ => by rfl) ?_
    refine L_end ?_
    intro w9 hw9
    refine one_plain hw9 [0, 1, 2] (by rfl) ?_
    refine L_val (.int .u32 (((gt l0 k) + (gt l1 k)) + (cy l0 l1 k))) (by rfl) (by exact hl_1) (gives_value _ fun _ => by rfl) ?_
    refine L_val (.int .u32 ((((gt l0 k) + (gt l1 k)) + (cy l0 l1 k)) / 65536)) (by rfl) (by exact hl_1) (gives_shr (k := .u32) (k2 := .u64) (((gt l0 k) + (gt l1 k)) + (cy l0 l1 k)) 16 ((((gt l0 k) + (gt l1 k)) + (cy l0 l1 k)) / 65536) (by rfl) (by rfl) (by omega) (shr_16 _ (by omega))) ?_
    refine L_val (.int .u32 ((((gt l0 k) + (gt l1 k)) + (cy l0 l1 k)) / 65536)) (by rfl) (by exact hl_1) (gives_value _ fun _ => by rfl) ?_
    refine L_end ?_
    intro w10 hw10
    change Code.wp _ _ _ _ _
    refine one_plain hw10 [0, 1, 2] (by rfl) ?_
    refine L_val (.int .i64 (k : Int)) (by rfl) (by exact hl_1) (gives_value _ fun _ => by rfl) ?_
    refine L_val (.int .i64 ((k : Int) + 1)) (by rfl) (by exact hl_1) (gives_add (k := .i64) ((k : Int)) (1) ((k : Int) + 1) (by rfl) (by rfl) (IntWalk.i64_in _ (by omega))) ?_
    refine L_val (.int .i64 ((k : Int) + 1)) (by rfl) (by exact hl_1) (gives_value _ fun _ => by rfl) ?_
    refine L_end ?_
    intro w11 hw11
    change ∃ r' : Nat, r' < r_1 ∧ _
    refine ⟨_, ?_, k + 1, g3, cap_1, cs_1, ((8, .int .i64 ((k : Int) + 1)) :: (23, .int .i64 ((k : Int) + 1)) :: (22, .int .i64 (k : Int)) :: (7, .int .u32 ((((gt l0 k) + (gt l1 k)) + (cy l0 l1 k)) / 65536)) :: (39, .int .u32 ((((gt l0 k) + (gt l1 k)) + (cy l0 l1 k)) / 65536)) :: (38, .int .u32 (((gt l0 k) + (gt l1 k)) + (cy l0 l1 k))) :: (6, .slice (some ⟨g3, 0, none⟩) (k + 1) cap_1) :: (37, .slice (some ⟨g3, 0, none⟩) (k + 1) cap_1) :: (36, .slice (some ⟨g2, 0, none⟩) 1 1) :: (35, .int .u32 ((((gt l0 k) + (gt l1 k)) + (cy l0 l1 k)) % 65536)) :: (34, .int .u32 (((gt l0 k) + (gt l1 k)) + (cy l0 l1 k))) :: (33, .slice (some ⟨g, 0, none⟩) k cap) :: (9, .int .u32 (((gt l0 k) + (gt l1 k)) + (cy l0 l1 k))) :: (32, .int .u32 (((gt l0 k) + (gt l1 k)) + (cy l0 l1 k))) :: (31, .int .u32 (cy l0 l1 k)) :: (30, .int .u32 ((gt l0 k) + (gt l1 k))) :: (29, .int .u32 (gt l1 k)) :: (28, .int .i64 (k : Int)) :: (27, .slice A1 n1 c1) :: (26, .int .u32 (gt l0 k)) :: (25, .int .i64 (k : Int)) :: (24, .slice A0 n0 c0) :: (21, .bool true) :: (20, .int .i64 (n0 : Int)) :: (19, .int .i64 (k : Int)) :: (0, .slice A0 n0 c0) :: (1, .slice A1 n1 c1) :: (5, .int .i64 (n0 : Int)) :: (6, .slice (some ⟨g, 0, none⟩) k cap) :: (7, .int .u32 (cy l0 l1 k)) :: (8, .int .i64 (k : Int)) :: l_1), rfl, (by exact hl_1), (Eq.trans (Eq.trans (Eq.trans (Eq.trans (Eq.trans (fr_dup _ _ 8 _ (by exact hl_1) (by rfl) (by rfl)).symm (fr_dup _ _ 7 _ (by exact hl_1) (by rfl) (by exact (congrArg (Value.int .u32) (cy_next l0 l1 k).symm))).symm) (fr_dup _ _ 6 _ (by exact hl_1) (by rfl) (by rfl)).symm) (fr_dup _ _ 5 _ (by exact hl_1) (by rfl) (by rfl)).symm) (fr_dup _ _ 1 _ (by exact hl_1) (by rfl) (by rfl)).symm) (fr_dup _ _ 0 _ (by exact hl_1) (by rfl) (by rfl)).symm), by omega, hwb.snoc ha1 hb1 hc1 hd1 (plus_digit l0 l1 k), hw11.sub (List.Sublist.cons_cons _ (List.Sublist.cons _ (List.Sublist.refl _)))⟩
    omega
  ·
    refine wp_seq ?_
    refine seq_plain hw0_1 [0, 1, 2] (by rfl) ?_
    refine L_val (.int .i64 (k : Int)) (by rfl) (by exact hl_1) (gives_value _ fun _ => by rfl) ?_
    refine L_val (.int .i64 (n0 : Int)) (by rfl) (by exact hl_1) (gives_value _ fun _ => by rfl) ?_
    refine L_val (.bool false) (by rfl) (by exact hl_1) (gives_leq (k := .i64) ((k : Int)) ((n0 : Int)) false (by rfl) (by rfl) (decide_eq_false (by omega))) ?_
    refine L_end ?_
    intro w12 hw12
    refine wp_cond_false (fr_at _ _ (by exact hl_1) _) ?_
    refine wp_exit ?_
    have hkN : k = n0 + 1 := by omega
    change Code.wp _ _ _ _ _
    change Code.wp _ _ _ _ _
    refine seq_plain hw12 [0, 1] (by rfl) ?_
    refine L_val (.slice (some ⟨g, 0, none⟩) k cap) (by rfl) (by exact hl_1) (gives_value _ fun _ => by rfl) ?_
    refine L_val (.slice (some ⟨g, 0, none⟩) k cap) (by rfl) (by exact hl_1) (gives_value _ fun _ => by rfl) ?_
    refine L_end ?_
    intro w13 hw13
    subst hkN
    refine wp_ret ?_
    change bodyPost _ _ _ Exit.ret _ _
    refine (ret_tmp (by rfl) (by exact hl_1) (by rfl) ⟨g, cap, cs, rfl, hwb, hw13.ge 0 (by rfl), hw13.blk 0 (by rfl), hw13.below⟩)
theorem r3_plus (A0 : Option Addr) (n0 c0 : Nat) (l0 : List Int) (A1 : Option Addr) (n1 c1 : Nat) (l1 : List Int) (v : World) (hr0 : Reads v v.heap.size A0 n0 (l0.map (Value.int .u32))) (ho0 : W16 l0) (hb0 : n0 ≤ 1099511627776) (hr1 : Reads v v.heap.size A1 n1 (l1.map (Value.int .u32))) (ho1 : W16 l1) (hb1 : n1 ≤ 1099511627776) : RetsW 143 #[.slice A0 n0 c0, .slice A1 n1 c1] v (max n0 n1 + 1) (va l0 + va l1) := by
  by_cases hc : n0 < n1
  · rw [Nat.max_eq_right (by omega)]
    exact r3_plus_gt A0 n0 c0 l0 A1 n1 c1 l1 v hr0 ho0 hb0 hr1 ho1 hb1 hc
  · rw [Nat.max_eq_left (by omega)]
    exact r3_plus_le A0 n0 c0 l0 A1 n1 c1 l1 v hr0 ho0 hb0 hr1 ho1 hb1 hc
set_option maxRecDepth 100000 in
set_option maxHeartbeats 4000000 in
theorem r3_minus (A0 : Option Addr) (n0 c0 : Nat) (l0 : List Int) (A1 : Option Addr) (n1 c1 : Nat) (l1 : List Int) (v : World) (hr0 : Reads v v.heap.size A0 n0 (l0.map (Value.int .u32))) (ho0 : W16 l0) (hb0 : n0 ≤ 1099511627776) (hr1 : Reads v v.heap.size A1 n1 (l1.map (Value.int .u32))) (ho1 : W16 l1) (hb1 : n1 ≤ 1099511627776) : RetsW 58 #[.slice A0 n0 c0, .slice A1 n1 c1] v n0 (va l0 - va l1) := by
  refine calls_fr2 Tryd.func58 rfl (by rfl : _ = 36) (by rfl) ?_
  have hw := Hbl.nil v
  refine seq_plain hw [0] (by rfl) ?_
  refine L_val (.slice none 0 0) (by rfl) (by rfl) (gives_value _ fun _ => by rfl) ?_
  refine L_end ?_
  intro w1 hw1
  refine seq_plain hw1 [0, 1] (by rfl) ?_
  refine L_build0 1 (by rfl) (by rfl) und_u32s u32_sz ?_; intro g1
  refine L_val (.slice (some ⟨g1, 0, none⟩) 0 0) (by rfl) (by rfl) (gives_value _ fun _ => by rfl) ?_
  refine L_end ?_
  intro w2 hw2
  refine seq_plain hw2 [0] (by rfl) ?_
  refine L_val (.int .u32 0) (by rfl) (by rfl) (gives_value _ fun _ => by rfl) ?_
  refine L_end ?_
  intro w3 hw3
  refine wp_seq ?_
  refine seq_plain hw3 [0, 1, 2] (by rfl) ?_
  refine L_val (.slice A0 n0 c0) (by rfl) (by rfl) (gives_value _ fun _ => by rfl) ?_
  refine L_val (.int .i64 (n0 : Int)) (by rfl) (by rfl) (gives_len _ n0 c0 und_u32s (by rfl)) ?_
  refine L_val (.int .i64 0) (by rfl) (by rfl) (gives_value _ fun _ => by rfl) ?_
  refine L_end ?_
  intro w4 hw4
  refine wp_block ?_
  refine loop_down (fun (r_ : Nat) a w => ∃ (k : Nat) (g : Nat) (cap : Nat) (cs : Array Value) (l_1 : List (Nat × Value)), n0 - k = r_ ∧ inFr 36 l_1 = true ∧ a = fr 36 ((0, .slice A0 n0 c0) :: (1, .slice A1 n1 c1) :: (5, .slice (some ⟨g, 0, none⟩) k cap) :: (6, .int .u32 (bw l0 l1 k)) :: (11, .int .i64 (n0 : Int)) :: (12, .int .i64 (k : Int)) :: l_1) ∧ (k ≤ n0) ∧ (WB cs cap k (va l0 - va l1)) ∧ Hbl v [(g, 100, cs)] w) ?_ _ _ _ ⟨0, g1, 0, #[], [(12, .int .i64 0), (11, .int .i64 (n0 : Int)), (10, .slice A0 n0 c0), (6, .int .u32 0), (5, .slice (some ⟨g1, 0, none⟩) 0 0), (9, .slice (some ⟨g1, 0, none⟩) 0 0), (4, .slice none 0 0), (1, .slice A1 n1 c1), (0, .slice A0 n0 c0)], rfl, (by rfl), (Eq.trans (Eq.trans (Eq.trans (Eq.trans (Eq.trans (fr_dup _ _ 12 _ (by rfl) (by rfl) (by rfl)).symm (fr_dup _ _ 11 _ (by rfl) (by rfl) (by rfl)).symm) (fr_dup _ _ 6 _ (by rfl) (by rfl) (by exact (congrArg (Value.int .u32) (bw_zero l0 l1).symm))).symm) (fr_dup _ _ 5 _ (by rfl) (by rfl) (by rfl)).symm) (fr_dup _ _ 1 _ (by rfl) (by rfl) (by rfl)).symm) (fr_dup _ _ 0 _ (by rfl) (by rfl) (by rfl)).symm), Nat.zero_le _, WB.nil _, hw4⟩
  rintro r_1 a0 w0_1 ⟨k, g, cap, cs, l_1, hr_1, hl_1, rfl, hk, hwb, hw0_1⟩
  by_cases hlt : k < n0
  ·
    have b1 := ho0.at_ k
    have b2 := ho1.at_ k
    have b3 := bw_lo l0 l1 ho0 ho1 k
    obtain ⟨b0, o0, hA0, hq0, hce0⟩ := reads_cell hr0 hlt
    refine seq_plain hw0_1 [0] (by rfl) ?_
    refine L_val (.bool true) (by rfl) (by exact hl_1) (gives_lss (k := .i64) ((k : Int)) ((n0 : Int)) true (by rfl) (by rfl) (decide_eq_true (by omega))) ?_
    refine L_end ?_
    intro w5 hw5
    refine wp_seq ?_
    refine wp_cond_true (fr_at _ _ (by exact hl_1) _) ?_
    refine wp_skip ?_
    change Code.wp _ _ _ _ _
    refine wp_seq ?_
    refine wp_block ?_
    refine seq_plain hw5 [0, 1] (by rfl) ?_
    refine L_val (.int .i64 (k : Int)) (by rfl) (by exact hl_1) (gives_value _ fun _ => by rfl) ?_
    refine L_val (.int .i64 (k : Int)) (by rfl) (by exact hl_1) (gives_value _ fun _ => by rfl) ?_
    refine L_end ?_
    intro w6 hw6
    refine seq_flow (by kernel_rfl) hw6 [] [(g, 100, cs)] 12 (by rfl) ?_
    refine flow_take (i := 0) (.slice A0 n0 c0) (by rfl) (by kernel_rfl) (by kernel_rfl) (by kernel_rfl) (by exact hl_1) (by kernel_rfl) (List.Sublist.refl _) (gives_value _ fun _ => by rfl) ?_
    refine flow_take (i := 1) (.int .i64 (k : Int)) (by rfl) (by kernel_rfl) (by kernel_rfl) (by kernel_rfl) (by exact hl_1) (by kernel_rfl) (List.Sublist.refl _) (gives_value _ fun _ => by rfl) ?_
    refine flow_take (i := 2) (.pointer (some ⟨b0, o0 + (k), none⟩)) (by rfl) (by kernel_rfl) (by kernel_rfl) (by kernel_rfl) (by exact hl_1) (by kernel_rfl) (List.Sublist.refl _) (gives_index_old A0 n0 c0 ((k : Int)) (k) _ _ hA0 (by rfl) (by rfl) und_u32s u32_sz rfl (by omega)) ?_
    refine flow_take (i := 3) (.int .u32 (gt l0 k)) (by rfl) (by kernel_rfl) (by kernel_rfl) (by kernel_rfl) (by exact hl_1) (by kernel_rfl) (List.Sublist.refl _) (gives_load_old _ (.int .u32 (gt l0 k)) (by rfl) (fun _ h => (h.below.cell (p := ⟨b0, _, none⟩) hq0).trans hce0) und_u32) ?_
    refine flow_take (i := 4) (.int .u32 ((gt l0 k) + 65536)) (by rfl) (by kernel_rfl) (by kernel_rfl) (by kernel_rfl) (by exact hl_1) (by kernel_rfl) (List.Sublist.refl _) (gives_add (k := .u32) (gt l0 k) (65536) ((gt l0 k) + 65536) (by rfl) (by rfl) (IntWalk.u32_in _ (by omega))) ?_
    refine flow_take (i := 5) (.slice A1 n1 c1) (by rfl) (by kernel_rfl) (by kernel_rfl) (by kernel_rfl) (by exact hl_1) (by kernel_rfl) (List.Sublist.refl _) (gives_value _ fun _ => by rfl) ?_
    refine flow_take (i := 6) (.int .i64 (k : Int)) (by rfl) (by kernel_rfl) (by kernel_rfl) (by kernel_rfl) (by exact hl_1) (by kernel_rfl) (List.Sublist.refl _) (gives_value _ fun _ => by rfl) ?_
    refine flow_take (i := 7) (.int .u32 (gt l1 k)) (by rfl) (by kernel_rfl) (by kernel_rfl) (by kernel_rfl) (by exact hl_1) (by kernel_rfl) (List.Sublist.refl _) (gives_call (vl := [.slice A1 n1 c1, .int .i64 (k : Int)]) (by kernel_rfl) (by rfl) (fun w h => r3_word' w _ A1 n1 c1 l1 (hr1.below h.below) k)) ?_
    refine flow_take (i := 8) (.int .u32 (((gt l0 k) + 65536) - (gt l1 k))) (by rfl) (by kernel_rfl) (by kernel_rfl) (by kernel_rfl) (by exact hl_1) (by kernel_rfl) (List.Sublist.refl _) (gives_sub (k := .u32) ((gt l0 k) + 65536) (gt l1 k) (((gt l0 k) + 65536) - (gt l1 k)) (by rfl) (by rfl) (IntWalk.u32_in _ (by omega))) ?_
    refine flow_take (i := 9) (.int .u32 (bw l0 l1 k)) (by rfl) (by kernel_rfl) (by kernel_rfl) (by kernel_rfl) (by exact hl_1) (by kernel_rfl) (List.Sublist.refl _) (gives_value _ fun _ => by rfl) ?_
    refine flow_take (i := 10) (.int .u32 ((((gt l0 k) + 65536) - (gt l1 k)) - (bw l0 l1 k))) (by rfl) (by kernel_rfl) (by kernel_rfl) (by kernel_rfl) (by exact hl_1) (by kernel_rfl) (List.Sublist.refl _) (gives_sub (k := .u32) (((gt l0 k) + 65536) - (gt l1 k)) (bw l0 l1 k) ((((gt l0 k) + 65536) - (gt l1 k)) - (bw l0 l1 k)) (by rfl) (by rfl) (IntWalk.u32_in _ (by omega))) ?_
    refine flow_take (i := 11) (.int .u32 ((((gt l0 k) + 65536) - (gt l1 k)) - (bw l0 l1 k))) (by rfl) (by kernel_rfl) (by kernel_rfl) (by kernel_rfl) (by exact hl_1) (by kernel_rfl) (List.Sublist.refl _) (gives_value _ fun _ => by rfl) ?_
    refine flow_done (by kernel_rfl) ?_
    intro w7 hw7
    refine seq_plain hw7 [0, 1, 2, 3, 4, 5] (by rfl) ?_
    refine L_val (.slice (some ⟨g, 0, none⟩) k cap) (by rfl) (by exact hl_1) (gives_value _ fun _ => by rfl) ?_
    refine L_val (.int .u32 ((((gt l0 k) + 65536) - (gt l1 k)) - (bw l0 l1 k))) (by rfl) (by exact hl_1) (gives_value _ fun _ => by rfl) ?_
    refine L_val (.int .u32 (((((gt l0 k) + 65536) - (gt l1 k)) - (bw l0 l1 k)) % 65536)) (by rfl) (by exact hl_1) (gives_and (k := .u32) ((((gt l0 k) + 65536) - (gt l1 k)) - (bw l0 l1 k)) 65535 (((((gt l0 k) + 65536) - (gt l1 k)) - (bw l0 l1 k)) % 65536) (by rfl) (by rfl) (and_ffff _ (by omega) (by omega))) ?_
    refine L_build1 (.int .u32 (((((gt l0 k) + 65536) - (gt l1 k)) - (bw l0 l1 k)) % 65536)) (.int .u32 0) (by rfl) (by exact hl_1) und_u32s u32_zs rfl (by rfl) rfl ?_; intro g2
    refine L_append 1 0 g g2 k cap 1 4 (.int .u32 0) (.int .u32 (((((gt l0 k) + 65536) - (gt l1 k)) - (bw l0 l1 k)) % 65536)) cs (by rfl) (by exact hl_1) und_u32s u32_all rfl (by rfl) (by rfl) (by rfl) (by rfl) rfl hwb.le hwb.size hwb.cap (by omega) (by omega) [(g2, 100, #[.int .u32 (((((gt l0 k) + 65536) - (gt l1 k)) - (bw l0 l1 k)) % 65536)])] (by rfl) ?_
    intro g3 cap_1 cs_1 ha1 hb1 hc1 hd1
    refine L_val (.slice (some ⟨g3, 0, none⟩) (k + 1) cap_1) (by rfl) (by exact hl_1) (gives_value _ fun _ => by rfl) ?_
    refine L_end ?_
    intro w8 hw8
    refine one_plain hw8 [0, 1, 2, 3] (by rfl) ?_
    refine L_val (.int .u32 ((((gt l0 k) + 65536) - (gt l1 k)) - (bw l0 l1 k))) (by rfl) (by exact hl_1) (gives_value _ fun _ => by rfl) ?_
    refine L_val (.int .u32 (((((gt l0 k) + 65536) - (gt l1 k)) - (bw l0 l1 k)) / 65536)) (by rfl) (by exact hl_1) (gives_shr (k := .u32) (k2 := .u64) ((((gt l0 k) + 65536) - (gt l1 k)) - (bw l0 l1 k)) 16 (((((gt l0 k) + 65536) - (gt l1 k)) - (bw l0 l1 k)) / 65536) (by rfl) (by rfl) (by omega) (shr_16 _ (by omega))) ?_
    refine L_val (.int .u32 (1 - (((((gt l0 k) + 65536) - (gt l1 k)) - (bw l0 l1 k)) / 65536))) (by rfl) (by exact hl_1) (gives_sub (k := .u32) (1) (((((gt l0 k) + 65536) - (gt l1 k)) - (bw l0 l1 k)) / 65536) (1 - (((((gt l0 k) + 65536) - (gt l1 k)) - (bw l0 l1 k)) / 65536)) (by rfl) (by rfl) (IntWalk.u32_in _ (by omega))) ?_
    refine L_val (.int .u32 (1 - (((((gt l0 k) + 65536) - (gt l1 k)) - (bw l0 l1 k)) / 65536))) (by rfl) (by exact hl_1) (gives_value _ fun _ => by rfl) ?_
    refine L_end ?_
    intro w9 hw9
    change Code.wp _ _ _ _ _
    refine one_plain hw9 [0, 1] (by rfl) ?_
    refine L_val (.int .i64 ((k : Int) + 1)) (by rfl) (by exact hl_1) (gives_add (k := .i64) ((k : Int)) (1) ((k : Int) + 1) (by rfl) (by rfl) (IntWalk.i64_in _ (by omega))) ?_
    refine L_val (.int .i64 ((k : Int) + 1)) (by rfl) (by exact hl_1) (gives_value _ fun _ => by rfl) ?_
    refine L_end ?_
    intro w10 hw10
    change ∃ r' : Nat, r' < r_1 ∧ _
    refine ⟨_, ?_, k + 1, g3, cap_1, cs_1, ((12, .int .i64 ((k : Int) + 1)) :: (34, .int .i64 ((k : Int) + 1)) :: (6, .int .u32 (1 - (((((gt l0 k) + 65536) - (gt l1 k)) - (bw l0 l1 k)) / 65536))) :: (33, .int .u32 (1 - (((((gt l0 k) + 65536) - (gt l1 k)) - (bw l0 l1 k)) / 65536))) :: (32, .int .u32 (((((gt l0 k) + 65536) - (gt l1 k)) - (bw l0 l1 k)) / 65536)) :: (31, .int .u32 ((((gt l0 k) + 65536) - (gt l1 k)) - (bw l0 l1 k))) :: (5, .slice (some ⟨g3, 0, none⟩) (k + 1) cap_1) :: (30, .slice (some ⟨g3, 0, none⟩) (k + 1) cap_1) :: (29, .slice (some ⟨g2, 0, none⟩) 1 1) :: (28, .int .u32 (((((gt l0 k) + 65536) - (gt l1 k)) - (bw l0 l1 k)) % 65536)) :: (27, .int .u32 ((((gt l0 k) + 65536) - (gt l1 k)) - (bw l0 l1 k))) :: (26, .slice (some ⟨g, 0, none⟩) k cap) :: (8, .int .u32 ((((gt l0 k) + 65536) - (gt l1 k)) - (bw l0 l1 k))) :: (25, .int .u32 ((((gt l0 k) + 65536) - (gt l1 k)) - (bw l0 l1 k))) :: (24, .int .u32 (bw l0 l1 k)) :: (23, .int .u32 (((gt l0 k) + 65536) - (gt l1 k))) :: (22, .int .u32 (gt l1 k)) :: (21, .int .i64 (k : Int)) :: (20, .slice A1 n1 c1) :: (19, .int .u32 ((gt l0 k) + 65536)) :: (18, .int .u32 (gt l0 k)) :: (17, .pointer (some ⟨b0, o0 + (k), none⟩)) :: (16, .int .i64 (k : Int)) :: (15, .slice A0 n0 c0) :: (7, .int .i64 (k : Int)) :: (14, .int .i64 (k : Int)) :: (13, .bool true) :: (0, .slice A0 n0 c0) :: (1, .slice A1 n1 c1) :: (5, .slice (some ⟨g, 0, none⟩) k cap) :: (6, .int .u32 (bw l0 l1 k)) :: (11, .int .i64 (n0 : Int)) :: (12, .int .i64 (k : Int)) :: l_1), rfl, (by exact hl_1), (Eq.trans (Eq.trans (Eq.trans (Eq.trans (Eq.trans (fr_dup _ _ 12 _ (by exact hl_1) (by rfl) (by rfl)).symm (fr_dup _ _ 11 _ (by exact hl_1) (by rfl) (by rfl)).symm) (fr_dup _ _ 6 _ (by exact hl_1) (by rfl) (by exact (congrArg (Value.int .u32) (bw_flip l0 l1 k)))).symm) (fr_dup _ _ 5 _ (by exact hl_1) (by rfl) (by rfl)).symm) (fr_dup _ _ 1 _ (by exact hl_1) (by rfl) (by rfl)).symm) (fr_dup _ _ 0 _ (by exact hl_1) (by rfl) (by rfl)).symm), by omega, hwb.snoc ha1 hb1 hc1 hd1 (minus_digit l0 l1 k), hw10.sub (List.Sublist.cons_cons _ (List.Sublist.cons _ (List.Sublist.refl _)))⟩
    omega
  ·
    refine seq_plain hw0_1 [0] (by rfl) ?_
    refine L_val (.bool false) (by rfl) (by exact hl_1) (gives_lss (k := .i64) ((k : Int)) ((n0 : Int)) false (by rfl) (by rfl) (decide_eq_false (by omega))) ?_
    refine L_end ?_
    intro w11 hw11
    refine wp_seq ?_
    refine wp_cond_false (fr_at _ _ (by exact hl_1) _) ?_
    refine wp_exit ?_
    have hkN : k = n0 := by omega
    change Code.wp _ _ _ _ _
    change Code.wp _ _ _ _ _
    refine seq_plain hw11 [0, 1] (by rfl) ?_
    refine L_val (.slice (some ⟨g, 0, none⟩) k cap) (by rfl) (by exact hl_1) (gives_value _ fun _ => by rfl) ?_
    refine L_val (.slice (some ⟨g, 0, none⟩) k cap) (by rfl) (by exact hl_1) (gives_value _ fun _ => by rfl) ?_
    refine L_end ?_
    intro w12 hw12
    subst hkN
    refine wp_ret ?_
    change bodyPost _ _ _ Exit.ret _ _
    refine (ret_tmp (by rfl) (by exact hl_1) (by rfl) ⟨g, cap, cs, rfl, hwb, hw12.ge 0 (by rfl), hw12.blk 0 (by rfl), hw12.below⟩)
end Go.Proofs.YtialfoccalobpaaDoor

/-! ## R3M -/
namespace Go.Proofs.YtialfoccalobpaaDoor
set_option linter.unusedSimpArgs false
set_option linter.unusedVariables false
open Go.RowKit
/-- Words as cells. -/
def ag32 (l : List Int) : Array Value := (l.map (Value.int .u32)).toArray
theorem ag32_size (l : List Int) : (ag32 l).size = l.length := by simp [ag32]
theorem ag32_set (l : List Int) (i : Nat) (v : Int) : (ag32 l).setIfInBounds i (.int .u32 v) = ag32 (l.set i v) := by
  simp [ag32, List.map_set]
theorem ag32_at (l : List Int) (i : Nat) (h : i < l.length) : (ag32 l)[0 + i]? = some (Value.int .u32 (gt l i)) := by
  simp [ag32, gt, h]
theorem ag32_zero (m : Nat) : Array.replicate m (Value.int .u32 0) = ag32 (wl 0 m) := by
  rw [wl_zero]; simp [ag32]
theorem WB.of (val : Int) (m : Nat) (h : m ≤ 9223372036854775807) : WB (ag32 (wl val m)) m m val :=
  ⟨by rw [ag32_size, wl_len], Nat.le_refl _, h, by simp only [ag32]; rw [List.take_of_length_le (by simp [wl_len])]⟩
theorem gt_wl (v : Int) (m j : Nat) (hj : j < m) : gt (wl v m) j = v / 65536 ^ j % 65536 := by
  induction m generalizing v j with
  | zero => omega
  | succ m ih =>
    cases j with
    | zero => simp [wl, gt]
    | succ j =>
      have e : v / 65536 ^ (j + 1) = v / 65536 / 65536 ^ j := by rw [Int.pow_succ, Int.mul_comm, edd _ _ _ (by omega)]
      rw [e, ← ih (v / 65536) j (by omega)]
      simp [wl, gt]
theorem num_more (bs : List Int) (n k : Nat) (hl : bs.length = n) (hk : k < n) : num (bs.drop (n - (k + 1))) = num (bs.drop (n - k)) + 65536 ^ (k / 2) * (gt bs (n - 1 - k) * 256 ^ (k % 2)) := by
  have e : bs.drop (n - (k + 1)) = gt bs (n - 1 - k) :: bs.drop (n - k) := by
    rw [List.drop_eq_getElem_cons (by omega), show n - (k + 1) + 1 = n - k by omega, gt_eq (by omega)]
    simp [show n - (k + 1) = n - 1 - k by omega]
  have h2 : (256 : Int) ^ k = 65536 ^ (k / 2) * 256 ^ (k % 2) := by
    rw [show (65536 : Int) = 256 ^ 2 from rfl, ← Int.pow_mul, ← Int.pow_add, Nat.div_add_mod]
  rw [e, num_cons, show (bs.drop (n - k)).length = k by simp; omega, h2]
  grind
theorem num_high (bs : List Int) (n k : Nat) (ho : Oct bs) (hl : bs.length = n) (hk : k ≤ n) : 0 ≤ num (bs.drop (n - k)) / 65536 ^ (k / 2) ∧ num (bs.drop (n - k)) / 65536 ^ (k / 2) < 256 ^ (k % 2) := by
  have h1 := num_lt _ (ho.drop (n - k))
  have h2 : (256 : Int) ^ k = 256 ^ (k % 2) * 65536 ^ (k / 2) := by
    rw [show (65536 : Int) = 256 ^ 2 from rfl, ← Int.pow_mul, ← Int.pow_add, Nat.mod_add_div]
  rw [show (bs.drop (n - k)).length = k by simp; omega, h2] at h1
  have hp : (0 : Int) < 65536 ^ (k / 2) := Int.pow_pos (by omega)
  exact ⟨Int.ediv_nonneg h1.1 (by omega), Int.ediv_lt_of_lt_mul hp h1.2⟩
theorem pow_par (k : Nat) : (256 : Int) ^ (k % 2) = 1 ∨ (256 : Int) ^ (k % 2) = 256 := by
  rcases Nat.mod_two_eq_zero_or_one k with h | h <;> rw [h] <;> simp
theorem or_nat (a b s : Nat) (h : a < 2 ^ s) : a ||| (b * 2 ^ s) = a + b * 2 ^ s := by
  rw [Nat.or_comm, ← Nat.shiftLeft_eq, ← Nat.shiftLeft_add_eq_or_of_lt h, Nat.add_comm]
theorem or_low (a b : Int) (s : Nat) (ha0 : 0 ≤ a) (ha : a < 2 ^ s) (hb0 : 0 ≤ b) (hb : b * 2 ^ s < 4294967296) (ha2 : a < 4294967296) (hs : a + b * 2 ^ s < 4294967296) :
    IntKind.u32.wrap (((a % 2 ^ IntKind.u32.bits).toNat ||| ((b * 2 ^ s) % 2 ^ IntKind.u32.bits).toNat : Nat) : Int) = a + b * 2 ^ s := by
  have e1 : (2 : Int) ^ IntKind.u32.bits = 4294967296 := by decide
  have hp : (0 : Int) < 2 ^ s := Int.pow_pos (by omega)
  have hbs : 0 ≤ b * 2 ^ s := Int.mul_nonneg hb0 (Int.le_of_lt hp)
  rw [e1, Int.emod_eq_of_lt ha0 ha2, Int.emod_eq_of_lt hbs hb]
  obtain ⟨x, rfl⟩ := Int.eq_ofNat_of_zero_le ha0
  obtain ⟨y, rfl⟩ := Int.eq_ofNat_of_zero_le hb0
  have e2 : ((y : Int) * 2 ^ s) = ((y * 2 ^ s : Nat) : Int) := by simp
  have e3 : (x : Int) < ((2 ^ s : Nat) : Int) := by simpa using ha
  rw [e2] at hs hb hbs ⊢
  rw [Int.toNat_natCast, Int.toNat_natCast, or_nat x y s (by omega)]
  exact w32 _ (by omega) (by omega)
theorem or_byte (a b : Int) (k : Nat) (ha0 : 0 ≤ a) (ha : a < 256 ^ (k % 2)) (hb0 : 0 ≤ b) (hb : b < 256) :
    IntKind.u32.wrap (((a % 2 ^ IntKind.u32.bits).toNat ||| ((b * 256 ^ (k % 2)) % 2 ^ IntKind.u32.bits).toNat : Nat) : Int) = a + b * 256 ^ (k % 2) := by
  rcases Nat.mod_two_eq_zero_or_one k with h | h
  · rw [h] at ha ⊢
    have := or_low a b 0 ha0 (by simpa using ha) hb0 (by simp; omega) (by simp at ha; omega) (by simp at ha ⊢; omega)
    simpa using this
  · rw [h] at ha ⊢
    have := or_low a b 8 ha0 (by simpa using ha) hb0 (by simp; omega) (by simp at ha; omega) (by simp at ha ⊢; omega)
    simpa using this
theorem shl_byte (a : Int) (k : Nat) (h0 : 0 ≤ a) (h : a < 256) : IntKind.u32.wrap (a * 2 ^ (min (8 * ((k : Int) % 2)).toNat IntKind.u32.bits)) = a * 256 ^ (k % 2) := by
  rcases Nat.mod_two_eq_zero_or_one k with e | e
  · have e1 : (8 * ((k : Int) % 2)).toNat = 0 := by omega
    rw [e1, e]
    simp only [Nat.zero_min, Int.pow_zero, Int.mul_one]
    exact w32 _ h0 (by omega)
  · have e1 : (8 * ((k : Int) % 2)).toNat = 8 := by omega
    rw [e1, e]
    have e2 : min 8 IntKind.u32.bits = 8 := by decide
    rw [e2]
    have e3 : a * 2 ^ 8 = a * 256 ^ 1 := by simp
    rw [e3]
    simp only [Int.pow_one]
    exact w32 _ (by omega) (by omega)
theorem num_gt (bs : List Int) (n k m : Nat) (ho : Oct bs) (hl : bs.length = n) (hk : k < n) (hm : m = (n + 1) / 2) : 0 ≤ gt (wl (num (bs.drop (n - k))) m) (k / 2) ∧ gt (wl (num (bs.drop (n - k))) m) (k / 2) < 256 ^ (k % 2) := by
  have hh := num_high bs n k ho hl (by omega)
  have hp := pow_par k
  rw [gt_wl _ _ _ (by omega), Int.emod_eq_of_lt hh.1 (by rcases hp with e | e <;> rw [e] at hh <;> omega)]
  exact hh
theorem num_set (bs : List Int) (n k m : Nat) (ho : Oct bs) (hl : bs.length = n) (hk : k < n) (hm : m = (n + 1) / 2) :
    (ag32 (wl (num (bs.drop (n - k))) m)).setIfInBounds (0 + k / 2) (.int .u32 (gt (wl (num (bs.drop (n - k))) m) (k / 2) + gt bs (n - 1 - k) * 256 ^ (k % 2))) = ag32 (wl (num (bs.drop (n - (k + 1)))) m) := by
  have hh := num_high bs n k ho hl (by omega)
  have hb := ho.at_ (n - 1 - k)
  have hp := pow_par k
  have h0 := (num_lt _ (ho.drop (n - k))).1
  have hx : 0 ≤ gt bs (n - 1 - k) * 256 ^ (k % 2) := by rcases hp with e | e <;> rw [e] <;> omega
  have hlt : num (bs.drop (n - k)) / 65536 ^ (k / 2) + gt bs (n - 1 - k) * 256 ^ (k % 2) < 65536 := by rcases hp with e | e <;> rw [e] at hh ⊢ <;> omega
  rw [gt_wl _ _ _ (by omega), Int.emod_eq_of_lt hh.1 (by rcases hp with e | e <;> rw [e] at hh <;> omega), ag32_set, Nat.zero_add, num_more bs n k hl hk]
  rw [wl_set _ _ m (k / 2) (by omega) h0 hx hlt]
attribute [local irreducible] wpL wpF fr Code.wp bodyPost
set_option maxRecDepth 100000 in
set_option maxHeartbeats 4000000 in
theorem r3_number (A0 : Option Addr) (n0 c0 : Nat) (bs0 : List Int) (v : World) (hr0 : Reads v v.heap.size A0 n0 (bs0.map (Value.int .u8))) (ho0 : Oct bs0) (hb0 : n0 ≤ 1099511627776) : RetsW 17 #[.slice A0 n0 c0] v ((n0 + 1) / 2) (num bs0) := by
  have hn0 : bs0.length = n0 := by simpa using hr0.1
  refine calls_fr1 Tryd.func17 rfl (by rfl : _ = 40) (by rfl) ?_
  have hw := Hbl.nil v
  refine seq_plain hw [0] (by rfl) ?_
  refine L_val (.slice none 0 0) (by rfl) (by rfl) (gives_value _ fun _ => by rfl) ?_
  refine L_end ?_
  intro w1 hw1
  refine seq_plain hw1 [0, 1, 2, 3, 4, 5] (by rfl) ?_
  refine L_val (.slice A0 n0 c0) (by rfl) (by rfl) (gives_value _ fun _ => by rfl) ?_
  refine L_val (.int .i64 (n0 : Int)) (by rfl) (by rfl) (gives_len _ n0 c0 und_u8s (by rfl)) ?_
  refine L_val (.int .i64 ((n0 : Int) + 1)) (by rfl) (by rfl) (gives_add (k := .i64) ((n0 : Int)) (1) ((n0 : Int) + 1) (by rfl) (by rfl) (IntWalk.i64_in _ (by omega))) ?_
  refine L_val (.int .i64 (((n0 : Int) + 1) / 2)) (by rfl) (by rfl) (gives_quo (k := .i64) ((n0 : Int) + 1) (2) (((n0 : Int) + 1) / 2) (by rfl) (by rfl) (by omega) (IntWalk.i64_quo _ _ (by omega))) ?_
  refine L_make ((n0 + 1) / 2) (.int .u32 0) 4 (by rfl) (by rfl) und_u32s u32_all rfl (by exact congrArg (Value.int .i64) (by omega : (((n0 : Int) + 1) / 2) = (((n0 + 1) / 2 : Nat) : Int))) (by exact congrArg (Value.int .i64) (by omega : (((n0 : Int) + 1) / 2) = (((n0 + 1) / 2 : Nat) : Int))) (by omega) (by omega) ?_; intro g1
  refine L_val (.slice (some ⟨g1, 0, none⟩) ((n0 + 1) / 2) ((n0 + 1) / 2)) (by rfl) (by rfl) (gives_value _ fun _ => by rfl) ?_
  refine L_end ?_
  intro w2 hw2
  refine wp_seq ?_
  refine seq_plain hw2 [0] (by rfl) ?_
  refine L_val (.int .i64 0) (by rfl) (by rfl) (gives_value _ fun _ => by rfl) ?_
  refine L_end ?_
  intro w3 hw3
  refine wp_block ?_
  refine loop_down (fun (r_ : Nat) a w => ∃ (k : Nat) (g : Nat) (l_1 : List (Nat × Value)), n0 - k = r_ ∧ inFr 40 l_1 = true ∧ a = fr 40 ((0, .slice A0 n0 c0) :: (3, .slice (some ⟨g, 0, none⟩) ((n0 + 1) / 2) ((n0 + 1) / 2)) :: (4, .int .i64 (k : Int)) :: l_1) ∧ (k ≤ n0) ∧ Hbl v [(g, 100, (ag32 (wl (num (bs0.drop (n0 - k))) ((n0 + 1) / 2))))] w) ?_ _ _ _ ⟨0, g1, [(4, .int .i64 0), (3, .slice (some ⟨g1, 0, none⟩) ((n0 + 1) / 2) ((n0 + 1) / 2)), (10, .slice (some ⟨g1, 0, none⟩) ((n0 + 1) / 2) ((n0 + 1) / 2)), (9, .int .i64 (((n0 : Int) + 1) / 2)), (8, .int .i64 ((n0 : Int) + 1)), (7, .int .i64 (n0 : Int)), (6, .slice A0 n0 c0), (2, .slice none 0 0), (0, .slice A0 n0 c0)], rfl, (by rfl), (Eq.trans (Eq.trans (fr_dup _ _ 4 _ (by rfl) (by rfl) (by rfl)).symm (fr_dup _ _ 3 _ (by rfl) (by rfl) (by rfl)).symm) (fr_dup _ _ 0 _ (by rfl) (by rfl) (by rfl)).symm), Nat.zero_le _, (by rw [show bs0.drop (n0 - 0) = [] by simp [hn0]]; exact (ag32_zero _) ▸ hw3)⟩
  rintro r_1 a0 w0_1 ⟨k, g, l_1, hr_1, hl_1, rfl, hk, hw0_1⟩
  by_cases hlt : k < n0
  ·
    have b1 := ho0.at_ (n0 - 1 - k)
    have b2 := num_gt bs0 n0 k ((n0 + 1) / 2) ho0 hn0 hlt rfl
    obtain ⟨b0, o0, hA0, hq0, hce0⟩ := reads_cell hr0 (show n0 - 1 - k < n0 by omega)
    refine wp_seq ?_
    refine seq_plain hw0_1 [0, 1, 2, 3] (by rfl) ?_
    refine L_val (.int .i64 (k : Int)) (by rfl) (by exact hl_1) (gives_value _ fun _ => by rfl) ?_
    refine L_val (.slice A0 n0 c0) (by rfl) (by exact hl_1) (gives_value _ fun _ => by rfl) ?_
    refine L_val (.int .i64 (n0 : Int)) (by rfl) (by exact hl_1) (gives_len _ n0 c0 und_u8s (by rfl)) ?_
    refine L_val (.bool true) (by rfl) (by exact hl_1) (gives_lss (k := .i64) ((k : Int)) ((n0 : Int)) true (by rfl) (by rfl) (decide_eq_true (by omega))) ?_
    refine L_end ?_
    intro w4 hw4
    refine wp_cond_true (fr_at _ _ (by exact hl_1) _) ?_
    refine wp_skip ?_
    change Code.wp _ _ _ _ _
    refine wp_seq ?_
    refine wp_block ?_
    refine seq_plain hw4 [0, 1, 2, 3, 4, 5] (by rfl) ?_
    refine L_val (.slice A0 n0 c0) (by rfl) (by exact hl_1) (gives_value _ fun _ => by rfl) ?_
    refine L_val (.int .i64 (n0 : Int)) (by rfl) (by exact hl_1) (gives_len _ n0 c0 und_u8s (by rfl)) ?_
    refine L_val (.int .i64 ((n0 : Int) - 1)) (by rfl) (by exact hl_1) (gives_sub (k := .i64) ((n0 : Int)) (1) ((n0 : Int) - 1) (by rfl) (by rfl) (IntWalk.i64_in _ (by omega))) ?_
    refine L_val (.int .i64 (k : Int)) (by rfl) (by exact hl_1) (gives_value _ fun _ => by rfl) ?_
    refine L_val (.int .i64 (((n0 : Int) - 1) - (k : Int))) (by rfl) (by exact hl_1) (gives_sub (k := .i64) ((n0 : Int) - 1) ((k : Int)) (((n0 : Int) - 1) - (k : Int)) (by rfl) (by rfl) (IntWalk.i64_in _ (by omega))) ?_
    refine L_val (.int .i64 (((n0 : Int) - 1) - (k : Int))) (by rfl) (by exact hl_1) (gives_value _ fun _ => by rfl) ?_
    refine L_end ?_
    intro w5 hw5
    refine one_flow (by kernel_rfl) hw5 [17] [(g, 100, (ag32 (wl (num (bs0.drop (n0 - k))) ((n0 + 1) / 2))))] 18 (by rfl) ?_
    refine flow_take (i := 0) (.slice (some ⟨g, 0, none⟩) ((n0 + 1) / 2) ((n0 + 1) / 2)) (by rfl) (by kernel_rfl) (by kernel_rfl) (by kernel_rfl) (by exact hl_1) (by kernel_rfl) (List.Sublist.refl _) (gives_value _ fun _ => by rfl) ?_
    refine flow_take (i := 1) (.int .i64 (k : Int)) (by rfl) (by kernel_rfl) (by kernel_rfl) (by kernel_rfl) (by exact hl_1) (by kernel_rfl) (List.Sublist.refl _) (gives_value _ fun _ => by rfl) ?_
    refine flow_take (i := 2) (.int .i64 ((k : Int) / 2)) (by rfl) (by kernel_rfl) (by kernel_rfl) (by kernel_rfl) (by exact hl_1) (by kernel_rfl) (List.Sublist.refl _) (gives_quo (k := .i64) ((k : Int)) (2) ((k : Int) / 2) (by rfl) (by rfl) (by omega) (IntWalk.i64_quo _ _ (by omega))) ?_
    refine flow_take (i := 3) (.pointer (some ⟨g, 0 + (k / 2), none⟩)) (by rfl) (by kernel_rfl) (by kernel_rfl) (by kernel_rfl) (by exact hl_1) (by kernel_rfl) (List.Sublist.refl _) (gives_index g 0 (((n0 + 1) / 2)) (((n0 + 1) / 2)) ((k : Int) / 2) (k / 2) (by rfl) (by rfl) und_u32s u32_sz (by omega) (by omega)) ?_
    refine flow_take (i := 4) (.int .u32 (gt (wl (num (bs0.drop (n0 - k))) ((n0 + 1) / 2)) (k / 2))) (by rfl) (by kernel_rfl) (by kernel_rfl) (by kernel_rfl) (by exact hl_1) (by kernel_rfl) (List.Sublist.refl _) (gives_load1 g (0 + (k / 2)) _ (ag32 (wl (num (bs0.drop (n0 - k))) ((n0 + 1) / 2))) (.int .u32 (gt (wl (num (bs0.drop (n0 - k))) ((n0 + 1) / 2)) (k / 2))) (by rfl) (fun _ h => h.blk 0 (by rfl)) (ag32_at _ _ (by rw [wl_len]; omega)) und_u32) ?_
    refine flow_take (i := 5) (.slice A0 n0 c0) (by rfl) (by kernel_rfl) (by kernel_rfl) (by kernel_rfl) (by exact hl_1) (by kernel_rfl) (List.Sublist.refl _) (gives_value _ fun _ => by rfl) ?_
    refine flow_take (i := 6) (.int .i64 (((n0 : Int) - 1) - (k : Int))) (by rfl) (by kernel_rfl) (by kernel_rfl) (by kernel_rfl) (by exact hl_1) (by kernel_rfl) (List.Sublist.refl _) (gives_value _ fun _ => by rfl) ?_
    refine flow_take (i := 7) (.pointer (some ⟨b0, o0 + (n0 - 1 - k), none⟩)) (by rfl) (by kernel_rfl) (by kernel_rfl) (by kernel_rfl) (by exact hl_1) (by kernel_rfl) (List.Sublist.refl _) (gives_index_old A0 n0 c0 (((n0 : Int) - 1) - (k : Int)) (n0 - 1 - k) _ _ hA0 (by rfl) (by rfl) und_u8s u8_sz (by omega) (by omega)) ?_
    refine flow_take (i := 8) (.int .u8 (gt bs0 (n0 - 1 - k))) (by rfl) (by kernel_rfl) (by kernel_rfl) (by kernel_rfl) (by exact hl_1) (by kernel_rfl) (List.Sublist.refl _) (gives_load_old _ (.int .u8 (gt bs0 (n0 - 1 - k))) (by rfl) (fun _ h => (h.below.cell (p := ⟨b0, _, none⟩) hq0).trans hce0) und_u8') ?_
    refine flow_take (i := 9) (.int .u32 (gt bs0 (n0 - 1 - k))) (by rfl) (by kernel_rfl) (by kernel_rfl) (by kernel_rfl) (by exact hl_1) (by kernel_rfl) (List.Sublist.refl _) (gives_conv (k2 := .u32) (gt bs0 (n0 - 1 - k)) (gt bs0 (n0 - 1 - k)) (by rfl) und_u8' und_u32 (IntWalk.u32_in _ (by omega))) ?_
    refine flow_take (i := 10) (.int .i64 (k : Int)) (by rfl) (by kernel_rfl) (by kernel_rfl) (by kernel_rfl) (by exact hl_1) (by kernel_rfl) (List.Sublist.refl _) (gives_value _ fun _ => by rfl) ?_
    refine flow_take (i := 11) (.int .i64 ((k : Int) % 2)) (by rfl) (by kernel_rfl) (by kernel_rfl) (by kernel_rfl) (by exact hl_1) (by kernel_rfl) (List.Sublist.refl _) (gives_rem (k := .i64) ((k : Int)) (2) ((k : Int) % 2) (by rfl) (by rfl) (by omega) (IntWalk.rem_in _ _ (by omega))) ?_
    refine flow_take (i := 12) (.int .i64 (8 * ((k : Int) % 2))) (by rfl) (by kernel_rfl) (by kernel_rfl) (by kernel_rfl) (by exact hl_1) (by kernel_rfl) (List.Sublist.refl _) (gives_mul (k := .i64) (8) ((k : Int) % 2) (8 * ((k : Int) % 2)) (by rfl) (by rfl) (IntWalk.i64_in _ (by omega))) ?_
    refine flow_take (i := 13) (.int .u64 (8 * ((k : Int) % 2))) (by rfl) (by kernel_rfl) (by kernel_rfl) (by kernel_rfl) (by exact hl_1) (by kernel_rfl) (List.Sublist.refl _) (gives_conv (k2 := .u64) (8 * ((k : Int) % 2)) (8 * ((k : Int) % 2)) (by rfl) und_int und_uint (IntWalk.u64_in _ (by omega))) ?_
    refine flow_take (i := 14) (.int .u32 ((gt bs0 (n0 - 1 - k)) * 256 ^ (k % 2))) (by rfl) (by kernel_rfl) (by kernel_rfl) (by kernel_rfl) (by exact hl_1) (by kernel_rfl) (List.Sublist.refl _) (gives_shl (k := .u32) (k2 := .u64) (gt bs0 (n0 - 1 - k)) (8 * ((k : Int) % 2)) ((gt bs0 (n0 - 1 - k)) * 256 ^ (k % 2)) (by rfl) (by rfl) (by omega) (shl_byte _ k b1.1 b1.2)) ?_
    refine flow_take (i := 15) (.int .u32 ((gt (wl (num (bs0.drop (n0 - k))) ((n0 + 1) / 2)) (k / 2)) + ((gt bs0 (n0 - 1 - k)) * 256 ^ (k % 2)))) (by rfl) (by kernel_rfl) (by kernel_rfl) (by kernel_rfl) (by exact hl_1) (by kernel_rfl) (List.Sublist.refl _) (gives_or (k := .u32) (gt (wl (num (bs0.drop (n0 - k))) ((n0 + 1) / 2)) (k / 2)) ((gt bs0 (n0 - 1 - k)) * 256 ^ (k % 2)) ((gt (wl (num (bs0.drop (n0 - k))) ((n0 + 1) / 2)) (k / 2)) + ((gt bs0 (n0 - 1 - k)) * 256 ^ (k % 2))) (by rfl) (by rfl) (or_byte _ _ k b2.1 b2.2 b1.1 b1.2)) ?_
    refine flow_take (i := 16) (.pointer (some ⟨g, 0 + (k / 2), none⟩)) (by rfl) (by kernel_rfl) (by kernel_rfl) (by kernel_rfl) (by exact hl_1) (by kernel_rfl) (List.Sublist.refl _) (gives_index g 0 (((n0 + 1) / 2)) (((n0 + 1) / 2)) ((k : Int) / 2) (k / 2) (by rfl) (by rfl) und_u32s u32_sz (by omega) (by omega)) ?_
    refine flow_one 17 (by kernel_rfl) ?_
    refine F_store1 0 g (0 + (k / 2)) _ (ag32 (wl (num (bs0.drop (n0 - k))) ((n0 + 1) / 2))) (.int .u32 ((gt (wl (num (bs0.drop (n0 - k))) ((n0 + 1) / 2)) (k / 2)) + ((gt bs0 (n0 - 1 - k)) * 256 ^ (k % 2)))) (by rfl) (by exact hl_1) (by rfl) (by rfl) rfl (by rfl) u32_sz (by rw [ag32_size, wl_len]; omega) (.inl (by decide)) ?_
    simp only [List.set_cons_zero, List.set_cons_succ]
    refine flow_done (by kernel_rfl) ?_
    intro w6 hw6
    change Code.wp _ _ _ _ _
    refine one_plain hw6 [0, 1, 2] (by rfl) ?_
    refine L_val (.int .i64 (k : Int)) (by rfl) (by exact hl_1) (gives_value _ fun _ => by rfl) ?_
    refine L_val (.int .i64 ((k : Int) + 1)) (by rfl) (by exact hl_1) (gives_add (k := .i64) ((k : Int)) (1) ((k : Int) + 1) (by rfl) (by rfl) (IntWalk.i64_in _ (by omega))) ?_
    refine L_val (.int .i64 ((k : Int) + 1)) (by rfl) (by exact hl_1) (gives_value _ fun _ => by rfl) ?_
    refine L_end ?_
    intro w7 hw7
    change ∃ r' : Nat, r' < r_1 ∧ _
    refine ⟨_, ?_, k + 1, g, ((4, .int .i64 ((k : Int) + 1)) :: (16, .int .i64 ((k : Int) + 1)) :: (15, .int .i64 (k : Int)) :: (38, .pointer (some ⟨g, 0 + (k / 2), none⟩)) :: (37, .int .u32 ((gt (wl (num (bs0.drop (n0 - k))) ((n0 + 1) / 2)) (k / 2)) + ((gt bs0 (n0 - 1 - k)) * 256 ^ (k % 2)))) :: (36, .int .u32 ((gt bs0 (n0 - 1 - k)) * 256 ^ (k % 2))) :: (35, .int .u64 (8 * ((k : Int) % 2))) :: (34, .int .i64 (8 * ((k : Int) % 2))) :: (33, .int .i64 ((k : Int) % 2)) :: (32, .int .i64 (k : Int)) :: (31, .int .u32 (gt bs0 (n0 - 1 - k))) :: (30, .int .u8 (gt bs0 (n0 - 1 - k))) :: (29, .pointer (some ⟨b0, o0 + (n0 - 1 - k), none⟩)) :: (28, .int .i64 (((n0 : Int) - 1) - (k : Int))) :: (27, .slice A0 n0 c0) :: (26, .int .u32 (gt (wl (num (bs0.drop (n0 - k))) ((n0 + 1) / 2)) (k / 2))) :: (25, .pointer (some ⟨g, 0 + (k / 2), none⟩)) :: (24, .int .i64 ((k : Int) / 2)) :: (23, .int .i64 (k : Int)) :: (22, .slice (some ⟨g, 0, none⟩) ((n0 + 1) / 2) ((n0 + 1) / 2)) :: (5, .int .i64 (((n0 : Int) - 1) - (k : Int))) :: (21, .int .i64 (((n0 : Int) - 1) - (k : Int))) :: (20, .int .i64 (k : Int)) :: (19, .int .i64 ((n0 : Int) - 1)) :: (18, .int .i64 (n0 : Int)) :: (17, .slice A0 n0 c0) :: (14, .bool true) :: (13, .int .i64 (n0 : Int)) :: (12, .slice A0 n0 c0) :: (11, .int .i64 (k : Int)) :: (0, .slice A0 n0 c0) :: (3, .slice (some ⟨g, 0, none⟩) ((n0 + 1) / 2) ((n0 + 1) / 2)) :: (4, .int .i64 (k : Int)) :: l_1), rfl, (by exact hl_1), (Eq.trans (Eq.trans (fr_dup _ _ 4 _ (by exact hl_1) (by rfl) (by rfl)).symm (fr_dup _ _ 3 _ (by exact hl_1) (by rfl) (by rfl)).symm) (fr_dup _ _ 0 _ (by exact hl_1) (by rfl) (by rfl)).symm), by omega, (by rw [← num_set bs0 n0 k ((n0 + 1) / 2) ho0 hn0 hlt rfl]; exact hw7)⟩
    omega
  ·
    refine wp_seq ?_
    refine seq_plain hw0_1 [0, 1, 2, 3] (by rfl) ?_
    refine L_val (.int .i64 (k : Int)) (by rfl) (by exact hl_1) (gives_value _ fun _ => by rfl) ?_
    refine L_val (.slice A0 n0 c0) (by rfl) (by exact hl_1) (gives_value _ fun _ => by rfl) ?_
    refine L_val (.int .i64 (n0 : Int)) (by rfl) (by exact hl_1) (gives_len _ n0 c0 und_u8s (by rfl)) ?_
    refine L_val (.bool false) (by rfl) (by exact hl_1) (gives_lss (k := .i64) ((k : Int)) ((n0 : Int)) false (by rfl) (by rfl) (decide_eq_false (by omega))) ?_
    refine L_end ?_
    intro w8 hw8
    refine wp_cond_false (fr_at _ _ (by exact hl_1) _) ?_
    refine wp_exit ?_
    have hkN : k = n0 := by omega
    change Code.wp _ _ _ _ _
    change Code.wp _ _ _ _ _
    refine seq_plain hw8 [0, 1] (by rfl) ?_
    refine L_val (.slice (some ⟨g, 0, none⟩) ((n0 + 1) / 2) ((n0 + 1) / 2)) (by rfl) (by exact hl_1) (gives_value _ fun _ => by rfl) ?_
    refine L_val (.slice (some ⟨g, 0, none⟩) ((n0 + 1) / 2) ((n0 + 1) / 2)) (by rfl) (by exact hl_1) (gives_value _ fun _ => by rfl) ?_
    refine L_end ?_
    intro w9 hw9
    subst hkN
    refine wp_ret ?_
    change bodyPost _ _ _ Exit.ret _ _
    refine (ret_tmp (by rfl) (by exact hl_1) (by rfl) ⟨g, _, ag32 (wl (num bs0) ((k + 1) / 2)), rfl, WB.of _ _ (by omega), hw9.ge 0 (by rfl), (by have hq := hw9.blk 0 (by rfl); rw [Nat.sub_self, List.drop_zero] at hq; exact hq), hw9.below⟩)
end Go.Proofs.YtialfoccalobpaaDoor

/-! ## R3T -/
namespace Go.Proofs.YtialfoccalobpaaDoor
set_option linter.unusedSimpArgs false
set_option linter.unusedVariables false
open Go.RowKit
theorem und_w64 : Tryd.prog.underlying 32 = some (.int .u64) := by kernel_rfl
theorem ag32_set0 (l : List Int) (i : Nat) (v : Int) : (ag32 l).setIfInBounds (0 + i) (.int .u32 v) = ag32 (l.set i v) := by rw [Nat.zero_add, ag32_set]
theorem w64 (x : Int) (h0 : 0 ≤ x) (h : x < 18446744073709551616) : IntKind.u64.wrap x = x := IntWalk.u64_in x (by omega)
theorem and_ffff64 (a : Int) (h0 : 0 ≤ a) (h : a < 4294967296) : IntKind.u64.wrap (((a % 2 ^ IntKind.u64.bits).toNat &&& ((65535 : Int) % 2 ^ IntKind.u64.bits).toNat : Nat) : Int) = a % 65536 := by
  have e1 : (2 : Int) ^ IntKind.u64.bits = 18446744073709551616 := by decide
  have e2 : ((65535 : Int) % 18446744073709551616).toNat = 2 ^ 16 - 1 := by decide
  rw [e1, e2, Nat.and_two_pow_sub_one_eq_mod, Int.emod_eq_of_lt h0 (by omega)]
  have e3 : ((a.toNat % 2 ^ 16 : Nat) : Int) = a % 65536 := by omega
  rw [e3]
  exact w64 _ (by omega) (by omega)
theorem shr_16_64 (a : Int) (h0 : 0 ≤ a) : a.fdiv (2 ^ (min (16 : Int).toNat IntKind.u64.bits)) = a / 65536 := by
  have e : (2 : Int) ^ (min (16 : Int).toNat IntKind.u64.bits) = 65536 := by decide
  rw [e, Int.fdiv_eq_ediv_of_nonneg _ (by omega)]
theorem va_set (l : List Int) (t : Nat) (d : Int) (ht : t < l.length) : va (l.set t d) = va l + 65536 ^ t * (d - gt l t) := by
  induction l generalizing t with
  | nil => simp at ht
  | cons a l ih =>
    cases t with
    | zero => simp [va, gt]; omega
    | succ t =>
      have := ih t (by simpa using ht)
      simp only [List.set_cons_succ, va, this, Int.pow_succ]
      have e : gt (a :: l) (t + 1) = gt l t := by simp [gt]
      rw [e]
      grind
theorem W16.set {l : List Int} (h : W16 l) (t : Nat) (d : Int) (h0 : 0 ≤ d) (h1 : d < 65536) : W16 (l.set t d) := fun b hb => by
  rcases List.mem_or_eq_of_mem_set hb with h2 | h2
  · exact h b h2
  · omega
theorem wl_va (l : List Int) (h : W16 l) : wl (va l) l.length = l := by
  induction l with
  | nil => rfl
  | cons a l ih =>
    have h1 := h a (List.mem_cons_self ..)
    have h2 := ih (fun b hb => h b (List.mem_cons_of_mem _ hb))
    have e1 : (a + 65536 * va l) % 65536 = a := by omega
    have e2 : (a + 65536 * va l) / 65536 = va l := by omega
    simp only [List.length_cons, va, wl, e1, e2, h2]
theorem times_step (l m o : List Int) (i j : Nat) (c : Int) (hlen : i + j < o.length) (E : va o + 65536 ^ (i + j) * c = vg (gt l) i * va m + 65536 ^ i * (gt l i * vg (gt m) j)) (s : Int) (hs : s = gt o (i + j) + gt l i * gt m j + c) :
    va (o.set (i + j) (s % 65536)) + 65536 ^ (i + (j + 1)) * (s / 65536) = vg (gt l) i * va m + 65536 ^ i * (gt l i * vg (gt m) (j + 1)) := by
  rw [va_set _ _ _ hlen, vg]
  have e1 : (65536 : Int) ^ (i + (j + 1)) = 65536 ^ (i + j) * 65536 := by rw [← Nat.add_assoc, Int.pow_succ]
  have e2 : (65536 : Int) ^ (i + j) = 65536 ^ i * 65536 ^ j := Int.pow_add ..
  have e3 := Int.emod_add_mul_ediv s 65536
  rw [e1]
  have e4 : 65536 ^ (i + j) * (s % 65536 - gt o (i + j)) + 65536 ^ (i + j) * 65536 * (s / 65536) = 65536 ^ (i + j) * (gt l i * gt m j + c) := by
    have : s % 65536 - gt o (i + j) + 65536 * (s / 65536) = gt l i * gt m j + c := by omega
    rw [← this]; grind
  have e5 : 65536 ^ i * (gt l i * (vg (gt m) j + 65536 ^ j * gt m j)) = 65536 ^ i * (gt l i * vg (gt m) j) + 65536 ^ (i + j) * (gt l i * gt m j) := by rw [e2]; grind
  rw [e5, ← Int.add_assoc, ← E]
  grind
theorem times_end (l m o : List Int) (i n1 : Nat) (c : Int) (hl : W16 l) (hm : W16 m) (ho : W16 o) (hn : m.length = n1) (c0 : 0 ≤ c) (E : va o + 65536 ^ (i + (n1 + 1)) * c = vg (gt l) i * va m + 65536 ^ i * (gt l i * vg (gt m) (n1 + 1))) :
    va o = vg (gt l) (i + 1) * va m := by
  have h1 : vg (gt m) (n1 + 1) = va m := (va_vg m (n1 + 1) (by omega)).symm
  have h2 := vg_lt (gt l) hl.at_ (i + 1)
  have h3 := va_lt m hm
  have h4 := va_lt o ho
  have e : vg (gt l) i * va m + 65536 ^ i * (gt l i * vg (gt m) (n1 + 1)) = vg (gt l) (i + 1) * va m := by rw [h1, vg]; grind
  rw [e] at E
  have h5 : vg (gt l) (i + 1) * va m < 65536 ^ (i + 1) * 65536 ^ n1 := by
    rw [hn] at h3
    rcases Int.le_iff_lt_or_eq.1 h3.1 with h6 | h6
    · exact Int.lt_of_lt_of_le (Int.mul_lt_mul_of_pos_right h2.2 h6) (Int.mul_le_mul_of_nonneg_left (Int.le_of_lt h3.2) (Int.le_of_lt (bp _)))
    · rw [← h6, Int.mul_zero]; exact Int.mul_pos (bp _) (bp _)
  rw [← Int.pow_add, show i + 1 + n1 = i + (n1 + 1) by omega] at h5
  rcases Int.le_iff_lt_or_eq.1 c0 with h6 | h6
  · have h7 : 65536 ^ (i + (n1 + 1)) * 1 ≤ 65536 ^ (i + (n1 + 1)) * c := Int.mul_le_mul_of_nonneg_left (by omega) (Int.le_of_lt (bp _))
    omega
  · rw [← h6, Int.mul_zero, Int.add_zero] at E; exact E
theorem prod_lo {a b : Int} (ha : 0 ≤ a ∧ a < 65536) (hb : 0 ≤ b ∧ b < 65536) : 0 ≤ a * b ∧ a * b ≤ 4294836225 :=
  ⟨Int.mul_nonneg ha.1 hb.1, Int.le_trans (Int.mul_le_mul_of_nonneg_left (show b ≤ 65535 by omega) ha.1) (by omega)⟩
attribute [local irreducible] wpL wpF fr Code.wp bodyPost
set_option maxRecDepth 100000 in
set_option maxHeartbeats 4000000 in
theorem r3_times (A0 : Option Addr) (n0 c0 : Nat) (l0 : List Int) (A1 : Option Addr) (n1 c1 : Nat) (l1 : List Int) (v : World) (hr0 : Reads v v.heap.size A0 n0 (l0.map (Value.int .u32))) (ho0 : W16 l0) (hb0 : n0 ≤ 1099511627776) (hr1 : Reads v v.heap.size A1 n1 (l1.map (Value.int .u32))) (ho1 : W16 l1) (hb1 : n1 ≤ 1099511627776) : RetsW 156 #[.slice A0 n0 c0, .slice A1 n1 c1] v (n0 + n1 + 1) (va l0 * va l1) := by
  have hn0 : l0.length = n0 := by simpa using hr0.1
  have hn1 : l1.length = n1 := by simpa using hr1.1
  refine calls_fr2 Tryd.func156 rfl (by rfl : _ = 60) (by rfl) ?_
  have hw := Hbl.nil v
  refine seq_plain hw [0] (by rfl) ?_
  refine L_val (.slice none 0 0) (by rfl) (by rfl) (gives_value _ fun _ => by rfl) ?_
  refine L_end ?_
  intro w1 hw1
  refine seq_plain hw1 [0, 1, 2, 3, 4, 5, 6, 7] (by rfl) ?_
  refine L_val (.slice A0 n0 c0) (by rfl) (by rfl) (gives_value _ fun _ => by rfl) ?_
  refine L_val (.int .i64 (n0 : Int)) (by rfl) (by rfl) (gives_len _ n0 c0 und_u32s (by rfl)) ?_
  refine L_val (.slice A1 n1 c1) (by rfl) (by rfl) (gives_value _ fun _ => by rfl) ?_
  refine L_val (.int .i64 (n1 : Int)) (by rfl) (by rfl) (gives_len _ n1 c1 und_u32s (by rfl)) ?_
  refine L_val (.int .i64 ((n0 : Int) + (n1 : Int))) (by rfl) (by rfl) (gives_add (k := .i64) ((n0 : Int)) ((n1 : Int)) ((n0 : Int) + (n1 : Int)) (by rfl) (by rfl) (IntWalk.i64_in _ (by omega))) ?_
  refine L_val (.int .i64 (((n0 : Int) + (n1 : Int)) + 1)) (by rfl) (by rfl) (gives_add (k := .i64) ((n0 : Int) + (n1 : Int)) (1) (((n0 : Int) + (n1 : Int)) + 1) (by rfl) (by rfl) (IntWalk.i64_in _ (by omega))) ?_
  refine L_make (n0 + n1 + 1) (.int .u32 0) 4 (by rfl) (by rfl) und_u32s u32_all rfl (by exact congrArg (Value.int .i64) (by omega : (((n0 : Int) + (n1 : Int)) + 1) = ((n0 + n1 + 1 : Nat) : Int))) (by exact congrArg (Value.int .i64) (by omega : (((n0 : Int) + (n1 : Int)) + 1) = ((n0 + n1 + 1 : Nat) : Int))) (by omega) (by omega) ?_; intro g1
  refine L_val (.slice (some ⟨g1, 0, none⟩) (n0 + n1 + 1) (n0 + n1 + 1)) (by rfl) (by rfl) (gives_value _ fun _ => by rfl) ?_
  refine L_end ?_
  intro w2 hw2
  refine wp_seq ?_
  refine seq_plain hw2 [0, 1, 2] (by rfl) ?_
  refine L_val (.slice A0 n0 c0) (by rfl) (by rfl) (gives_value _ fun _ => by rfl) ?_
  refine L_val (.int .i64 (n0 : Int)) (by rfl) (by rfl) (gives_len _ n0 c0 und_u32s (by rfl)) ?_
  refine L_val (.int .i64 0) (by rfl) (by rfl) (gives_value _ fun _ => by rfl) ?_
  refine L_end ?_
  intro w3 hw3
  refine wp_block ?_
  refine loop_down (fun (r_ : Nat) a w => ∃ (i : Nat) (g : Nat) (o : List Int) (l_1 : List (Nat × Value)), n0 - i = r_ ∧ inFr 60 l_1 = true ∧ a = fr 60 ((0, .slice A0 n0 c0) :: (1, .slice A1 n1 c1) :: (5, .slice (some ⟨g, 0, none⟩) (n0 + n1 + 1) (n0 + n1 + 1)) :: (18, .int .i64 (n0 : Int)) :: (19, .int .i64 (i : Int)) :: l_1) ∧ (i ≤ n0) ∧ (W16 o) ∧ (o.length = n0 + n1 + 1) ∧ (va o = vg (gt l0) i * va l1) ∧ Hbl v [(g, 100, (ag32 o))] w) ?_ _ _ _ ⟨0, g1, wl 0 (n0 + n1 + 1), [(19, .int .i64 0), (18, .int .i64 (n0 : Int)), (17, .slice A0 n0 c0), (5, .slice (some ⟨g1, 0, none⟩) (n0 + n1 + 1) (n0 + n1 + 1)), (16, .slice (some ⟨g1, 0, none⟩) (n0 + n1 + 1) (n0 + n1 + 1)), (15, .int .i64 (((n0 : Int) + (n1 : Int)) + 1)), (14, .int .i64 ((n0 : Int) + (n1 : Int))), (13, .int .i64 (n1 : Int)), (12, .slice A1 n1 c1), (11, .int .i64 (n0 : Int)), (10, .slice A0 n0 c0), (4, .slice none 0 0), (1, .slice A1 n1 c1), (0, .slice A0 n0 c0)], rfl, (by rfl), (Eq.trans (Eq.trans (Eq.trans (Eq.trans (fr_dup _ _ 19 _ (by rfl) (by rfl) (by rfl)).symm (fr_dup _ _ 18 _ (by rfl) (by rfl) (by rfl)).symm) (fr_dup _ _ 5 _ (by rfl) (by rfl) (by rfl)).symm) (fr_dup _ _ 1 _ (by rfl) (by rfl) (by rfl)).symm) (fr_dup _ _ 0 _ (by rfl) (by rfl) (by rfl)).symm), Nat.zero_le _, wl_w16 _ _, wl_len _ _, by rw [va_wl 0 _ (by omega) (bp _)]; simp [vg], (by rw [← ag32_zero]; exact hw3)⟩
  rintro r_1 a0 w0_1 ⟨i, g, o, l_1, hr_1, hl_1, rfl, hi, hW, hlen, hv, hw0_1⟩
  by_cases hlt : i < n0
  ·
    have b1 := ho0.at_ i
    obtain ⟨b0, o0, hA0, hq0, hce0⟩ := reads_cell hr0 hlt
    refine seq_plain hw0_1 [0] (by rfl) ?_
    refine L_val (.bool true) (by rfl) (by exact hl_1) (gives_lss (k := .i64) ((i : Int)) ((n0 : Int)) true (by rfl) (by rfl) (decide_eq_true (by omega))) ?_
    refine L_end ?_
    intro w4 hw4
    refine wp_seq ?_
    refine wp_cond_true (fr_at _ _ (by exact hl_1) _) ?_
    refine wp_skip ?_
    change Code.wp _ _ _ _ _
    refine wp_seq ?_
    refine wp_block ?_
    refine seq_plain hw4 [0, 1] (by rfl) ?_
    refine L_val (.int .i64 (i : Int)) (by rfl) (by exact hl_1) (gives_value _ fun _ => by rfl) ?_
    refine L_val (.int .i64 (i : Int)) (by rfl) (by exact hl_1) (gives_value _ fun _ => by rfl) ?_
    refine L_end ?_
    intro w5 hw5
    refine seq_plain hw5 [0] (by rfl) ?_
    refine L_val (.int .u64 0) (by rfl) (by exact hl_1) (gives_value _ fun _ => by rfl) ?_
    refine L_end ?_
    intro w6 hw6
    refine seq_plain hw6 [0] (by rfl) ?_
    refine L_val (.int .i64 0) (by rfl) (by exact hl_1) (gives_value _ fun _ => by rfl) ?_
    refine L_end ?_
    intro w7 hw7
    refine wp_block ?_
    refine loop_down (fun (r_ : Nat) a w => ∃ (j : Nat) (o2 : List Int) (c : Int) (l_2 : List (Nat × Value)), n1 + 1 - j = r_ ∧ inFr 60 l_2 = true ∧ a = fr 60 ((0, .slice A0 n0 c0) :: (1, .slice A1 n1 c1) :: (5, .slice (some ⟨g, 0, none⟩) (n0 + n1 + 1) (n0 + n1 + 1)) :: (6, .int .i64 (i : Int)) :: (7, .int .u64 c) :: (8, .int .i64 (j : Int)) :: (18, .int .i64 (n0 : Int)) :: (19, .int .i64 (i : Int)) :: l_2) ∧ (j ≤ n1 + 1) ∧ (W16 o2) ∧ (o2.length = n0 + n1 + 1) ∧ (0 ≤ c ∧ c < 65536) ∧ (va o2 + 65536 ^ (i + j) * c = vg (gt l0) i * va l1 + 65536 ^ i * (gt l0 i * vg (gt l1) j)) ∧ Hbl v [(g, 100, (ag32 o2))] w) ?_ _ _ _ ⟨0, o, 0, ((8, .int .i64 0) :: (7, .int .u64 0) :: (6, .int .i64 (i : Int)) :: (21, .int .i64 (i : Int)) :: (20, .bool true) :: (0, .slice A0 n0 c0) :: (1, .slice A1 n1 c1) :: (5, .slice (some ⟨g, 0, none⟩) (n0 + n1 + 1) (n0 + n1 + 1)) :: (18, .int .i64 (n0 : Int)) :: (19, .int .i64 (i : Int)) :: l_1), rfl, (by exact hl_1), (Eq.trans (Eq.trans (Eq.trans (Eq.trans (Eq.trans (Eq.trans (Eq.trans (fr_dup _ _ 19 _ (by exact hl_1) (by rfl) (by rfl)).symm (fr_dup _ _ 18 _ (by exact hl_1) (by rfl) (by rfl)).symm) (fr_dup _ _ 8 _ (by exact hl_1) (by rfl) (by rfl)).symm) (fr_dup _ _ 7 _ (by exact hl_1) (by rfl) (by rfl)).symm) (fr_dup _ _ 6 _ (by exact hl_1) (by rfl) (by rfl)).symm) (fr_dup _ _ 5 _ (by exact hl_1) (by rfl) (by rfl)).symm) (fr_dup _ _ 1 _ (by exact hl_1) (by rfl) (by rfl)).symm) (fr_dup _ _ 0 _ (by exact hl_1) (by rfl) (by rfl)).symm), Nat.zero_le _, hW, hlen, by omega, by rw [hv]; simp [vg], hw7⟩
    rintro r_2 a0 w0_2 ⟨j, o2, c, l_2, hr_2, hl_2, rfl, hj, hW2, hlen2, hc, hE, hw0_2⟩
    by_cases hlt2 : j ≤ n1
    ·
      have b2 := ho1.at_ j
      have b3 := hW2.at_ (i + j)
      have b4 := prod_lo b1 b2
      refine wp_seq ?_
      refine seq_plain hw0_2 [0, 1, 2, 3] (by rfl) ?_
      refine L_val (.int .i64 (j : Int)) (by rfl) (by exact hl_2) (gives_value _ fun _ => by rfl) ?_
      refine L_val (.slice A1 n1 c1) (by rfl) (by exact hl_2) (gives_value _ fun _ => by rfl) ?_
      refine L_val (.int .i64 (n1 : Int)) (by rfl) (by exact hl_2) (gives_len _ n1 c1 und_u32s (by rfl)) ?_
      refine L_val (.bool true) (by rfl) (by exact hl_2) (gives_leq (k := .i64) ((j : Int)) ((n1 : Int)) true (by rfl) (by rfl) (decide_eq_true (by omega))) ?_
      refine L_end ?_
      intro w8 hw8
      refine wp_cond_true (fr_at _ _ (by exact hl_2) _) ?_
      refine wp_skip ?_
      change Code.wp _ _ _ _ _
      refine wp_seq ?_
      refine wp_block ?_
      refine seq_flow (by kernel_rfl) hw8 [] [(g, 100, (ag32 o2))] 21 (by rfl) ?_
      refine flow_take (i := 0) (.slice (some ⟨g, 0, none⟩) (n0 + n1 + 1) (n0 + n1 + 1)) (by rfl) (by kernel_rfl) (by kernel_rfl) (by kernel_rfl) (by exact hl_2) (by kernel_rfl) (List.Sublist.refl _) (gives_value _ fun _ => by rfl) ?_
      refine flow_take (i := 1) (.int .i64 (i : Int)) (by rfl) (by kernel_rfl) (by kernel_rfl) (by kernel_rfl) (by exact hl_2) (by kernel_rfl) (List.Sublist.refl _) (gives_value _ fun _ => by rfl) ?_
      refine flow_take (i := 2) (.int .i64 (j : Int)) (by rfl) (by kernel_rfl) (by kernel_rfl) (by kernel_rfl) (by exact hl_2) (by kernel_rfl) (List.Sublist.refl _) (gives_value _ fun _ => by rfl) ?_
      refine flow_take (i := 3) (.int .i64 ((i : Int) + (j : Int))) (by rfl) (by kernel_rfl) (by kernel_rfl) (by kernel_rfl) (by exact hl_2) (by kernel_rfl) (List.Sublist.refl _) (gives_add (k := .i64) ((i : Int)) ((j : Int)) ((i : Int) + (j : Int)) (by rfl) (by rfl) (IntWalk.i64_in _ (by omega))) ?_
      refine flow_take (i := 4) (.pointer (some ⟨g, 0 + (i + j), none⟩)) (by rfl) (by kernel_rfl) (by kernel_rfl) (by kernel_rfl) (by exact hl_2) (by kernel_rfl) (List.Sublist.refl _) (gives_index g 0 (n0 + n1 + 1) (n0 + n1 + 1) ((i : Int) + (j : Int)) (i + j) (by rfl) (by rfl) und_u32s u32_sz (by omega) (by omega)) ?_
      refine flow_take (i := 5) (.int .u32 (gt o2 (i + j))) (by rfl) (by kernel_rfl) (by kernel_rfl) (by kernel_rfl) (by exact hl_2) (by kernel_rfl) (List.Sublist.refl _) (gives_load1 g (0 + (i + j)) _ (ag32 o2) (.int .u32 (gt o2 (i + j))) (by rfl) (fun _ h => h.blk 0 (by rfl)) (ag32_at _ _ (by omega)) und_u32) ?_
      refine flow_take (i := 6) (.int .u64 (gt o2 (i + j))) (by rfl) (by kernel_rfl) (by kernel_rfl) (by kernel_rfl) (by exact hl_2) (by kernel_rfl) (List.Sublist.refl _) (gives_conv (k2 := .u64) (gt o2 (i + j)) (gt o2 (i + j)) (by rfl) und_u32 und_w64 (IntWalk.u64_in _ (by omega))) ?_
      refine flow_take (i := 7) (.slice A0 n0 c0) (by rfl) (by kernel_rfl) (by kernel_rfl) (by kernel_rfl) (by exact hl_2) (by kernel_rfl) (List.Sublist.refl _) (gives_value _ fun _ => by rfl) ?_
      refine flow_take (i := 8) (.int .i64 (i : Int)) (by rfl) (by kernel_rfl) (by kernel_rfl) (by kernel_rfl) (by exact hl_2) (by kernel_rfl) (List.Sublist.refl _) (gives_value _ fun _ => by rfl) ?_
      refine flow_take (i := 9) (.pointer (some ⟨b0, o0 + (i), none⟩)) (by rfl) (by kernel_rfl) (by kernel_rfl) (by kernel_rfl) (by exact hl_2) (by kernel_rfl) (List.Sublist.refl _) (gives_index_old A0 n0 c0 ((i : Int)) (i) _ _ hA0 (by rfl) (by rfl) und_u32s u32_sz rfl (by omega)) ?_
      refine flow_take (i := 10) (.int .u32 (gt l0 i)) (by rfl) (by kernel_rfl) (by kernel_rfl) (by kernel_rfl) (by exact hl_2) (by kernel_rfl) (List.Sublist.refl _) (gives_load_old _ (.int .u32 (gt l0 i)) (by rfl) (fun _ h => (h.below.cell (p := ⟨b0, _, none⟩) hq0).trans hce0) und_u32) ?_
      refine flow_take (i := 11) (.int .u64 (gt l0 i)) (by rfl) (by kernel_rfl) (by kernel_rfl) (by kernel_rfl) (by exact hl_2) (by kernel_rfl) (List.Sublist.refl _) (gives_conv (k2 := .u64) (gt l0 i) (gt l0 i) (by rfl) und_u32 und_w64 (IntWalk.u64_in _ (by omega))) ?_
      refine flow_take (i := 12) (.slice A1 n1 c1) (by rfl) (by kernel_rfl) (by kernel_rfl) (by kernel_rfl) (by exact hl_2) (by kernel_rfl) (List.Sublist.refl _) (gives_value _ fun _ => by rfl) ?_
      refine flow_take (i := 13) (.int .i64 (j : Int)) (by rfl) (by kernel_rfl) (by kernel_rfl) (by kernel_rfl) (by exact hl_2) (by kernel_rfl) (List.Sublist.refl _) (gives_value _ fun _ => by rfl) ?_
      refine flow_take (i := 14) (.int .u32 (gt l1 j)) (by rfl) (by kernel_rfl) (by kernel_rfl) (by kernel_rfl) (by exact hl_2) (by kernel_rfl) (List.Sublist.refl _) (gives_call (vl := [.slice A1 n1 c1, .int .i64 (j : Int)]) (by kernel_rfl) (by rfl) (fun w h => r3_word' w _ A1 n1 c1 l1 (hr1.below h.below) j)) ?_
      refine flow_take (i := 15) (.int .u64 (gt l1 j)) (by rfl) (by kernel_rfl) (by kernel_rfl) (by kernel_rfl) (by exact hl_2) (by kernel_rfl) (List.Sublist.refl _) (gives_conv (k2 := .u64) (gt l1 j) (gt l1 j) (by rfl) und_u32 und_w64 (IntWalk.u64_in _ (by omega))) ?_
      refine flow_take (i := 16) (.int .u64 ((gt l0 i) * (gt l1 j))) (by rfl) (by kernel_rfl) (by kernel_rfl) (by kernel_rfl) (by exact hl_2) (by kernel_rfl) (List.Sublist.refl _) (gives_mul (k := .u64) (gt l0 i) (gt l1 j) ((gt l0 i) * (gt l1 j)) (by rfl) (by rfl) (IntWalk.u64_in _ (by omega))) ?_
      refine flow_take (i := 17) (.int .u64 ((gt o2 (i + j)) + ((gt l0 i) * (gt l1 j)))) (by rfl) (by kernel_rfl) (by kernel_rfl) (by kernel_rfl) (by exact hl_2) (by kernel_rfl) (List.Sublist.refl _) (gives_add (k := .u64) (gt o2 (i + j)) ((gt l0 i) * (gt l1 j)) ((gt o2 (i + j)) + ((gt l0 i) * (gt l1 j))) (by rfl) (by rfl) (IntWalk.u64_in _ (by omega))) ?_
      refine flow_take (i := 18) (.int .u64 c) (by rfl) (by kernel_rfl) (by kernel_rfl) (by kernel_rfl) (by exact hl_2) (by kernel_rfl) (List.Sublist.refl _) (gives_value _ fun _ => by rfl) ?_
      refine flow_take (i := 19) (.int .u64 (((gt o2 (i + j)) + ((gt l0 i) * (gt l1 j))) + c)) (by rfl) (by kernel_rfl) (by kernel_rfl) (by kernel_rfl) (by exact hl_2) (by kernel_rfl) (List.Sublist.refl _) (gives_add (k := .u64) ((gt o2 (i + j)) + ((gt l0 i) * (gt l1 j))) (c) (((gt o2 (i + j)) + ((gt l0 i) * (gt l1 j))) + c) (by rfl) (by rfl) (IntWalk.u64_in _ (by omega))) ?_
      refine flow_take (i := 20) (.int .u64 (((gt o2 (i + j)) + ((gt l0 i) * (gt l1 j))) + c)) (by rfl) (by kernel_rfl) (by kernel_rfl) (by kernel_rfl) (by exact hl_2) (by kernel_rfl) (List.Sublist.refl _) (gives_value _ fun _ => by rfl) ?_
      refine flow_done (by kernel_rfl) ?_
      intro w9 hw9
      refine seq_plain hw9 [0, 1, 2, 3, 4, 5, 6, 7, 8] (by rfl) ?_
      refine L_val (.slice (some ⟨g, 0, none⟩) (n0 + n1 + 1) (n0 + n1 + 1)) (by rfl) (by exact hl_2) (gives_value _ fun _ => by rfl) ?_
      refine L_val (.int .i64 (i : Int)) (by rfl) (by exact hl_2) (gives_value _ fun _ => by rfl) ?_
      refine L_val (.int .i64 (j : Int)) (by rfl) (by exact hl_2) (gives_value _ fun _ => by rfl) ?_
      refine L_val (.int .i64 ((i : Int) + (j : Int))) (by rfl) (by exact hl_2) (gives_add (k := .i64) ((i : Int)) ((j : Int)) ((i : Int) + (j : Int)) (by rfl) (by rfl) (IntWalk.i64_in _ (by omega))) ?_
      refine L_val (.int .u64 (((gt o2 (i + j)) + ((gt l0 i) * (gt l1 j))) + c)) (by rfl) (by exact hl_2) (gives_value _ fun _ => by rfl) ?_
      refine L_val (.int .u64 ((((gt o2 (i + j)) + ((gt l0 i) * (gt l1 j))) + c) % 65536)) (by rfl) (by exact hl_2) (gives_and (k := .u64) (((gt o2 (i + j)) + ((gt l0 i) * (gt l1 j))) + c) 65535 ((((gt o2 (i + j)) + ((gt l0 i) * (gt l1 j))) + c) % 65536) (by rfl) (by rfl) (and_ffff64 _ (by omega) (by omega))) ?_
      refine L_val (.int .u32 ((((gt o2 (i + j)) + ((gt l0 i) * (gt l1 j))) + c) % 65536)) (by rfl) (by exact hl_2) (gives_conv (k2 := .u32) ((((gt o2 (i + j)) + ((gt l0 i) * (gt l1 j))) + c) % 65536) ((((gt o2 (i + j)) + ((gt l0 i) * (gt l1 j))) + c) % 65536) (by rfl) und_w64 und_u32 (IntWalk.u32_in _ (by omega))) ?_
      refine L_val (.pointer (some ⟨g, 0 + (i + j), none⟩)) (by rfl) (by exact hl_2) (gives_index g 0 (n0 + n1 + 1) (n0 + n1 + 1) ((i : Int) + (j : Int)) (i + j) (by rfl) (by rfl) und_u32s u32_sz (by omega) (by omega)) ?_
      refine L_store1 0 g (0 + (i + j)) _ (ag32 o2) (.int .u32 ((((gt o2 (i + j)) + ((gt l0 i) * (gt l1 j))) + c) % 65536)) (by rfl) (by exact hl_2) (by rfl) (by rfl) rfl (by rfl) u32_sz (by rw [ag32_size]; omega) ?_
      simp only [List.set_cons_zero, List.set_cons_succ]
      refine L_end ?_
      intro w10 hw10
      refine one_plain hw10 [0, 1, 2] (by rfl) ?_
      refine L_val (.int .u64 (((gt o2 (i + j)) + ((gt l0 i) * (gt l1 j))) + c)) (by rfl) (by exact hl_2) (gives_value _ fun _ => by rfl) ?_
      refine L_val (.int .u64 ((((gt o2 (i + j)) + ((gt l0 i) * (gt l1 j))) + c) / 65536)) (by rfl) (by exact hl_2) (gives_shr (k := .u64) (k2 := .u64) (((gt o2 (i + j)) + ((gt l0 i) * (gt l1 j))) + c) 16 ((((gt o2 (i + j)) + ((gt l0 i) * (gt l1 j))) + c) / 65536) (by rfl) (by rfl) (by omega) (shr_16_64 _ (by omega))) ?_
      refine L_val (.int .u64 ((((gt o2 (i + j)) + ((gt l0 i) * (gt l1 j))) + c) / 65536)) (by rfl) (by exact hl_2) (gives_value _ fun _ => by rfl) ?_
      refine L_end ?_
      intro w11 hw11
      change Code.wp _ _ _ _ _
      refine one_plain hw11 [0, 1, 2] (by rfl) ?_
      refine L_val (.int .i64 (j : Int)) (by rfl) (by exact hl_2) (gives_value _ fun _ => by rfl) ?_
      refine L_val (.int .i64 ((j : Int) + 1)) (by rfl) (by exact hl_2) (gives_add (k := .i64) ((j : Int)) (1) ((j : Int) + 1) (by rfl) (by rfl) (IntWalk.i64_in _ (by omega))) ?_
      refine L_val (.int .i64 ((j : Int) + 1)) (by rfl) (by exact hl_2) (gives_value _ fun _ => by rfl) ?_
      refine L_end ?_
      intro w12 hw12
      change ∃ r' : Nat, r' < r_2 ∧ _
      refine ⟨_, ?_, j + 1, o2.set (i + j) ((gt o2 (i + j) + gt l0 i * gt l1 j + c) % 65536), (gt o2 (i + j) + gt l0 i * gt l1 j + c) / 65536, ((8, .int .i64 ((j : Int) + 1)) :: (27, .int .i64 ((j : Int) + 1)) :: (26, .int .i64 (j : Int)) :: (7, .int .u64 ((((gt o2 (i + j)) + ((gt l0 i) * (gt l1 j))) + c) / 65536)) :: (57, .int .u64 ((((gt o2 (i + j)) + ((gt l0 i) * (gt l1 j))) + c) / 65536)) :: (56, .int .u64 (((gt o2 (i + j)) + ((gt l0 i) * (gt l1 j))) + c)) :: (55, .pointer (some ⟨g, 0 + (i + j), none⟩)) :: (54, .int .u32 ((((gt o2 (i + j)) + ((gt l0 i) * (gt l1 j))) + c) % 65536)) :: (53, .int .u64 ((((gt o2 (i + j)) + ((gt l0 i) * (gt l1 j))) + c) % 65536)) :: (52, .int .u64 (((gt o2 (i + j)) + ((gt l0 i) * (gt l1 j))) + c)) :: (51, .int .i64 ((i : Int) + (j : Int))) :: (50, .int .i64 (j : Int)) :: (49, .int .i64 (i : Int)) :: (48, .slice (some ⟨g, 0, none⟩) (n0 + n1 + 1) (n0 + n1 + 1)) :: (9, .int .u64 (((gt o2 (i + j)) + ((gt l0 i) * (gt l1 j))) + c)) :: (47, .int .u64 (((gt o2 (i + j)) + ((gt l0 i) * (gt l1 j))) + c)) :: (46, .int .u64 c) :: (45, .int .u64 ((gt o2 (i + j)) + ((gt l0 i) * (gt l1 j)))) :: (44, .int .u64 ((gt l0 i) * (gt l1 j))) :: (43, .int .u64 (gt l1 j)) :: (42, .int .u32 (gt l1 j)) :: (41, .int .i64 (j : Int)) :: (40, .slice A1 n1 c1) :: (39, .int .u64 (gt l0 i)) :: (38, .int .u32 (gt l0 i)) :: (37, .pointer (some ⟨b0, o0 + (i), none⟩)) :: (36, .int .i64 (i : Int)) :: (35, .slice A0 n0 c0) :: (34, .int .u64 (gt o2 (i + j))) :: (33, .int .u32 (gt o2 (i + j))) :: (32, .pointer (some ⟨g, 0 + (i + j), none⟩)) :: (31, .int .i64 ((i : Int) + (j : Int))) :: (30, .int .i64 (j : Int)) :: (29, .int .i64 (i : Int)) :: (28, .slice (some ⟨g, 0, none⟩) (n0 + n1 + 1) (n0 + n1 + 1)) :: (25, .bool true) :: (24, .int .i64 (n1 : Int)) :: (23, .slice A1 n1 c1) :: (22, .int .i64 (j : Int)) :: (0, .slice A0 n0 c0) :: (1, .slice A1 n1 c1) :: (5, .slice (some ⟨g, 0, none⟩) (n0 + n1 + 1) (n0 + n1 + 1)) :: (6, .int .i64 (i : Int)) :: (7, .int .u64 c) :: (8, .int .i64 (j : Int)) :: (18, .int .i64 (n0 : Int)) :: (19, .int .i64 (i : Int)) :: l_2), rfl, (by exact hl_2), (Eq.trans (Eq.trans (Eq.trans (Eq.trans (Eq.trans (Eq.trans (Eq.trans (fr_dup _ _ 19 _ (by exact hl_2) (by rfl) (by rfl)).symm (fr_dup _ _ 18 _ (by exact hl_2) (by rfl) (by rfl)).symm) (fr_dup _ _ 8 _ (by exact hl_2) (by rfl) (by rfl)).symm) (fr_dup _ _ 7 _ (by exact hl_2) (by rfl) (by rfl)).symm) (fr_dup _ _ 6 _ (by exact hl_2) (by rfl) (by rfl)).symm) (fr_dup _ _ 5 _ (by exact hl_2) (by rfl) (by rfl)).symm) (fr_dup _ _ 1 _ (by exact hl_2) (by rfl) (by rfl)).symm) (fr_dup _ _ 0 _ (by exact hl_2) (by rfl) (by rfl)).symm), by omega, hW2.set _ _ (by omega) (by omega), by rw [List.length_set]; exact hlen2, by omega, times_step l0 l1 o2 i j c (by omega) hE _ rfl, (by rw [← ag32_set0]; exact hw12)⟩
      omega
    ·
      refine wp_seq ?_
      refine seq_plain hw0_2 [0, 1, 2, 3] (by rfl) ?_
      refine L_val (.int .i64 (j : Int)) (by rfl) (by exact hl_2) (gives_value _ fun _ => by rfl) ?_
      refine L_val (.slice A1 n1 c1) (by rfl) (by exact hl_2) (gives_value _ fun _ => by rfl) ?_
      refine L_val (.int .i64 (n1 : Int)) (by rfl) (by exact hl_2) (gives_len _ n1 c1 und_u32s (by rfl)) ?_
      refine L_val (.bool false) (by rfl) (by exact hl_2) (gives_leq (k := .i64) ((j : Int)) ((n1 : Int)) false (by rfl) (by rfl) (decide_eq_false (by omega))) ?_
      refine L_end ?_
      intro w13 hw13
      refine wp_cond_false (fr_at _ _ (by exact hl_2) _) ?_
      refine wp_exit ?_
      have hjN : j = n1 + 1 := by omega
      change Code.wp _ _ _ _ _
      change Code.wp _ _ _ _ _
      refine one_plain hw13 [0, 1] (by rfl) ?_
      refine L_val (.int .i64 ((i : Int) + 1)) (by rfl) (by exact hl_2) (gives_add (k := .i64) ((i : Int)) (1) ((i : Int) + 1) (by rfl) (by rfl) (IntWalk.i64_in _ (by omega))) ?_
      refine L_val (.int .i64 ((i : Int) + 1)) (by rfl) (by exact hl_2) (gives_value _ fun _ => by rfl) ?_
      refine L_end ?_
      intro w14 hw14
      change ∃ r' : Nat, r' < r_1 ∧ _
      refine ⟨_, ?_, i + 1, g, o2, ((19, .int .i64 ((i : Int) + 1)) :: (58, .int .i64 ((i : Int) + 1)) :: (25, .bool false) :: (24, .int .i64 (n1 : Int)) :: (23, .slice A1 n1 c1) :: (22, .int .i64 (j : Int)) :: (0, .slice A0 n0 c0) :: (1, .slice A1 n1 c1) :: (5, .slice (some ⟨g, 0, none⟩) (n0 + n1 + 1) (n0 + n1 + 1)) :: (6, .int .i64 (i : Int)) :: (7, .int .u64 c) :: (8, .int .i64 (j : Int)) :: (18, .int .i64 (n0 : Int)) :: (19, .int .i64 (i : Int)) :: l_2), rfl, (by exact hl_2), (Eq.trans (Eq.trans (Eq.trans (Eq.trans (fr_dup _ _ 19 _ (by exact hl_2) (by rfl) (by rfl)).symm (fr_dup _ _ 18 _ (by exact hl_2) (by rfl) (by rfl)).symm) (fr_dup _ _ 5 _ (by exact hl_2) (by rfl) (by rfl)).symm) (fr_dup _ _ 1 _ (by exact hl_2) (by rfl) (by rfl)).symm) (fr_dup _ _ 0 _ (by exact hl_2) (by rfl) (by rfl)).symm), by omega, hW2, hlen2, times_end l0 l1 o2 i n1 c ho0 ho1 hW2 hn1 hc.1 (hjN ▸ hE), hw14⟩
      omega
  ·
    refine seq_plain hw0_1 [0] (by rfl) ?_
    refine L_val (.bool false) (by rfl) (by exact hl_1) (gives_lss (k := .i64) ((i : Int)) ((n0 : Int)) false (by rfl) (by rfl) (decide_eq_false (by omega))) ?_
    refine L_end ?_
    intro w15 hw15
    refine wp_seq ?_
    refine wp_cond_false (fr_at _ _ (by exact hl_1) _) ?_
    refine wp_exit ?_
    have hkN : i = n0 := by omega
    change Code.wp _ _ _ _ _
    change Code.wp _ _ _ _ _
    refine seq_plain hw15 [0, 1] (by rfl) ?_
    refine L_val (.slice (some ⟨g, 0, none⟩) (n0 + n1 + 1) (n0 + n1 + 1)) (by rfl) (by exact hl_1) (gives_value _ fun _ => by rfl) ?_
    refine L_val (.slice (some ⟨g, 0, none⟩) (n0 + n1 + 1) (n0 + n1 + 1)) (by rfl) (by exact hl_1) (gives_value _ fun _ => by rfl) ?_
    refine L_end ?_
    intro w16 hw16
    subst hkN
    refine wp_ret ?_
    change bodyPost _ _ _ Exit.ret _ _
    refine (ret_tmp (by rfl) (by exact hl_1) (by rfl) ⟨g, _, ag32 o, rfl, (by have hq : o = wl (va l0 * va l1) (i + n1 + 1) := by {rw [← hlen, va_vg l0 i (by omega), ← hv]; exact (wl_va o hW).symm}; rw [hq]; exact WB.of _ _ (by omega)), hw16.ge 0 (by rfl), hw16.blk 0 (by rfl), hw16.below⟩)
end Go.Proofs.YtialfoccalobpaaDoor

/-! ## R3N -/
namespace Go.Proofs.YtialfoccalobpaaDoor
set_option linter.unusedSimpArgs false
set_option linter.unusedVariables false
open Go.RowKit
section
variable {P : Program} {S : World → Prop} {l : List (Nat × Value)} {dst : Option Nat} {x y : Operand} {t ty : TypeId} {pos : String} {after : Array Edge} {gd : Option (Nat × Bool)}
theorem gives_slice_to {e : TypeId} {k : IntKind} (g m c j : Nat) (i : Int) (hx : rho l x = .slice (some ⟨g, 0, none⟩) m c) (hy : rho l y = .int k i) (ht : P.underlying t = some (.slice e)) (hs : (P.info? e).map (·.size) = some 1) (h0 : i = (j : Int)) (h1 : j ≤ c) :
    Gives P S (.slice (some ⟨g, 0, none⟩) j c) (execOp (rho l) ⟨dst, .slice t x none (some y) none, ty, pos, after, gd⟩) := gives_value _ fun w => by
  subst h0
  obtain ⟨ie, he, hz⟩ := Option.map_eq_some_iff.1 hs
  simp [execOp, hx, hy, Instr.sliceAt, Instr.slice, Instr.sliceBounds, Instr.sliceBound, run_underlying ht, asIntOf, sizeOf, typeInfo, he, hz, h1, add_plain]
end
/-- Words lie at the front of a block. -/
structure W2 (cs : Array Value) (cap m : Nat) (l : List Int) : Prop where
  size : cs.size = cap
  le : m ≤ cap
  cap : cap ≤ 9223372036854775807
  len : l.length = m
  words : cs.toList.take m = l.map (Value.int .u32)
theorem WB.two {cs : Array Value} {cap m : Nat} {val : Int} (h : WB cs cap m val) : W2 cs cap m (wl val m) := ⟨h.size, h.le, h.cap, wl_len _ _, h.words⟩
theorem W2.wb {cs : Array Value} {cap m : Nat} {l : List Int} (h : W2 cs cap m l) (hl : W16 l) : WB cs cap m (va l) :=
  ⟨h.size, h.le, h.cap, by rw [h.words, ← h.len, wl_va l hl]⟩
theorem W2.at_ {cs : Array Value} {cap m : Nat} {l : List Int} (h : W2 cs cap m l) (i : Nat) (hi : i < m) : cs[0 + i]? = some (Value.int .u32 (gt l i)) := by
  have h1 : cs.toList[i]? = (l.map (Value.int .u32))[i]? := by rw [← h.words, List.getElem?_take_of_lt hi]
  have h2 : i < l.length := by rw [h.len]; exact hi
  rw [Nat.zero_add, ← Array.getElem?_toList, h1]
  simp [gt, h2]
theorem W2.set {cs : Array Value} {cap m : Nat} {l : List Int} (h : W2 cs cap m l) (i : Nat) (d : Int) : W2 (cs.setIfInBounds (0 + i) (.int .u32 d)) cap m (l.set i d) :=
  ⟨by simp [h.size], h.le, h.cap, by rw [List.length_set, h.len], by rw [Nat.zero_add, Array.toList_setIfInBounds, List.take_set, h.words, List.map_set]⟩
theorem W2.reads {w : World} {g cap m : Nat} {e : TypeId} {cs : Array Value} {l : List Int} (h : W2 cs cap m l) (hB : Blk w g e cs) : Reads w w.heap.size (some ⟨g, 0, none⟩) m (l.map (Value.int .u32)) := by
  have := hB.reads hB.lt 0 m (by rw [h.size, Nat.zero_add]; exact h.le)
  rwa [List.drop_zero, h.words] at this
theorem WB.init {cs : Array Value} {cap m : Nat} {val : Int} (h : WB cs cap (m + 1) val) : WB cs cap m val :=
  ⟨h.size, by have := h.le; omega, h.cap, by
    have h1 : cs.toList.take m = (cs.toList.take (m + 1)).take m := by rw [List.take_take, Nat.min_eq_left (by omega)]
    rw [h1, h.words, wl_snoc, List.map_append, List.take_append_of_le_length (by simp [wl_len]), List.take_of_length_le (by simp [wl_len])]⟩
/-- A call that returns words in new memory. -/
theorem L_freshW {v : World} {n : Nat} {sl : List (Nat × Value)} {L : List (Nat × TypeId × Array Value)} {ops : Array Oper} {R : Act → World → Prop} {i d : Nat} {l : List Nat} {f : FuncId} {args : Array Operand} {ats : Array TypeId} {ty : TypeId} {pos : String} {after : Array Edge} {vl : List Value} (m : Nat) (val : Int)
    (hi : ops[i]? = some ⟨some d, .call { callee := .value (.func f), args := args, argTypes := ats }, ty, pos, after, none⟩) (hl : inFr n sl = true) (hf : (Tryd.prog.funcs[f]?).map (fun fn => (fn.name == "runtime.NumGoroutine", fn.body.isNone)) = some (false, false))
    (ha : args.toList.map (rho sl) = vl) (hc : ∀ w, Hbl v L w → RetsW f vl.toArray w m val)
    (h : ∀ g cap cs, WB cs cap m val → wpL Tryd.prog ops R l (fr n ((d, .slice (some ⟨g, 0, none⟩) m cap) :: sl)) (Hbl v ((g, 100, cs) :: L))) : wpL Tryd.prog ops R (i :: l) (fr n sl) (Hbl v L) := fun w hS => by
  unfold Go.wpOp
  simp only [hi]
  have hw : Region.wanted ⟨some d, .call { callee := .value (.func f), args := args, argTypes := ats }, ty, pos, after, none⟩ (yielded ops (fr n sl).tmps) = true := rfl
  simp only [hw, if_true]
  refine .inl ?_
  unfold Oper.wp
  have hrun : (execOp (fr n sl).eval ⟨some d, .call { callee := .value (.func f), args := args, argTypes := ats }, ty, pos, after, none⟩).run Tryd.prog w = .ok (.enter f vl.toArray) w := by
    rw [fr_eval n sl hl]
    obtain ⟨fn, h1, h2⟩ := Option.map_eq_some_iff.1 hf
    simp only [Prod.mk.injEq, beq_eq_false_iff_ne, ne_eq, Option.isNone_eq_false_iff] at h2
    have h3 : fn.body ≠ none := by intro e; simp [e] at h2
    have ha : args.map (rho sl) = vl.toArray := by rw [← ha, ← Array.toList_map, Array.toArray_toList]
    simp [execOp, resolve, rho, Deferred.ofValue, invoke, ha, callFunc, h1, h2.1, h3]
  rw [hrun]
  refine Calls.mono (hc w hS) fun e w' he => ?_
  obtain ⟨g, cap, cs, rfl, hwb, hg, hb, hbel⟩ := he
  exact ⟨_, Hbl.stays v _, hS.fresh hbel hg hb, h g cap cs hwb⟩
theorem r3_less_t (w : World) (A : Option Addr) (n c : Nat) (l : List Int) (A2 : Option Addr) (n2 c2 : Nat) (l2 : List Int) (hr : Reads w w.heap.size A n (l.map (Value.int .u32))) (hr2 : Reads w w.heap.size A2 n2 (l2.map (Value.int .u32))) (ho : W16 l) (ho2 : W16 l2) (hn : n ≤ 1099511627776) (hn2 : n2 ≤ 1099511627776) (r : Bool) (h : decide (va l < va l2) = r) :
    Calls Tryd.prog 57 #[.slice A n c, .slice A2 n2 c2] w fun e w' => e = .returned (.bool r) ∧ Below w.heap.size w w' := h ▸ r3_less w A n c l A2 n2 c2 l2 hr hr2 ho ho2 hn hn2
/-! ### Bits -/
theorem va_bit (l : List Int) (h : W16 l) (i : Nat) : gt l (i / 16) / 2 ^ (i % 16) % 2 = va l / 2 ^ i % 2 := by
  have hw := va_word l h (i / 16)
  have e : (2 : Int) ^ i = 65536 ^ (i / 16) * 2 ^ (i % 16) := by
    rw [show (65536 : Int) = 2 ^ 16 from rfl, ← Int.pow_mul, ← Int.pow_add, Nat.div_add_mod]
  have hp : (0 : Int) ≤ 65536 ^ (i / 16) := Int.le_of_lt (bp _)
  rw [e, edd _ _ _ hp]
  generalize va l / 65536 ^ (i / 16) = V at *
  rw [← hw]
  have hs : i % 16 < 16 := Nat.mod_lt _ (by omega)
  generalize i % 16 = s at *
  rcases (by omega : s = 0 ∨ s = 1 ∨ s = 2 ∨ s = 3 ∨ s = 4 ∨ s = 5 ∨ s = 6 ∨ s = 7 ∨ s = 8 ∨ s = 9 ∨ s = 10 ∨ s = 11 ∨ s = 12 ∨ s = 13 ∨ s = 14 ∨ s = 15) with h | h | h | h | h | h | h | h | h | h | h | h | h | h | h | h <;> subst h <;> simp <;> omega
theorem and_one32 (a : Int) (h0 : 0 ≤ a) (h : a < 4294967296) : IntKind.u32.wrap (((a % 2 ^ IntKind.u32.bits).toNat &&& ((1 : Int) % 2 ^ IntKind.u32.bits).toNat : Nat) : Int) = a % 2 := by
  have e1 : (2 : Int) ^ IntKind.u32.bits = 4294967296 := by decide
  have e2 : ((1 : Int) % 4294967296).toNat = 2 ^ 1 - 1 := by decide
  rw [e1, e2, Nat.and_two_pow_sub_one_eq_mod, Int.emod_eq_of_lt h0 h]
  have e3 : ((a.toNat % 2 ^ 1 : Nat) : Int) = a % 2 := by omega
  rw [e3]
  exact w32 _ (by omega) (by omega)
theorem shr_bit (a : Int) (r : Nat) (q : Int) (hr : 0 < r) (h0 : 0 ≤ a) (hq : q = a / 2 ^ ((r - 1) % 16)) : a.fdiv (2 ^ (min (((r : Int) - 1) % 16).toNat IntKind.u32.bits)) = q := by
  have e1 : (((r : Int) - 1) % 16).toNat = (r - 1) % 16 := by omega
  have e2 : min ((r - 1) % 16) IntKind.u32.bits = (r - 1) % 16 := Nat.min_eq_left (by show (r - 1) % 16 ≤ 32; omega)
  rw [e1, e2, hq, Int.fdiv_eq_ediv_of_nonneg _ (Int.le_of_lt (Int.pow_pos (by omega)))]
theorem shl_one (a : Int) (h0 : 0 ≤ a) (h : a < 65536) : IntKind.u32.wrap (a * 2 ^ (min (1 : Int).toNat IntKind.u32.bits)) = 2 * a := by
  have e : (2 : Int) ^ (min (1 : Int).toNat IntKind.u32.bits) = 2 := by decide
  rw [e, w32 _ (by omega) (by omega)]
  omega
theorem or_bit (a c : Int) (h0 : 0 ≤ a) (h : a < 65536) (c0 : 0 ≤ c) (c1 : c ≤ 1) : IntKind.u32.wrap ((((2 * a) % 2 ^ IntKind.u32.bits).toNat ||| (c % 2 ^ IntKind.u32.bits).toNat : Nat) : Int) = 2 * a + c := by
  have := or_low c a 1 c0 (by simp; omega) h0 (by simp; omega) (by omega) (by simp; omega)
  rw [Nat.or_comm, show 2 * a = a * 2 ^ 1 by simp; omega, this]
  omega
theorem div_lo (a : Int) (s : Nat) (h0 : 0 ≤ a) (h : a < 65536) : 0 ≤ a / 2 ^ s ∧ a / 2 ^ s < 65536 := by
  have hp : (0 : Int) < 2 ^ s := Int.pow_pos (by omega)
  exact ⟨Int.ediv_nonneg h0 (Int.le_of_lt hp), Int.lt_of_le_of_lt (Int.ediv_le_self _ h0) h⟩
/-! ### Remainders, bit by bit -/
theorem mod_next (A M b : Int) (r : Nat) (hr : 0 < r) (hb : b = A / 2 ^ (r - 1) % 2) : A / 2 ^ (r - 1) % M = (2 * (A / 2 ^ r % M) + b) % M := by
  obtain ⟨i, rfl⟩ : ∃ i, r = i + 1 := ⟨r - 1, by omega⟩
  have e : A / 2 ^ (i + 1) = A / 2 ^ i / 2 := by rw [Int.pow_succ, edd _ _ _ (Int.le_of_lt (Int.pow_pos (by omega)))]
  rw [e]
  simp only [Nat.add_sub_cancel] at *
  generalize A / 2 ^ i = Q at *
  have e1 := Int.emod_add_mul_ediv (Q / 2) M
  have e2 : Q = 2 * (Q / 2 % M) + b + M * (2 * (Q / 2 / M)) := by
    have : Q = 2 * (Q / 2) + b := by omega
    rw [← Int.mul_assoc, Int.mul_comm M 2, Int.mul_assoc]
    omega
  have e3 := Int.add_mul_emod_self_left (2 * (Q / 2 % M) + b) M (2 * (Q / 2 / M))
  rw [← e2] at e3
  exact e3
theorem mod_start (l : List Int) (h : W16 l) (n : Nat) (hn : l.length = n) (M : Int) : va l / 2 ^ (16 * n) % M = 0 := by
  have h1 := va_lt l h
  rw [hn, show (65536 : Int) = 2 ^ 16 from rfl, ← Int.pow_mul] at h1
  rw [Int.ediv_eq_zero_of_lt h1.1 h1.2, Int.zero_emod]
theorem mod_three (r : Nat) (s M : Int) : (0 < r ∧ s < M) ∨ (0 < r ∧ ¬ s < M) ∨ r = 0 := by omega
/-- A round of the inner loop; its end. -/
theorem dbl_step (o lr : List Int) (j : Nat) (c b s : Int) (hj : j < o.length) (hE : va o + 65536 ^ j * c = va lr + vg (gt lr) j + b) (hT : ∀ t, j ≤ t → gt o t = gt lr t) (hs : s = 2 * gt o j + c) :
    va (o.set j (s % 65536)) + 65536 ^ (j + 1) * (s / 65536) = va lr + vg (gt lr) (j + 1) + b := by
  have e1 := Int.emod_add_mul_ediv s 65536
  have e2 := hT j (Nat.le_refl _)
  rw [va_set _ _ _ hj, vg, ← e2, Int.pow_succ]
  have e3 : s % 65536 = s - 65536 * (s / 65536) := by omega
  rw [e3, hs]
  grind
theorem set_top (o lr : List Int) (j : Nat) (d : Int) (hT : ∀ t, j ≤ t → gt o t = gt lr t) : ∀ t, j + 1 ≤ t → gt (o.set j d) t = gt lr t := fun t ht => by
  have h1 := hT t (by omega)
  rw [← h1]
  simp only [gt, List.getD_eq_getElem?_getD, List.getElem?_set_ne (show j ≠ t by omega)]
theorem dbl_end (o : List Int) (R b c M : Int) (n1 : Nat) (hW : W16 o) (hlen : o.length = n1 + 1) (h0 : 0 ≤ R) (hM : R < M) (hM1 : M < 65536 ^ n1) (hb : 0 ≤ b ∧ b ≤ 1) (c0 : 0 ≤ c) (hE : va o + 65536 ^ (n1 + 1) * c = va (wl R (n1 + 1)) + vg (gt (wl R (n1 + 1))) (n1 + 1) + b) :
    va o = 2 * R + b := by
  have hp := bp n1
  have e1 : (65536 : Int) ^ (n1 + 1) = 65536 * 65536 ^ n1 := by rw [Int.pow_succ, Int.mul_comm]
  have e2 : va (wl R (n1 + 1)) = R := va_wl R (n1 + 1) h0 (by rw [e1]; omega)
  have e3 : vg (gt (wl R (n1 + 1))) (n1 + 1) = R := by rw [← va_vg _ _ (by rw [wl_len]; omega), e2]
  rw [e2, e3] at hE
  have h1 := va_lt o hW
  rw [hlen] at h1
  have hc : c = 0 := by
    rcases Int.lt_or_le c 1 with h | h
    · omega
    · have h2 : (65536 : Int) ^ (n1 + 1) * 1 ≤ 65536 ^ (n1 + 1) * c := Int.mul_le_mul_of_nonneg_left h (Int.le_of_lt (bp _))
      rw [e1] at h2 hE
      omega
  rw [hc, Int.mul_zero] at hE
  omega
theorem WB.val {cs : Array Value} {cap m : Nat} {a b : Int} (h : WB cs cap m a) (e : a = b) : WB cs cap m b := e ▸ h
theorem mod_stay (A M b q s : Int) (r : Nat) (hr : 0 < r) (hb : b = A / 2 ^ (r - 1) % 2) (h0 : 0 ≤ 2 * (A / 2 ^ r % M) + b) (hlt : 2 * (A / 2 ^ r % M) + b < M) (hs : s = 2 * (A / 2 ^ r % M) + b) : s = A / 2 ^ (r - 1) % M := by
  rw [mod_next A M b r hr hb, hs, Int.emod_eq_of_lt h0 hlt]
theorem mod_take (A M b q s : Int) (r : Nat) (hr : 0 < r) (hM : 0 < M) (hb1 : b ≤ 1) (hb : b = A / 2 ^ (r - 1) % 2) (hlt : ¬ 2 * (A / 2 ^ r % M) + b < M) (hs : s = 2 * (A / 2 ^ r % M) + b) : s - M = A / 2 ^ (r - 1) % M := by
  have h1 := Int.emod_lt_of_pos (A / 2 ^ r) hM
  rw [mod_next A M b r hr hb, hs]
  generalize A / 2 ^ r % M = R at *
  have h2 := Int.sub_emod_right (2 * R + b) M
  rw [← h2, Int.emod_eq_of_lt (by omega) (by omega)]
attribute [local irreducible] wpL wpF fr Code.wp bodyPost
set_option maxRecDepth 100000 in
set_option maxHeartbeats 4000000 in
theorem r3_mod (A0 : Option Addr) (n0 c0 : Nat) (l0 : List Int) (A1 : Option Addr) (n1 c1 : Nat) (l1 : List Int) (v : World) (hr0_ : Reads v v.heap.size A0 n0 (l0.map (Value.int .u32))) (ho0 : W16 l0) (hb0 : n0 ≤ 1099511627776) (hr1 : Reads v v.heap.size A1 n1 (l1.map (Value.int .u32))) (ho1 : W16 l1) (hb1 : n1 ≤ 1099511627776) (hM : 0 < va l1) (hM1 : va l1 < 65536 ^ n1) (hn2 : n1 < 1099511627776) : RetsW 16 #[.slice A0 n0 c0, .slice A1 n1 c1] v n1 (va l0 % va l1) := by
  have hn0 : l0.length = n0 := by simpa using hr0_.1
  refine calls_fr2 Tryd.func16 rfl (by rfl : _ = 63) (by rfl) ?_
  have hw := Hbl.nil v
  refine seq_plain hw [0] (by rfl) ?_
  refine L_val (.slice none 0 0) (by rfl) (by rfl) (gives_value _ fun _ => by rfl) ?_
  refine L_end ?_
  intro w1 hw1
  refine seq_plain hw1 [0, 1, 2, 3, 4] (by rfl) ?_
  refine L_val (.slice A1 n1 c1) (by rfl) (by rfl) (gives_value _ fun _ => by rfl) ?_
  refine L_val (.int .i64 (n1 : Int)) (by rfl) (by rfl) (gives_len _ n1 c1 und_u32s (by rfl)) ?_
  refine L_val (.int .i64 ((n1 : Int) + 1)) (by rfl) (by rfl) (gives_add (k := .i64) ((n1 : Int)) (1) ((n1 : Int) + 1) (by rfl) (by rfl) (IntWalk.i64_in _ (by omega))) ?_
  refine L_make (n1 + 1) (.int .u32 0) 4 (by rfl) (by rfl) und_u32s u32_all rfl (by exact congrArg (Value.int .i64) (by omega : ((n1 : Int) + 1) = ((n1 + 1 : Nat) : Int))) (by exact congrArg (Value.int .i64) (by omega : ((n1 : Int) + 1) = ((n1 + 1 : Nat) : Int))) (by omega) (by omega) ?_; intro g1
  refine L_val (.slice (some ⟨g1, 0, none⟩) (n1 + 1) (n1 + 1)) (by rfl) (by rfl) (gives_value _ fun _ => by rfl) ?_
  refine L_end ?_
  intro w2 hw2
  refine wp_seq ?_
  refine seq_plain hw2 [0, 1, 2, 3, 4] (by rfl) ?_
  refine L_val (.slice A0 n0 c0) (by rfl) (by rfl) (gives_value _ fun _ => by rfl) ?_
  refine L_val (.int .i64 (n0 : Int)) (by rfl) (by rfl) (gives_len _ n0 c0 und_u32s (by rfl)) ?_
  refine L_val (.int .i64 (16 * (n0 : Int))) (by rfl) (by rfl) (gives_mul (k := .i64) (16) ((n0 : Int)) (16 * (n0 : Int)) (by rfl) (by rfl) (IntWalk.i64_in _ (by omega))) ?_
  refine L_val (.int .i64 ((16 * (n0 : Int)) - 1)) (by rfl) (by rfl) (gives_sub (k := .i64) (16 * (n0 : Int)) (1) ((16 * (n0 : Int)) - 1) (by rfl) (by rfl) (IntWalk.i64_in _ (by omega))) ?_
  refine L_val (.int .i64 ((16 * (n0 : Int)) - 1)) (by rfl) (by rfl) (gives_value _ fun _ => by rfl) ?_
  refine L_end ?_
  intro w3 hw3
  refine wp_block ?_
  refine loop_down (fun (r_ : Nat) a w => ∃ (r : Nat) (g : Nat) (cap : Nat) (cs : Array Value) (l_1 : List (Nat × Value)), r = r_ ∧ inFr 63 l_1 = true ∧ a = fr 63 ((0, .slice A0 n0 c0) :: (1, .slice A1 n1 c1) :: (5, .slice (some ⟨g, 0, none⟩) (n1 + 1) cap) :: (6, .int .i64 ((r : Int) - 1)) :: l_1) ∧ (r ≤ 16 * n0) ∧ (WB cs cap (n1 + 1) (va l0 / 2 ^ r % va l1)) ∧ Hbl v [(g, 100, cs)] w) ?_ _ _ _ ⟨16 * n0, g1, n1 + 1, Array.replicate (n1 + 1) (.int .u32 0), [(6, .int .i64 ((16 * (n0 : Int)) - 1)), (17, .int .i64 ((16 * (n0 : Int)) - 1)), (16, .int .i64 (16 * (n0 : Int))), (15, .int .i64 (n0 : Int)), (14, .slice A0 n0 c0), (5, .slice (some ⟨g1, 0, none⟩) (n1 + 1) (n1 + 1)), (13, .slice (some ⟨g1, 0, none⟩) (n1 + 1) (n1 + 1)), (12, .int .i64 ((n1 : Int) + 1)), (11, .int .i64 (n1 : Int)), (10, .slice A1 n1 c1), (4, .slice none 0 0), (1, .slice A1 n1 c1), (0, .slice A0 n0 c0)], rfl, (by rfl), (Eq.trans (Eq.trans (Eq.trans (fr_dup _ _ 6 _ (by rfl) (by rfl) (by exact (congrArg (Value.int .i64) (by omega)))).symm (fr_dup _ _ 5 _ (by rfl) (by rfl) (by rfl)).symm) (fr_dup _ _ 1 _ (by rfl) (by rfl) (by rfl)).symm) (fr_dup _ _ 0 _ (by rfl) (by rfl) (by rfl)).symm), Nat.le_refl _, (by rw [mod_start l0 ho0 n0 hn0, ag32_zero]; exact WB.of _ _ (by omega)), hw3⟩
  rintro r_1 a0 w0_1 ⟨r, g, cap, cs, l_1, hr_1, hl_1, rfl, hk, hwb, hw0_1⟩
  rcases mod_three r (2 * (va l0 / 2 ^ r % va l1) + (gt l0 ((r - 1) / 16) / 2 ^ ((r - 1) % 16) % 2)) (va l1) with hlt | hlt | hlt
  ·
    obtain ⟨hr0, hs⟩ := hlt
    obtain ⟨q, hqd⟩ : ∃ q, q = gt l0 ((r - 1) / 16) / 2 ^ ((r - 1) % 16) := ⟨_, rfl⟩
    have hqb : 0 ≤ q ∧ q < 65536 := hqd ▸ div_lo _ _ (ho0.at_ _).1 (ho0.at_ _).2
    have hbit : q % 2 = va l0 / 2 ^ (r - 1) % 2 := hqd ▸ va_bit l0 ho0 (r - 1)
    rw [← hqd] at hs
    have hR : 0 ≤ (va l0 / 2 ^ r % va l1) ∧ (va l0 / 2 ^ r % va l1) < va l1 := ⟨Int.emod_nonneg _ (by omega), Int.emod_lt_of_pos _ hM⟩
    obtain ⟨b0, o0, hA0, hq0, hce0⟩ := reads_cell hr0_ (show (r - 1) / 16 < n0 by omega)
    refine wp_seq ?_
    refine seq_plain hw0_1 [0, 1] (by rfl) ?_
    refine L_val (.int .i64 ((r : Int) - 1)) (by rfl) (by exact hl_1) (gives_value _ fun _ => by rfl) ?_
    refine L_val (.bool true) (by rfl) (by exact hl_1) (gives_geq (k := .i64) ((r : Int) - 1) (0) true (by rfl) (by rfl) (decide_eq_true (by omega))) ?_
    refine L_end ?_
    intro w4 hw4
    refine wp_cond_true (fr_at _ _ (by exact hl_1) _) ?_
    refine wp_skip ?_
    change Code.wp _ _ _ _ _
    refine wp_seq ?_
    refine wp_block ?_
    refine seq_plain hw4 [0, 1, 2, 3, 4, 5, 6, 7, 8, 9, 10] (by rfl) ?_
    refine L_val (.slice A0 n0 c0) (by rfl) (by exact hl_1) (gives_value _ fun _ => by rfl) ?_
    refine L_val (.int .i64 ((r : Int) - 1)) (by rfl) (by exact hl_1) (gives_value _ fun _ => by rfl) ?_
    refine L_val (.int .i64 (((r : Int) - 1) / 16)) (by rfl) (by exact hl_1) (gives_quo (k := .i64) ((r : Int) - 1) (16) (((r : Int) - 1) / 16) (by rfl) (by rfl) (by omega) (IntWalk.i64_quo _ _ (by omega))) ?_
    refine L_val (.pointer (some ⟨b0, o0 + ((r - 1) / 16), none⟩)) (by rfl) (by exact hl_1) (gives_index_old A0 n0 c0 (((r : Int) - 1) / 16) ((r - 1) / 16) _ _ hA0 (by rfl) (by rfl) und_u32s u32_sz (by omega) (by omega)) ?_
    refine L_val (.int .u32 (gt l0 ((r - 1) / 16))) (by rfl) (by exact hl_1) (gives_load_old _ (.int .u32 (gt l0 ((r - 1) / 16))) (by rfl) (fun _ h => (h.below.cell (p := ⟨b0, _, none⟩) hq0).trans hce0) und_u32) ?_
    refine L_val (.int .i64 ((r : Int) - 1)) (by rfl) (by exact hl_1) (gives_value _ fun _ => by rfl) ?_
    refine L_val (.int .i64 (((r : Int) - 1) % 16)) (by rfl) (by exact hl_1) (gives_rem (k := .i64) ((r : Int) - 1) (16) (((r : Int) - 1) % 16) (by rfl) (by rfl) (by omega) (IntWalk.rem_in _ _ (by omega))) ?_
    refine L_val (.int .u64 (((r : Int) - 1) % 16)) (by rfl) (by exact hl_1) (gives_conv (k2 := .u64) (((r : Int) - 1) % 16) (((r : Int) - 1) % 16) (by rfl) und_int und_uint (IntWalk.u64_in _ (by omega))) ?_
    refine L_val (.int .u32 q) (by rfl) (by exact hl_1) (gives_shr (k := .u32) (k2 := .u64) (gt l0 ((r - 1) / 16)) (((r : Int) - 1) % 16) q (by rfl) (by rfl) (by omega) (shr_bit _ r q hr0 (ho0.at_ _).1 hqd)) ?_
    refine L_val (.int .u32 (q % 2)) (by rfl) (by exact hl_1) (gives_and (k := .u32) (q) 1 (q % 2) (by rfl) (by rfl) (and_one32 _ (by omega) (by omega))) ?_
    refine L_val (.int .u32 (q % 2)) (by rfl) (by exact hl_1) (gives_value _ fun _ => by rfl) ?_
    refine L_end ?_
    intro w5 hw5
    refine wp_seq ?_
    refine seq_plain hw5 [0, 1, 2] (by rfl) ?_
    refine L_val (.slice (some ⟨g, 0, none⟩) (n1 + 1) cap) (by rfl) (by exact hl_1) (gives_value _ fun _ => by rfl) ?_
    refine L_val (.int .i64 (((n1 + 1) : Nat) : Int)) (by rfl) (by exact hl_1) (gives_len _ (n1 + 1) cap und_u32s (by rfl)) ?_
    refine L_val (.int .i64 0) (by rfl) (by exact hl_1) (gives_value _ fun _ => by rfl) ?_
    refine L_end ?_
    intro w6 hw6
    refine wp_block ?_
    refine loop_down (fun (r_ : Nat) a w => ∃ (j : Nat) (o : List Int) (cs2 : Array Value) (c : Int) (l_2 : List (Nat × Value)), n1 + 1 - j = r_ ∧ inFr 63 l_2 = true ∧ a = fr 63 ((0, .slice A0 n0 c0) :: (1, .slice A1 n1 c1) :: (5, .slice (some ⟨g, 0, none⟩) (n1 + 1) cap) :: (6, .int .i64 ((r : Int) - 1)) :: (7, .int .u32 c) :: (33, .int .i64 ((n1 + 1 : Nat) : Int)) :: (34, .int .i64 (j : Int)) :: l_2) ∧ (j ≤ n1 + 1) ∧ (W2 cs2 cap (n1 + 1) o) ∧ (W16 o) ∧ (0 ≤ c ∧ c ≤ 1) ∧ (va o + 65536 ^ j * c = va (wl (va l0 / 2 ^ r % va l1) (n1 + 1)) + vg (gt (wl (va l0 / 2 ^ r % va l1) (n1 + 1))) j + q % 2) ∧ (∀ t, j ≤ t → gt o t = gt (wl (va l0 / 2 ^ r % va l1) (n1 + 1)) t) ∧ Hbl v [(g, 100, cs2)] w) ?_ _ _ _ ⟨0, wl (va l0 / 2 ^ r % va l1) (n1 + 1), cs, q % 2, ((34, .int .i64 0) :: (33, .int .i64 (((n1 + 1) : Nat) : Int)) :: (32, .slice (some ⟨g, 0, none⟩) (n1 + 1) cap) :: (7, .int .u32 (q % 2)) :: (31, .int .u32 (q % 2)) :: (30, .int .u32 q) :: (29, .int .u64 (((r : Int) - 1) % 16)) :: (28, .int .i64 (((r : Int) - 1) % 16)) :: (27, .int .i64 ((r : Int) - 1)) :: (26, .int .u32 (gt l0 ((r - 1) / 16))) :: (25, .pointer (some ⟨b0, o0 + ((r - 1) / 16), none⟩)) :: (24, .int .i64 (((r : Int) - 1) / 16)) :: (23, .int .i64 ((r : Int) - 1)) :: (22, .slice A0 n0 c0) :: (19, .bool true) :: (18, .int .i64 ((r : Int) - 1)) :: (0, .slice A0 n0 c0) :: (1, .slice A1 n1 c1) :: (5, .slice (some ⟨g, 0, none⟩) (n1 + 1) cap) :: (6, .int .i64 ((r : Int) - 1)) :: l_1), rfl, (by exact hl_1), (Eq.trans (Eq.trans (Eq.trans (Eq.trans (Eq.trans (Eq.trans (fr_dup _ _ 34 _ (by exact hl_1) (by rfl) (by rfl)).symm (fr_dup _ _ 33 _ (by exact hl_1) (by rfl) (by rfl)).symm) (fr_dup _ _ 7 _ (by exact hl_1) (by rfl) (by rfl)).symm) (fr_dup _ _ 6 _ (by exact hl_1) (by rfl) (by rfl)).symm) (fr_dup _ _ 5 _ (by exact hl_1) (by rfl) (by rfl)).symm) (fr_dup _ _ 1 _ (by exact hl_1) (by rfl) (by rfl)).symm) (fr_dup _ _ 0 _ (by exact hl_1) (by rfl) (by rfl)).symm), Nat.zero_le _, hwb.two, wl_w16 _ _, by omega, by simp [vg], fun _ _ => rfl, hw6⟩
    rintro r_2 a0 w0_2 ⟨j, o, cs2, c, l_2, hr_2, hl_2, rfl, hj, hq, hWo, hc, hE, hT, hw0_2⟩
    by_cases hlt2 : j < n1 + 1
    ·
      have b2 := hWo.at_ j
      refine seq_plain hw0_2 [0] (by rfl) ?_
      refine L_val (.bool true) (by rfl) (by exact hl_2) (gives_lss (k := .i64) ((j : Int)) (((n1 + 1 : Nat) : Int)) true (by rfl) (by rfl) (decide_eq_true (by omega))) ?_
      refine L_end ?_
      intro w7 hw7
      refine wp_seq ?_
      refine wp_cond_true (fr_at _ _ (by exact hl_2) _) ?_
      refine wp_skip ?_
      change Code.wp _ _ _ _ _
      refine wp_seq ?_
      refine wp_block ?_
      refine seq_plain hw7 [0, 1] (by rfl) ?_
      refine L_val (.int .i64 (j : Int)) (by rfl) (by exact hl_2) (gives_value _ fun _ => by rfl) ?_
      refine L_val (.int .i64 (j : Int)) (by rfl) (by exact hl_2) (gives_value _ fun _ => by rfl) ?_
      refine L_end ?_
      intro w8 hw8
      refine seq_plain hw8 [0, 1, 2, 3, 4, 5, 6, 7] (by rfl) ?_
      refine L_val (.slice (some ⟨g, 0, none⟩) (n1 + 1) cap) (by rfl) (by exact hl_2) (gives_value _ fun _ => by rfl) ?_
      refine L_val (.int .i64 (j : Int)) (by rfl) (by exact hl_2) (gives_value _ fun _ => by rfl) ?_
      refine L_val (.pointer (some ⟨g, 0 + (j), none⟩)) (by rfl) (by exact hl_2) (gives_index g 0 ((n1 + 1)) (cap) ((j : Int)) (j) (by rfl) (by rfl) und_u32s u32_sz rfl (by omega)) ?_
      refine L_val (.int .u32 (gt o j)) (by rfl) (by exact hl_2) (gives_load1 g (0 + (j)) _ cs2 (.int .u32 (gt o j)) (by rfl) (fun _ h => h.blk 0 (by rfl)) (hq.at_ j (by omega)) und_u32) ?_
      refine L_val (.int .u32 (2 * gt o j)) (by rfl) (by exact hl_2) (gives_shl (k := .u32) (k2 := .u64) (gt o j) 1 (2 * gt o j) (by rfl) (by rfl) (by omega) (shl_one _ b2.1 b2.2)) ?_
      refine L_val (.int .u32 c) (by rfl) (by exact hl_2) (gives_value _ fun _ => by rfl) ?_
      refine L_val (.int .u32 (2 * gt o j + c)) (by rfl) (by exact hl_2) (gives_or (k := .u32) (2 * gt o j) c (2 * gt o j + c) (by rfl) (by rfl) (or_bit _ _ b2.1 b2.2 hc.1 hc.2)) ?_
      refine L_val (.int .u32 (2 * gt o j + c)) (by rfl) (by exact hl_2) (gives_value _ fun _ => by rfl) ?_
      refine L_end ?_
      intro w9 hw9
      refine seq_plain hw9 [0, 1, 2, 3, 4, 5] (by rfl) ?_
      refine L_val (.slice (some ⟨g, 0, none⟩) (n1 + 1) cap) (by rfl) (by exact hl_2) (gives_value _ fun _ => by rfl) ?_
      refine L_val (.int .i64 (j : Int)) (by rfl) (by exact hl_2) (gives_value _ fun _ => by rfl) ?_
      refine L_val (.int .u32 (2 * gt o j + c)) (by rfl) (by exact hl_2) (gives_value _ fun _ => by rfl) ?_
      refine L_val (.int .u32 ((2 * gt o j + c) % 65536)) (by rfl) (by exact hl_2) (gives_and (k := .u32) (2 * gt o j + c) 65535 ((2 * gt o j + c) % 65536) (by rfl) (by rfl) (and_ffff _ (by omega) (by omega))) ?_
      refine L_val (.pointer (some ⟨g, 0 + (j), none⟩)) (by rfl) (by exact hl_2) (gives_index g 0 ((n1 + 1)) (cap) ((j : Int)) (j) (by rfl) (by rfl) und_u32s u32_sz rfl (by omega)) ?_
      refine L_store1 0 g (0 + (j)) _ cs2 (.int .u32 ((2 * gt o j + c) % 65536)) (by rfl) (by exact hl_2) (by rfl) (by rfl) rfl (by rfl) u32_sz (by have := hq.le; rw [hq.size]; omega) ?_
      simp only [List.set_cons_zero, List.set_cons_succ]
      refine L_end ?_
      intro w10 hw10
      refine one_plain hw10 [0, 1, 2] (by rfl) ?_
      refine L_val (.int .u32 (2 * gt o j + c)) (by rfl) (by exact hl_2) (gives_value _ fun _ => by rfl) ?_
      refine L_val (.int .u32 ((2 * gt o j + c) / 65536)) (by rfl) (by exact hl_2) (gives_shr (k := .u32) (k2 := .u64) (2 * gt o j + c) 16 ((2 * gt o j + c) / 65536) (by rfl) (by rfl) (by omega) (shr_16 _ (by omega))) ?_
      refine L_val (.int .u32 ((2 * gt o j + c) / 65536)) (by rfl) (by exact hl_2) (gives_value _ fun _ => by rfl) ?_
      refine L_end ?_
      intro w11 hw11
      change Code.wp _ _ _ _ _
      refine one_plain hw11 [0, 1] (by rfl) ?_
      refine L_val (.int .i64 ((j : Int) + 1)) (by rfl) (by exact hl_2) (gives_add (k := .i64) ((j : Int)) (1) ((j : Int) + 1) (by rfl) (by rfl) (IntWalk.i64_in _ (by omega))) ?_
      refine L_val (.int .i64 ((j : Int) + 1)) (by rfl) (by exact hl_2) (gives_value _ fun _ => by rfl) ?_
      refine L_end ?_
      intro w12 hw12
      change ∃ r' : Nat, r' < r_2 ∧ _
      refine ⟨_, ?_, j + 1, o.set j ((2 * gt o j + c) % 65536), (cs2.setIfInBounds (0 + (j)) (.int .u32 ((2 * gt o j + c) % 65536))), (2 * gt o j + c) / 65536, ((34, .int .i64 ((j : Int) + 1)) :: (51, .int .i64 ((j : Int) + 1)) :: (7, .int .u32 ((2 * gt o j + c) / 65536)) :: (50, .int .u32 ((2 * gt o j + c) / 65536)) :: (49, .int .u32 (2 * gt o j + c)) :: (48, .pointer (some ⟨g, 0 + (j), none⟩)) :: (47, .int .u32 ((2 * gt o j + c) % 65536)) :: (46, .int .u32 (2 * gt o j + c)) :: (45, .int .i64 (j : Int)) :: (44, .slice (some ⟨g, 0, none⟩) (n1 + 1) cap) :: (9, .int .u32 (2 * gt o j + c)) :: (43, .int .u32 (2 * gt o j + c)) :: (42, .int .u32 c) :: (41, .int .u32 (2 * gt o j)) :: (40, .int .u32 (gt o j)) :: (39, .pointer (some ⟨g, 0 + (j), none⟩)) :: (38, .int .i64 (j : Int)) :: (37, .slice (some ⟨g, 0, none⟩) (n1 + 1) cap) :: (8, .int .i64 (j : Int)) :: (36, .int .i64 (j : Int)) :: (35, .bool true) :: (0, .slice A0 n0 c0) :: (1, .slice A1 n1 c1) :: (5, .slice (some ⟨g, 0, none⟩) (n1 + 1) cap) :: (6, .int .i64 ((r : Int) - 1)) :: (7, .int .u32 c) :: (33, .int .i64 ((n1 + 1 : Nat) : Int)) :: (34, .int .i64 (j : Int)) :: l_2), rfl, (by exact hl_2), (Eq.trans (Eq.trans (Eq.trans (Eq.trans (Eq.trans (Eq.trans (fr_dup _ _ 34 _ (by exact hl_2) (by rfl) (by rfl)).symm (fr_dup _ _ 33 _ (by exact hl_2) (by rfl) (by rfl)).symm) (fr_dup _ _ 7 _ (by exact hl_2) (by rfl) (by rfl)).symm) (fr_dup _ _ 6 _ (by exact hl_2) (by rfl) (by rfl)).symm) (fr_dup _ _ 5 _ (by exact hl_2) (by rfl) (by rfl)).symm) (fr_dup _ _ 1 _ (by exact hl_2) (by rfl) (by rfl)).symm) (fr_dup _ _ 0 _ (by exact hl_2) (by rfl) (by rfl)).symm), by omega, hq.set j _, hWo.set _ _ (by omega) (by omega), by omega, dbl_step o _ j c _ _ (by rw [hq.len]; exact hlt2) hE hT rfl, set_top o _ j _ hT, hw12⟩
      omega
    ·
      refine seq_plain hw0_2 [0] (by rfl) ?_
      refine L_val (.bool false) (by rfl) (by exact hl_2) (gives_lss (k := .i64) ((j : Int)) (((n1 + 1 : Nat) : Int)) false (by rfl) (by rfl) (decide_eq_false (by omega))) ?_
      refine L_end ?_
      intro w13 hw13
      refine wp_seq ?_
      refine wp_cond_false (fr_at _ _ (by exact hl_2) _) ?_
      refine wp_exit ?_
      have hjN : j = n1 + 1 := by omega
      have hva := dbl_end o _ (q % 2) c (va l1) n1 hWo hq.len hR.1 hR.2 hM1 (by omega) hc.1 (hjN ▸ hE)
      change Code.wp _ _ _ _ _
      change Code.wp _ _ _ _ _
      refine seq_plain hw13 [0, 1, 2, 3] (by rfl) ?_
      refine L_val (.slice (some ⟨g, 0, none⟩) (n1 + 1) cap) (by rfl) (by exact hl_2) (gives_value _ fun _ => by rfl) ?_
      refine L_val (.slice A1 n1 c1) (by rfl) (by exact hl_2) (gives_value _ fun _ => by rfl) ?_
      refine L_val (.bool true) (by rfl) (by exact hl_2) (gives_call (vl := [.slice (some ⟨g, 0, none⟩) (n1 + 1) cap, .slice A1 n1 c1]) (by kernel_rfl) (by rfl) (fun w h => r3_less_t w _ (n1 + 1) cap o A1 n1 c1 l1 (hq.reads (h.blk 0 (by rfl))) ((hr1.below h.below).more h.below.size) hWo ho1 (by omega) hb1 true (decide_eq_true (by rw [hva]; omega)))) ?_
      refine L_val (.bool false) (by rfl) (by exact hl_2) (gives_value _ fun _ => by rfl) ?_
      refine L_end ?_
      intro w14 hw14
      refine wp_cond_false (fr_at _ _ (by exact hl_2) _) ?_
      refine wp_skip ?_
      change Code.wp _ _ _ _ _
      refine one_plain hw14 [0, 1, 2] (by rfl) ?_
      refine L_val (.int .i64 ((r : Int) - 1)) (by rfl) (by exact hl_2) (gives_value _ fun _ => by rfl) ?_
      refine L_val (.int .i64 (((r : Int) - 1) - 1)) (by rfl) (by exact hl_2) (gives_sub (k := .i64) ((r : Int) - 1) (1) (((r : Int) - 1) - 1) (by rfl) (by rfl) (IntWalk.i64_in _ (by omega))) ?_
      refine L_val (.int .i64 (((r : Int) - 1) - 1)) (by rfl) (by exact hl_2) (gives_value _ fun _ => by rfl) ?_
      refine L_end ?_
      intro w15 hw15
      change ∃ r' : Nat, r' < r_1 ∧ _
      refine ⟨_, ?_, r - 1, g, cap, cs2, ((6, .int .i64 (((r : Int) - 1) - 1)) :: (21, .int .i64 (((r : Int) - 1) - 1)) :: (20, .int .i64 ((r : Int) - 1)) :: (55, .bool false) :: (54, .bool true) :: (53, .slice A1 n1 c1) :: (52, .slice (some ⟨g, 0, none⟩) (n1 + 1) cap) :: (35, .bool false) :: (0, .slice A0 n0 c0) :: (1, .slice A1 n1 c1) :: (5, .slice (some ⟨g, 0, none⟩) (n1 + 1) cap) :: (6, .int .i64 ((r : Int) - 1)) :: (7, .int .u32 c) :: (33, .int .i64 ((n1 + 1 : Nat) : Int)) :: (34, .int .i64 (j : Int)) :: l_2), rfl, (by exact hl_2), (Eq.trans (Eq.trans (Eq.trans (fr_dup _ _ 6 _ (by exact hl_2) (by rfl) (by exact (congrArg (Value.int .i64) (by omega)))).symm (fr_dup _ _ 5 _ (by exact hl_2) (by rfl) (by rfl)).symm) (fr_dup _ _ 1 _ (by exact hl_2) (by rfl) (by rfl)).symm) (fr_dup _ _ 0 _ (by exact hl_2) (by rfl) (by rfl)).symm), by omega, (hq.wb hWo).val (mod_stay _ _ _ q _ r hr0 hbit (by omega) hs hva), hw15⟩
      omega
  ·
    obtain ⟨hr0, hs⟩ := hlt
    obtain ⟨q, hqd⟩ : ∃ q, q = gt l0 ((r - 1) / 16) / 2 ^ ((r - 1) % 16) := ⟨_, rfl⟩
    have hqb : 0 ≤ q ∧ q < 65536 := hqd ▸ div_lo _ _ (ho0.at_ _).1 (ho0.at_ _).2
    have hbit : q % 2 = va l0 / 2 ^ (r - 1) % 2 := hqd ▸ va_bit l0 ho0 (r - 1)
    rw [← hqd] at hs
    have hR : 0 ≤ (va l0 / 2 ^ r % va l1) ∧ (va l0 / 2 ^ r % va l1) < va l1 := ⟨Int.emod_nonneg _ (by omega), Int.emod_lt_of_pos _ hM⟩
    obtain ⟨b0, o0, hA0, hq0, hce0⟩ := reads_cell hr0_ (show (r - 1) / 16 < n0 by omega)
    refine wp_seq ?_
    refine seq_plain hw0_1 [0, 1] (by rfl) ?_
    refine L_val (.int .i64 ((r : Int) - 1)) (by rfl) (by exact hl_1) (gives_value _ fun _ => by rfl) ?_
    refine L_val (.bool true) (by rfl) (by exact hl_1) (gives_geq (k := .i64) ((r : Int) - 1) (0) true (by rfl) (by rfl) (decide_eq_true (by omega))) ?_
    refine L_end ?_
    intro w16 hw16
    refine wp_cond_true (fr_at _ _ (by exact hl_1) _) ?_
    refine wp_skip ?_
    change Code.wp _ _ _ _ _
    refine wp_seq ?_
    refine wp_block ?_
    refine seq_plain hw16 [0, 1, 2, 3, 4, 5, 6, 7, 8, 9, 10] (by rfl) ?_
    refine L_val (.slice A0 n0 c0) (by rfl) (by exact hl_1) (gives_value _ fun _ => by rfl) ?_
    refine L_val (.int .i64 ((r : Int) - 1)) (by rfl) (by exact hl_1) (gives_value _ fun _ => by rfl) ?_
    refine L_val (.int .i64 (((r : Int) - 1) / 16)) (by rfl) (by exact hl_1) (gives_quo (k := .i64) ((r : Int) - 1) (16) (((r : Int) - 1) / 16) (by rfl) (by rfl) (by omega) (IntWalk.i64_quo _ _ (by omega))) ?_
    refine L_val (.pointer (some ⟨b0, o0 + ((r - 1) / 16), none⟩)) (by rfl) (by exact hl_1) (gives_index_old A0 n0 c0 (((r : Int) - 1) / 16) ((r - 1) / 16) _ _ hA0 (by rfl) (by rfl) und_u32s u32_sz (by omega) (by omega)) ?_
    refine L_val (.int .u32 (gt l0 ((r - 1) / 16))) (by rfl) (by exact hl_1) (gives_load_old _ (.int .u32 (gt l0 ((r - 1) / 16))) (by rfl) (fun _ h => (h.below.cell (p := ⟨b0, _, none⟩) hq0).trans hce0) und_u32) ?_
    refine L_val (.int .i64 ((r : Int) - 1)) (by rfl) (by exact hl_1) (gives_value _ fun _ => by rfl) ?_
    refine L_val (.int .i64 (((r : Int) - 1) % 16)) (by rfl) (by exact hl_1) (gives_rem (k := .i64) ((r : Int) - 1) (16) (((r : Int) - 1) % 16) (by rfl) (by rfl) (by omega) (IntWalk.rem_in _ _ (by omega))) ?_
    refine L_val (.int .u64 (((r : Int) - 1) % 16)) (by rfl) (by exact hl_1) (gives_conv (k2 := .u64) (((r : Int) - 1) % 16) (((r : Int) - 1) % 16) (by rfl) und_int und_uint (IntWalk.u64_in _ (by omega))) ?_
    refine L_val (.int .u32 q) (by rfl) (by exact hl_1) (gives_shr (k := .u32) (k2 := .u64) (gt l0 ((r - 1) / 16)) (((r : Int) - 1) % 16) q (by rfl) (by rfl) (by omega) (shr_bit _ r q hr0 (ho0.at_ _).1 hqd)) ?_
    refine L_val (.int .u32 (q % 2)) (by rfl) (by exact hl_1) (gives_and (k := .u32) (q) 1 (q % 2) (by rfl) (by rfl) (and_one32 _ (by omega) (by omega))) ?_
    refine L_val (.int .u32 (q % 2)) (by rfl) (by exact hl_1) (gives_value _ fun _ => by rfl) ?_
    refine L_end ?_
    intro w17 hw17
    refine wp_seq ?_
    refine seq_plain hw17 [0, 1, 2] (by rfl) ?_
    refine L_val (.slice (some ⟨g, 0, none⟩) (n1 + 1) cap) (by rfl) (by exact hl_1) (gives_value _ fun _ => by rfl) ?_
    refine L_val (.int .i64 (((n1 + 1) : Nat) : Int)) (by rfl) (by exact hl_1) (gives_len _ (n1 + 1) cap und_u32s (by rfl)) ?_
    refine L_val (.int .i64 0) (by rfl) (by exact hl_1) (gives_value _ fun _ => by rfl) ?_
    refine L_end ?_
    intro w18 hw18
    refine wp_block ?_
    refine loop_down (fun (r_ : Nat) a w => ∃ (j : Nat) (o : List Int) (cs2 : Array Value) (c : Int) (l_3 : List (Nat × Value)), n1 + 1 - j = r_ ∧ inFr 63 l_3 = true ∧ a = fr 63 ((0, .slice A0 n0 c0) :: (1, .slice A1 n1 c1) :: (5, .slice (some ⟨g, 0, none⟩) (n1 + 1) cap) :: (6, .int .i64 ((r : Int) - 1)) :: (7, .int .u32 c) :: (33, .int .i64 ((n1 + 1 : Nat) : Int)) :: (34, .int .i64 (j : Int)) :: l_3) ∧ (j ≤ n1 + 1) ∧ (W2 cs2 cap (n1 + 1) o) ∧ (W16 o) ∧ (0 ≤ c ∧ c ≤ 1) ∧ (va o + 65536 ^ j * c = va (wl (va l0 / 2 ^ r % va l1) (n1 + 1)) + vg (gt (wl (va l0 / 2 ^ r % va l1) (n1 + 1))) j + q % 2) ∧ (∀ t, j ≤ t → gt o t = gt (wl (va l0 / 2 ^ r % va l1) (n1 + 1)) t) ∧ Hbl v [(g, 100, cs2)] w) ?_ _ _ _ ⟨0, wl (va l0 / 2 ^ r % va l1) (n1 + 1), cs, q % 2, ((34, .int .i64 0) :: (33, .int .i64 (((n1 + 1) : Nat) : Int)) :: (32, .slice (some ⟨g, 0, none⟩) (n1 + 1) cap) :: (7, .int .u32 (q % 2)) :: (31, .int .u32 (q % 2)) :: (30, .int .u32 q) :: (29, .int .u64 (((r : Int) - 1) % 16)) :: (28, .int .i64 (((r : Int) - 1) % 16)) :: (27, .int .i64 ((r : Int) - 1)) :: (26, .int .u32 (gt l0 ((r - 1) / 16))) :: (25, .pointer (some ⟨b0, o0 + ((r - 1) / 16), none⟩)) :: (24, .int .i64 (((r : Int) - 1) / 16)) :: (23, .int .i64 ((r : Int) - 1)) :: (22, .slice A0 n0 c0) :: (19, .bool true) :: (18, .int .i64 ((r : Int) - 1)) :: (0, .slice A0 n0 c0) :: (1, .slice A1 n1 c1) :: (5, .slice (some ⟨g, 0, none⟩) (n1 + 1) cap) :: (6, .int .i64 ((r : Int) - 1)) :: l_1), rfl, (by exact hl_1), (Eq.trans (Eq.trans (Eq.trans (Eq.trans (Eq.trans (Eq.trans (fr_dup _ _ 34 _ (by exact hl_1) (by rfl) (by rfl)).symm (fr_dup _ _ 33 _ (by exact hl_1) (by rfl) (by rfl)).symm) (fr_dup _ _ 7 _ (by exact hl_1) (by rfl) (by rfl)).symm) (fr_dup _ _ 6 _ (by exact hl_1) (by rfl) (by rfl)).symm) (fr_dup _ _ 5 _ (by exact hl_1) (by rfl) (by rfl)).symm) (fr_dup _ _ 1 _ (by exact hl_1) (by rfl) (by rfl)).symm) (fr_dup _ _ 0 _ (by exact hl_1) (by rfl) (by rfl)).symm), Nat.zero_le _, hwb.two, wl_w16 _ _, by omega, by simp [vg], fun _ _ => rfl, hw18⟩
    rintro r_3 a0 w0_3 ⟨j, o, cs2, c, l_3, hr_3, hl_3, rfl, hj, hq, hWo, hc, hE, hT, hw0_3⟩
    by_cases hlt2 : j < n1 + 1
    ·
      have b2 := hWo.at_ j
      refine seq_plain hw0_3 [0] (by rfl) ?_
      refine L_val (.bool true) (by rfl) (by exact hl_3) (gives_lss (k := .i64) ((j : Int)) (((n1 + 1 : Nat) : Int)) true (by rfl) (by rfl) (decide_eq_true (by omega))) ?_
      refine L_end ?_
      intro w19 hw19
      refine wp_seq ?_
      refine wp_cond_true (fr_at _ _ (by exact hl_3) _) ?_
      refine wp_skip ?_
      change Code.wp _ _ _ _ _
      refine wp_seq ?_
      refine wp_block ?_
      refine seq_plain hw19 [0, 1] (by rfl) ?_
      refine L_val (.int .i64 (j : Int)) (by rfl) (by exact hl_3) (gives_value _ fun _ => by rfl) ?_
      refine L_val (.int .i64 (j : Int)) (by rfl) (by exact hl_3) (gives_value _ fun _ => by rfl) ?_
      refine L_end ?_
      intro w20 hw20
      refine seq_plain hw20 [0, 1, 2, 3, 4, 5, 6, 7] (by rfl) ?_
      refine L_val (.slice (some ⟨g, 0, none⟩) (n1 + 1) cap) (by rfl) (by exact hl_3) (gives_value _ fun _ => by rfl) ?_
      refine L_val (.int .i64 (j : Int)) (by rfl) (by exact hl_3) (gives_value _ fun _ => by rfl) ?_
      refine L_val (.pointer (some ⟨g, 0 + (j), none⟩)) (by rfl) (by exact hl_3) (gives_index g 0 ((n1 + 1)) (cap) ((j : Int)) (j) (by rfl) (by rfl) und_u32s u32_sz rfl (by omega)) ?_
      refine L_val (.int .u32 (gt o j)) (by rfl) (by exact hl_3) (gives_load1 g (0 + (j)) _ cs2 (.int .u32 (gt o j)) (by rfl) (fun _ h => h.blk 0 (by rfl)) (hq.at_ j (by omega)) und_u32) ?_
      refine L_val (.int .u32 (2 * gt o j)) (by rfl) (by exact hl_3) (gives_shl (k := .u32) (k2 := .u64) (gt o j) 1 (2 * gt o j) (by rfl) (by rfl) (by omega) (shl_one _ b2.1 b2.2)) ?_
      refine L_val (.int .u32 c) (by rfl) (by exact hl_3) (gives_value _ fun _ => by rfl) ?_
      refine L_val (.int .u32 (2 * gt o j + c)) (by rfl) (by exact hl_3) (gives_or (k := .u32) (2 * gt o j) c (2 * gt o j + c) (by rfl) (by rfl) (or_bit _ _ b2.1 b2.2 hc.1 hc.2)) ?_
      refine L_val (.int .u32 (2 * gt o j + c)) (by rfl) (by exact hl_3) (gives_value _ fun _ => by rfl) ?_
      refine L_end ?_
      intro w21 hw21
      refine seq_plain hw21 [0, 1, 2, 3, 4, 5] (by rfl) ?_
      refine L_val (.slice (some ⟨g, 0, none⟩) (n1 + 1) cap) (by rfl) (by exact hl_3) (gives_value _ fun _ => by rfl) ?_
      refine L_val (.int .i64 (j : Int)) (by rfl) (by exact hl_3) (gives_value _ fun _ => by rfl) ?_
      refine L_val (.int .u32 (2 * gt o j + c)) (by rfl) (by exact hl_3) (gives_value _ fun _ => by rfl) ?_
      refine L_val (.int .u32 ((2 * gt o j + c) % 65536)) (by rfl) (by exact hl_3) (gives_and (k := .u32) (2 * gt o j + c) 65535 ((2 * gt o j + c) % 65536) (by rfl) (by rfl) (and_ffff _ (by omega) (by omega))) ?_
      refine L_val (.pointer (some ⟨g, 0 + (j), none⟩)) (by rfl) (by exact hl_3) (gives_index g 0 ((n1 + 1)) (cap) ((j : Int)) (j) (by rfl) (by rfl) und_u32s u32_sz rfl (by omega)) ?_
      refine L_store1 0 g (0 + (j)) _ cs2 (.int .u32 ((2 * gt o j + c) % 65536)) (by rfl) (by exact hl_3) (by rfl) (by rfl) rfl (by rfl) u32_sz (by have := hq.le; rw [hq.size]; omega) ?_
      simp only [List.set_cons_zero, List.set_cons_succ]
      refine L_end ?_
      intro w22 hw22
      refine one_plain hw22 [0, 1, 2] (by rfl) ?_
      refine L_val (.int .u32 (2 * gt o j + c)) (by rfl) (by exact hl_3) (gives_value _ fun _ => by rfl) ?_
      refine L_val (.int .u32 ((2 * gt o j + c) / 65536)) (by rfl) (by exact hl_3) (gives_shr (k := .u32) (k2 := .u64) (2 * gt o j + c) 16 ((2 * gt o j + c) / 65536) (by rfl) (by rfl) (by omega) (shr_16 _ (by omega))) ?_
      refine L_val (.int .u32 ((2 * gt o j + c) / 65536)) (by rfl) (by exact hl_3) (gives_value _ fun _ => by rfl) ?_
      refine L_end ?_
      intro w23 hw23
      change Code.wp _ _ _ _ _
      refine one_plain hw23 [0, 1] (by rfl) ?_
      refine L_val (.int .i64 ((j : Int) + 1)) (by rfl) (by exact hl_3) (gives_add (k := .i64) ((j : Int)) (1) ((j : Int) + 1) (by rfl) (by rfl) (IntWalk.i64_in _ (by omega))) ?_
      refine L_val (.int .i64 ((j : Int) + 1)) (by rfl) (by exact hl_3) (gives_value _ fun _ => by rfl) ?_
      refine L_end ?_
      intro w24 hw24
      change ∃ r' : Nat, r' < r_3 ∧ _
      refine ⟨_, ?_, j + 1, o.set j ((2 * gt o j + c) % 65536), (cs2.setIfInBounds (0 + (j)) (.int .u32 ((2 * gt o j + c) % 65536))), (2 * gt o j + c) / 65536, ((34, .int .i64 ((j : Int) + 1)) :: (51, .int .i64 ((j : Int) + 1)) :: (7, .int .u32 ((2 * gt o j + c) / 65536)) :: (50, .int .u32 ((2 * gt o j + c) / 65536)) :: (49, .int .u32 (2 * gt o j + c)) :: (48, .pointer (some ⟨g, 0 + (j), none⟩)) :: (47, .int .u32 ((2 * gt o j + c) % 65536)) :: (46, .int .u32 (2 * gt o j + c)) :: (45, .int .i64 (j : Int)) :: (44, .slice (some ⟨g, 0, none⟩) (n1 + 1) cap) :: (9, .int .u32 (2 * gt o j + c)) :: (43, .int .u32 (2 * gt o j + c)) :: (42, .int .u32 c) :: (41, .int .u32 (2 * gt o j)) :: (40, .int .u32 (gt o j)) :: (39, .pointer (some ⟨g, 0 + (j), none⟩)) :: (38, .int .i64 (j : Int)) :: (37, .slice (some ⟨g, 0, none⟩) (n1 + 1) cap) :: (8, .int .i64 (j : Int)) :: (36, .int .i64 (j : Int)) :: (35, .bool true) :: (0, .slice A0 n0 c0) :: (1, .slice A1 n1 c1) :: (5, .slice (some ⟨g, 0, none⟩) (n1 + 1) cap) :: (6, .int .i64 ((r : Int) - 1)) :: (7, .int .u32 c) :: (33, .int .i64 ((n1 + 1 : Nat) : Int)) :: (34, .int .i64 (j : Int)) :: l_3), rfl, (by exact hl_3), (Eq.trans (Eq.trans (Eq.trans (Eq.trans (Eq.trans (Eq.trans (fr_dup _ _ 34 _ (by exact hl_3) (by rfl) (by rfl)).symm (fr_dup _ _ 33 _ (by exact hl_3) (by rfl) (by rfl)).symm) (fr_dup _ _ 7 _ (by exact hl_3) (by rfl) (by rfl)).symm) (fr_dup _ _ 6 _ (by exact hl_3) (by rfl) (by rfl)).symm) (fr_dup _ _ 5 _ (by exact hl_3) (by rfl) (by rfl)).symm) (fr_dup _ _ 1 _ (by exact hl_3) (by rfl) (by rfl)).symm) (fr_dup _ _ 0 _ (by exact hl_3) (by rfl) (by rfl)).symm), by omega, hq.set j _, hWo.set _ _ (by omega) (by omega), by omega, dbl_step o _ j c _ _ (by rw [hq.len]; exact hlt2) hE hT rfl, set_top o _ j _ hT, hw24⟩
      omega
    ·
      refine seq_plain hw0_3 [0] (by rfl) ?_
      refine L_val (.bool false) (by rfl) (by exact hl_3) (gives_lss (k := .i64) ((j : Int)) (((n1 + 1 : Nat) : Int)) false (by rfl) (by rfl) (decide_eq_false (by omega))) ?_
      refine L_end ?_
      intro w25 hw25
      refine wp_seq ?_
      refine wp_cond_false (fr_at _ _ (by exact hl_3) _) ?_
      refine wp_exit ?_
      have hjN : j = n1 + 1 := by omega
      have hva := dbl_end o _ (q % 2) c (va l1) n1 hWo hq.len hR.1 hR.2 hM1 (by omega) hc.1 (hjN ▸ hE)
      change Code.wp _ _ _ _ _
      change Code.wp _ _ _ _ _
      refine seq_plain hw25 [0, 1, 2, 3] (by rfl) ?_
      refine L_val (.slice (some ⟨g, 0, none⟩) (n1 + 1) cap) (by rfl) (by exact hl_3) (gives_value _ fun _ => by rfl) ?_
      refine L_val (.slice A1 n1 c1) (by rfl) (by exact hl_3) (gives_value _ fun _ => by rfl) ?_
      refine L_val (.bool false) (by rfl) (by exact hl_3) (gives_call (vl := [.slice (some ⟨g, 0, none⟩) (n1 + 1) cap, .slice A1 n1 c1]) (by kernel_rfl) (by rfl) (fun w h => r3_less_t w _ (n1 + 1) cap o A1 n1 c1 l1 (hq.reads (h.blk 0 (by rfl))) ((hr1.below h.below).more h.below.size) hWo ho1 (by omega) hb1 false (decide_eq_false (by rw [hva]; omega)))) ?_
      refine L_val (.bool true) (by rfl) (by exact hl_3) (gives_value _ fun _ => by rfl) ?_
      refine L_end ?_
      intro w26 hw26
      refine wp_cond_true (fr_at _ _ (by exact hl_3) _) ?_
      refine one_plain hw26 [0, 1, 2, 3] (by rfl) ?_
      refine L_val (.slice (some ⟨g, 0, none⟩) (n1 + 1) cap) (by rfl) (by exact hl_3) (gives_value _ fun _ => by rfl) ?_
      refine L_val (.slice A1 n1 c1) (by rfl) (by exact hl_3) (gives_value _ fun _ => by rfl) ?_
      refine L_freshW (vl := [.slice (some ⟨g, 0, none⟩) (n1 + 1) cap, .slice A1 n1 c1]) (n1 + 1) (va o - va l1) (by rfl) (by exact hl_3) (by kernel_rfl) (by rfl) (fun w h => r3_minus _ (n1 + 1) cap o A1 n1 c1 l1 w (hq.reads (h.blk 0 (by rfl))) hWo (by omega) ((hr1.below h.below).more h.below.size) ho1 hb1) ?_; intro g2 cap_1 cs_1 hwb_1
      refine L_val (.slice (some ⟨g2, 0, none⟩) (n1 + 1) cap_1) (by rfl) (by exact hl_3) (gives_value _ fun _ => by rfl) ?_
      refine L_end ?_
      intro w27 hw27
      change Code.wp _ _ _ _ _
      refine one_plain hw27 [0, 1, 2] (by rfl) ?_
      refine L_val (.int .i64 ((r : Int) - 1)) (by rfl) (by exact hl_3) (gives_value _ fun _ => by rfl) ?_
      refine L_val (.int .i64 (((r : Int) - 1) - 1)) (by rfl) (by exact hl_3) (gives_sub (k := .i64) ((r : Int) - 1) (1) (((r : Int) - 1) - 1) (by rfl) (by rfl) (IntWalk.i64_in _ (by omega))) ?_
      refine L_val (.int .i64 (((r : Int) - 1) - 1)) (by rfl) (by exact hl_3) (gives_value _ fun _ => by rfl) ?_
      refine L_end ?_
      intro w28 hw28
      change ∃ r' : Nat, r' < r_1 ∧ _
      refine ⟨_, ?_, r - 1, g2, cap_1, cs_1, ((6, .int .i64 (((r : Int) - 1) - 1)) :: (21, .int .i64 (((r : Int) - 1) - 1)) :: (20, .int .i64 ((r : Int) - 1)) :: (5, .slice (some ⟨g2, 0, none⟩) (n1 + 1) cap_1) :: (58, .slice (some ⟨g2, 0, none⟩) (n1 + 1) cap_1) :: (57, .slice A1 n1 c1) :: (56, .slice (some ⟨g, 0, none⟩) (n1 + 1) cap) :: (55, .bool true) :: (54, .bool false) :: (53, .slice A1 n1 c1) :: (52, .slice (some ⟨g, 0, none⟩) (n1 + 1) cap) :: (35, .bool false) :: (0, .slice A0 n0 c0) :: (1, .slice A1 n1 c1) :: (5, .slice (some ⟨g, 0, none⟩) (n1 + 1) cap) :: (6, .int .i64 ((r : Int) - 1)) :: (7, .int .u32 c) :: (33, .int .i64 ((n1 + 1 : Nat) : Int)) :: (34, .int .i64 (j : Int)) :: l_3), rfl, (by exact hl_3), (Eq.trans (Eq.trans (Eq.trans (fr_dup _ _ 6 _ (by exact hl_3) (by rfl) (by exact (congrArg (Value.int .i64) (by omega)))).symm (fr_dup _ _ 5 _ (by exact hl_3) (by rfl) (by rfl)).symm) (fr_dup _ _ 1 _ (by exact hl_3) (by rfl) (by rfl)).symm) (fr_dup _ _ 0 _ (by exact hl_3) (by rfl) (by rfl)).symm), by omega, hwb_1.val (mod_take _ _ _ q _ r hr0 hM (by omega) hbit hs hva), hw28.sub (List.Sublist.cons_cons _ (List.Sublist.cons _ (List.Sublist.refl _)))⟩
      omega
  ·
    refine wp_seq ?_
    refine seq_plain hw0_1 [0, 1] (by rfl) ?_
    refine L_val (.int .i64 ((r : Int) - 1)) (by rfl) (by exact hl_1) (gives_value _ fun _ => by rfl) ?_
    refine L_val (.bool false) (by rfl) (by exact hl_1) (gives_geq (k := .i64) ((r : Int) - 1) (0) false (by rfl) (by rfl) (decide_eq_false (by omega))) ?_
    refine L_end ?_
    intro w29 hw29
    refine wp_cond_false (fr_at _ _ (by exact hl_1) _) ?_
    refine wp_exit ?_
    subst hlt
    change Code.wp _ _ _ _ _
    change Code.wp _ _ _ _ _
    refine seq_plain hw29 [0, 1, 2, 3, 4] (by rfl) ?_
    refine L_val (.slice (some ⟨g, 0, none⟩) (n1 + 1) cap) (by rfl) (by exact hl_1) (gives_value _ fun _ => by rfl) ?_
    refine L_val (.slice A1 n1 c1) (by rfl) (by exact hl_1) (gives_value _ fun _ => by rfl) ?_
    refine L_val (.int .i64 (n1 : Int)) (by rfl) (by exact hl_1) (gives_len _ n1 c1 und_u32s (by rfl)) ?_
    refine L_val (.slice (some ⟨g, 0, none⟩) n1 cap) (by rfl) (by exact hl_1) (gives_slice_to g (n1 + 1) cap n1 ((n1 : Int)) (by rfl) (by rfl) und_u32s u32_sz rfl (by have := hwb.le; omega)) ?_
    refine L_val (.slice (some ⟨g, 0, none⟩) n1 cap) (by rfl) (by exact hl_1) (gives_value _ fun _ => by rfl) ?_
    refine L_end ?_
    intro w30 hw30
    refine wp_ret ?_
    change bodyPost _ _ _ Exit.ret _ _
    refine (ret_tmp (by rfl) (by exact hl_1) (by rfl) ⟨g, cap, cs, rfl, hwb.init.val (by simp), hw30.ge 0 (by rfl), hw30.blk 0 (by rfl), hw30.below⟩)
end Go.Proofs.YtialfoccalobpaaDoor

/-! ## R3H -/
namespace Go.Proofs.YtialfoccalobpaaDoor
set_option linter.unusedSimpArgs false
set_option linter.unusedVariables false
open Go.RowKit
/-- The characters of a string. -/
def sl (s : ByteArray) : List Int := s.data.toList.map fun b => (b.toNat : Int)
theorem sl_len (s : ByteArray) : (sl s).length = s.size := by simp [sl]
theorem sl_at (s : ByteArray) (j : Nat) (h : j < s.size) : ∃ b : UInt8, s[j]? = some b ∧ (b.toNat : Int) = gt (sl s) j := by
  refine ⟨s[j], by simp [h], ?_⟩
  have h2 : j < (sl s).length := by rw [sl_len]; exact h
  rw [gt_eq h2]
  simp only [sl, List.getElem_map, Array.getElem_toList]
  rfl
section
variable {P : Program} {S : World → Prop} {l : List (Nat × Value)} {dst : Option Nat} {x y : Operand} {t ty : TypeId} {pos : String} {after : Array Edge} {gd : Option (Nat × Bool)}
theorem gives_slen (s : ByteArray) (n : Nat) (ht : P.underlying t = some .string) (hx : rho l x = .string s) (hn : s.size = n) : Gives P S (.int .i64 n) (execOp (rho l) ⟨dst, .call { callee := .builtin .len, args := #[x], argTypes := #[t] }, ty, pos, after, gd⟩) := gives_value _ fun w => by
  simp [execOp, resolve, invoke, builtin, hx, Builtin.len_, Builtin.lenOf, run_underlying ht, goInt, hn]
theorem gives_sindex {k : IntKind} (s : ByteArray) (i c : Int) (j : Nat) (hx : rho l x = .string s) (hy : rho l y = .int k i) (ht : P.underlying t = some .string) (h0 : i = (j : Int)) (h : ∃ b : UInt8, s[j]? = some b ∧ (b.toNat : Int) = c) : Gives P S (.int .u8 c) (execOp (rho l) ⟨dst, .index t x y, ty, pos, after, gd⟩) := gives_value _ fun w => by
  subst h0
  obtain ⟨b, hb, rfl⟩ := h
  simp [execOp, hx, hy, Instr.index, run_underlying ht, asIntOf, hb]
end
theorem und_str : Tryd.prog.underlying 9 = some .string := by kernel_rfl
/-- The digit of a character; the number of the last k characters. -/
def dg (c : Int) : Int := if 97 ≤ c then c - 87 else c - 48
def hv (l : List Int) (n : Nat) : Nat → Int
  | 0 => 0
  | k + 1 => hv l n k + 16 ^ k * dg (gt l (n - 1 - k))
def Dig (c : Int) : Prop := 48 ≤ c ∧ c ≤ 57 ∨ 97 ≤ c ∧ c ≤ 102
instance (c : Int) : Decidable (Dig c) := inferInstanceAs (Decidable (_ ∨ _))
theorem dg_lo {c : Int} (h : Dig c) : 0 ≤ dg c ∧ dg c < 16 := by unfold dg Dig at *; split <;> omega
theorem hv_lo (l : List Int) (n k : Nat) (hk : k ≤ n) (h : ∀ i, i < n → Dig (gt l i)) : 0 ≤ hv l n k ∧ hv l n k < 16 ^ k := by
  induction k with
  | zero => simp [hv]
  | succ k ih =>
    have h1 := ih (by omega)
    have h2 := dg_lo (h (n - 1 - k) (by omega))
    have hp : (0 : Int) < 16 ^ k := Int.pow_pos (by omega)
    have h3 : 0 ≤ 16 ^ k * dg (gt l (n - 1 - k)) := Int.mul_nonneg (Int.le_of_lt hp) h2.1
    have h4 : (16 : Int) ^ k * dg (gt l (n - 1 - k)) ≤ 16 ^ k * 15 := Int.mul_le_mul_of_nonneg_left (by omega) (Int.le_of_lt hp)
    rw [hv, Int.pow_succ]
    omega
theorem hp_split (k : Nat) : (16 : Int) ^ k = 65536 ^ (k / 4) * 16 ^ (k % 4) := by
  rw [show (65536 : Int) = 16 ^ 4 from rfl, ← Int.pow_mul, ← Int.pow_add, Nat.div_add_mod]
/-- The word that the next digit goes into: what it holds. -/
theorem hv_cell (l : List Int) (n k m : Nat) (hk : k < n) (h : ∀ i, i < n → Dig (gt l i)) (hm : m = (k + 4) / 4) : 0 ≤ hv l n k / 65536 ^ (k / 4) ∧ hv l n k / 65536 ^ (k / 4) < 16 ^ (k % 4) ∧ gt (wl (hv l n k) m) (k / 4) = hv l n k / 65536 ^ (k / 4) := by
  have h1 := hv_lo l n k (by omega) h
  have hp := bp (k / 4)
  have h2 : 0 ≤ hv l n k / 65536 ^ (k / 4) := Int.ediv_nonneg h1.1 (Int.le_of_lt hp)
  have h3 : hv l n k / 65536 ^ (k / 4) < 16 ^ (k % 4) := Int.ediv_lt_of_lt_mul hp (by rw [Int.mul_comm, ← hp_split]; exact h1.2)
  refine ⟨h2, h3, ?_⟩
  rw [gt_wl _ _ _ (by omega), Int.emod_eq_of_lt h2]
  have hs : k % 4 < 4 := Nat.mod_lt _ (by omega)
  generalize k % 4 = s at *
  rcases (by omega : s = 0 ∨ s = 1 ∨ s = 2 ∨ s = 3) with e | e | e | e <;> subst e <;> simp at h3 <;> omega
theorem hv_set (l : List Int) (n k m : Nat) (hk : k < n) (h : ∀ i, i < n → Dig (gt l i)) (hm : m = (k + 4) / 4) :
    (wl (hv l n k) m).set (k / 4) (hv l n k / 65536 ^ (k / 4) + dg (gt l (n - 1 - k)) * 16 ^ (k % 4)) = wl (hv l n (k + 1)) m := by
  have h1 := hv_lo l n k (by omega) h
  have hc := hv_cell l n k m hk h hm
  have hd := dg_lo (h (n - 1 - k) (by omega))
  have e : hv l n (k + 1) = hv l n k + 65536 ^ (k / 4) * (dg (gt l (n - 1 - k)) * 16 ^ (k % 4)) := by
    rw [hv, hp_split k]; grind
  have hp : (0 : Int) < 16 ^ (k % 4) := Int.pow_pos (by omega)
  rw [e, wl_set _ _ m (k / 4) (by omega) h1.1 (Int.mul_nonneg hd.1 (Int.le_of_lt hp))]
  have hs : k % 4 < 4 := Nat.mod_lt _ (by omega)
  generalize hv l n k / 65536 ^ (k / 4) = V at *
  generalize k % 4 = s at *
  rcases (by omega : s = 0 ∨ s = 1 ∨ s = 2 ∨ s = 3) with e | e | e | e <;> subst e <;> simp at hc ⊢ <;> omega
theorem hv_top (l : List Int) (n k : Nat) (hk : k < n) (h : ∀ i, i < n → Dig (gt l i)) (hz : k % 4 = 0) : (0 : Int) = hv l n k / 65536 ^ ((k + 3) / 4) % 65536 := by
  have hc := hv_cell l n k _ hk h rfl
  rw [show (k + 3) / 4 = k / 4 by omega]
  rw [hz] at hc
  simp at hc
  omega
theorem shl_dig (a : Int) (k : Nat) (h0 : 0 ≤ a) (h : a < 16) : IntKind.u32.wrap (a * 2 ^ (min (4 * ((k : Int) % 4)).toNat IntKind.u32.bits)) = a * 16 ^ (k % 4) := by
  have e1 : (4 * ((k : Int) % 4)).toNat = 4 * (k % 4) := by omega
  rw [e1]
  have hs : k % 4 < 4 := Nat.mod_lt _ (by omega)
  generalize k % 4 = s at *
  have e2 : min (4 * s) IntKind.u32.bits = 4 * s := Nat.min_eq_left (by show 4 * s ≤ 32; omega)
  rw [e2, Int.pow_mul]
  rcases (by omega : s = 0 ∨ s = 1 ∨ s = 2 ∨ s = 3) with e | e | e | e <;> subst e <;> simp <;> exact w32 _ (by omega) (by omega)
theorem or_dig (a b : Int) (k : Nat) (ha0 : 0 ≤ a) (ha : a < 16 ^ (k % 4)) (hb0 : 0 ≤ b) (hb : b < 16) :
    IntKind.u32.wrap (((a % 2 ^ IntKind.u32.bits).toNat ||| ((b * 16 ^ (k % 4)) % 2 ^ IntKind.u32.bits).toNat : Nat) : Int) = a + b * 16 ^ (k % 4) := by
  have hs : k % 4 < 4 := Nat.mod_lt _ (by omega)
  generalize k % 4 = s at *
  have e : (16 : Int) ^ s = 2 ^ (4 * s) := by rw [Int.pow_mul]; rfl
  rw [e] at ha ⊢
  rcases (by omega : s = 0 ∨ s = 1 ∨ s = 2 ∨ s = 3) with e | e | e | e <;> subst e <;> exact or_low a b _ ha0 ha hb0 (by simp; omega) (by simp at ha; omega) (by simp at ha ⊢; omega)
theorem WB.len {cs : Array Value} {cap m m' : Nat} {a : Int} (h : WB cs cap m a) (e : m = m') : WB cs cap m' a := e ▸ h
theorem W2.list {cs : Array Value} {cap m : Nat} {l l' : List Int} (h : W2 cs cap m l) (e : l = l') : W2 cs cap m l' := e ▸ h
theorem W2.back {cs : Array Value} {cap m : Nat} {a : Int} (h : W2 cs cap m (wl a m)) : WB cs cap m a := ⟨h.size, h.le, h.cap, h.words⟩
attribute [local irreducible] wpL wpF fr Code.wp bodyPost
theorem hex_five (k n : Nat) (c : Int) : (k < n ∧ k % 4 = 0 ∧ 97 ≤ c) ∨ (k < n ∧ k % 4 = 0 ∧ ¬ 97 ≤ c) ∨ (k < n ∧ ¬ k % 4 = 0 ∧ 97 ≤ c) ∨ (k < n ∧ ¬ k % 4 = 0 ∧ ¬ 97 ≤ c) ∨ ¬ k < n := by omega
set_option maxRecDepth 100000 in
set_option maxHeartbeats 4000000 in
theorem r3_hex (s : ByteArray) (n : Nat) (v : World) (hn : s.size = n) (hDig : ∀ i, i < n → Dig (gt (sl s) i)) (hb : n ≤ 1099511627776) : RetsW 56 #[.string s] v ((n + 3) / 4) (hv (sl s) n n) := by
  refine calls_fr1 Tryd.func56 rfl (by rfl : _ = 52) (by rfl) ?_
  have hw := Hbl.nil v
  refine seq_plain hw [0] (by rfl) ?_
  refine L_val (.slice none 0 0) (by rfl) (by rfl) (gives_value _ fun _ => by rfl) ?_
  refine L_end ?_
  intro w1 hw1
  refine seq_plain hw1 [0, 1] (by rfl) ?_
  refine L_build0 1 (by rfl) (by rfl) und_u32s u32_sz ?_; intro g1
  refine L_val (.slice (some ⟨g1, 0, none⟩) 0 0) (by rfl) (by rfl) (gives_value _ fun _ => by rfl) ?_
  refine L_end ?_
  intro w2 hw2
  refine seq_plain hw2 [0] (by rfl) ?_
  refine L_val (.int .i64 0) (by rfl) (by rfl) (gives_value _ fun _ => by rfl) ?_
  refine L_end ?_
  intro w3 hw3
  refine wp_seq ?_
  refine seq_plain hw3 [0, 1, 2, 3] (by rfl) ?_
  refine L_val (.string s) (by rfl) (by rfl) (gives_value _ fun _ => by rfl) ?_
  refine L_val (.int .i64 (n : Int)) (by rfl) (by rfl) (gives_slen s n und_str (by rfl) hn) ?_
  refine L_val (.int .i64 ((n : Int) - 1)) (by rfl) (by rfl) (gives_sub (k := .i64) ((n : Int)) (1) ((n : Int) - 1) (by rfl) (by rfl) (IntWalk.i64_in _ (by omega))) ?_
  refine L_val (.int .i64 ((n : Int) - 1)) (by rfl) (by rfl) (gives_value _ fun _ => by rfl) ?_
  refine L_end ?_
  intro w4 hw4
  refine wp_block ?_
  refine loop_down (fun (r_ : Nat) a w => ∃ (k : Nat) (g : Nat) (cap : Nat) (cs : Array Value) (l_1 : List (Nat × Value)), n - k = r_ ∧ inFr 52 l_1 = true ∧ a = fr 52 ((0, .string s) :: (3, .slice (some ⟨g, 0, none⟩) ((k + 3) / 4) cap) :: (4, .int .i64 (k : Int)) :: (5, .int .i64 (((n : Int) - 1) - (k : Int))) :: l_1) ∧ (k ≤ n) ∧ (WB cs cap ((k + 3) / 4) (hv (sl s) n k)) ∧ Hbl v [(g, 100, cs)] w) ?_ _ _ _ ⟨0, g1, 0, #[], [(5, .int .i64 ((n : Int) - 1)), (11, .int .i64 ((n : Int) - 1)), (10, .int .i64 (n : Int)), (9, .string s), (4, .int .i64 0), (3, .slice (some ⟨g1, 0, none⟩) 0 0), (8, .slice (some ⟨g1, 0, none⟩) 0 0), (2, .slice none 0 0), (0, .string s)], rfl, (by rfl), (Eq.trans (Eq.trans (Eq.trans (fr_dup _ _ 5 _ (by rfl) (by rfl) (by exact (congrArg (Value.int .i64) (by omega)))).symm (fr_dup _ _ 4 _ (by rfl) (by rfl) (by rfl)).symm) (fr_dup _ _ 3 _ (by rfl) (by rfl) (by rfl)).symm) (fr_dup _ _ 0 _ (by rfl) (by rfl) (by rfl)).symm), Nat.zero_le _, WB.nil _, hw4⟩
  rintro r_1 a0 w0_1 ⟨k, g, cap, cs, l_1, hr_1, hl_1, rfl, hk, hwb, hw0_1⟩
  rcases hex_five k n (gt (sl s) (n - 1 - k)) with hcase | hcase | hcase | hcase | hcase
  ·
    obtain ⟨hlt, hz, hbig⟩ := hcase
    have hch := hDig (n - 1 - k) (by omega)
    have hd := dg_lo hch
    have hcl := hv_cell (sl s) n k _ hlt hDig rfl
    have hdg : ((gt (sl s) (n - 1 - k)) - 97) + 10 = dg (gt (sl s) (n - 1 - k)) := by unfold dg; rw [if_pos hbig]; omega
    have hcb : 48 ≤ gt (sl s) (n - 1 - k) ∧ gt (sl s) (n - 1 - k) ≤ 102 := by unfold Dig at hch; omega
    refine wp_seq ?_
    refine seq_plain hw0_1 [0, 1] (by rfl) ?_
    refine L_val (.int .i64 (((n : Int) - 1) - (k : Int))) (by rfl) (by exact hl_1) (gives_value _ fun _ => by rfl) ?_
    refine L_val (.bool true) (by rfl) (by exact hl_1) (gives_geq (k := .i64) (((n : Int) - 1) - (k : Int)) (0) true (by rfl) (by rfl) (decide_eq_true (by omega))) ?_
    refine L_end ?_
    intro w5 hw5
    refine wp_cond_true (fr_at _ _ (by exact hl_1) _) ?_
    refine wp_skip ?_
    change Code.wp _ _ _ _ _
    refine wp_seq ?_
    refine wp_block ?_
    refine seq_plain hw5 [0, 1, 2, 3] (by rfl) ?_
    refine L_val (.string s) (by rfl) (by exact hl_1) (gives_value _ fun _ => by rfl) ?_
    refine L_val (.int .i64 (((n : Int) - 1) - (k : Int))) (by rfl) (by exact hl_1) (gives_value _ fun _ => by rfl) ?_
    refine L_val (.int .u8 (gt (sl s) (n - 1 - k))) (by rfl) (by exact hl_1) (gives_sindex s (((n : Int) - 1) - (k : Int)) (gt (sl s) (n - 1 - k)) (n - 1 - k) (by rfl) (by rfl) und_str (by omega) (sl_at s _ (by omega))) ?_
    refine L_val (.int .u8 (gt (sl s) (n - 1 - k))) (by rfl) (by exact hl_1) (gives_value _ fun _ => by rfl) ?_
    refine L_end ?_
    intro w6 hw6
    refine wp_seq ?_
    refine seq_plain hw6 [0, 1] (by rfl) ?_
    refine L_val (.int .u8 (gt (sl s) (n - 1 - k))) (by rfl) (by exact hl_1) (gives_value _ fun _ => by rfl) ?_
    refine L_val (.bool false) (by rfl) (by exact hl_1) (gives_ieq (k := .u8) (gt (sl s) (n - 1 - k)) (32) false (by rfl) (by rfl) (decide_eq_false (by omega))) ?_
    refine L_end ?_
    intro w7 hw7
    refine wp_cond_false (fr_at _ _ (by exact hl_1) _) ?_
    refine wp_skip ?_
    change Code.wp _ _ _ _ _
    refine seq_plain hw7 [0, 1, 2, 3] (by rfl) ?_
    refine L_val (.int .u8 (gt (sl s) (n - 1 - k))) (by rfl) (by exact hl_1) (gives_value _ fun _ => by rfl) ?_
    refine L_val (.int .u32 (gt (sl s) (n - 1 - k))) (by rfl) (by exact hl_1) (gives_conv (k2 := .u32) (gt (sl s) (n - 1 - k)) (gt (sl s) (n - 1 - k)) (by rfl) und_u8' und_u32 (IntWalk.u32_in _ (by omega))) ?_
    refine L_val (.int .u32 ((gt (sl s) (n - 1 - k)) - 48)) (by rfl) (by exact hl_1) (gives_sub (k := .u32) (gt (sl s) (n - 1 - k)) (48) ((gt (sl s) (n - 1 - k)) - 48) (by rfl) (by rfl) (IntWalk.u32_in _ (by omega))) ?_
    refine L_val (.int .u32 ((gt (sl s) (n - 1 - k)) - 48)) (by rfl) (by exact hl_1) (gives_value _ fun _ => by rfl) ?_
    refine L_end ?_
    intro w8 hw8
    refine wp_seq ?_
    refine seq_plain hw8 [0, 1] (by rfl) ?_
    refine L_val (.int .u8 (gt (sl s) (n - 1 - k))) (by rfl) (by exact hl_1) (gives_value _ fun _ => by rfl) ?_
    refine L_val (.bool true) (by rfl) (by exact hl_1) (gives_geq (k := .u8) (gt (sl s) (n - 1 - k)) (97) true (by rfl) (by rfl) (decide_eq_true (by omega))) ?_
    refine L_end ?_
    intro w9 hw9
    refine wp_cond_true (fr_at _ _ (by exact hl_1) _) ?_
    refine one_plain hw9 [0, 1, 2, 3, 4] (by rfl) ?_
    refine L_val (.int .u8 (gt (sl s) (n - 1 - k))) (by rfl) (by exact hl_1) (gives_value _ fun _ => by rfl) ?_
    refine L_val (.int .u32 (gt (sl s) (n - 1 - k))) (by rfl) (by exact hl_1) (gives_conv (k2 := .u32) (gt (sl s) (n - 1 - k)) (gt (sl s) (n - 1 - k)) (by rfl) und_u8' und_u32 (IntWalk.u32_in _ (by omega))) ?_
    refine L_val (.int .u32 ((gt (sl s) (n - 1 - k)) - 97)) (by rfl) (by exact hl_1) (gives_sub (k := .u32) (gt (sl s) (n - 1 - k)) (97) ((gt (sl s) (n - 1 - k)) - 97) (by rfl) (by rfl) (IntWalk.u32_in _ (by omega))) ?_
    refine L_val (.int .u32 (((gt (sl s) (n - 1 - k)) - 97) + 10)) (by rfl) (by exact hl_1) (gives_add (k := .u32) ((gt (sl s) (n - 1 - k)) - 97) (10) (((gt (sl s) (n - 1 - k)) - 97) + 10) (by rfl) (by rfl) (IntWalk.u32_in _ (by omega))) ?_
    refine L_val (.int .u32 (((gt (sl s) (n - 1 - k)) - 97) + 10)) (by rfl) (by exact hl_1) (gives_value _ fun _ => by rfl) ?_
    refine L_end ?_
    intro w10 hw10
    change Code.wp _ _ _ _ _
    refine wp_seq ?_
    refine seq_plain hw10 [0, 1, 2] (by rfl) ?_
    refine L_val (.int .i64 (k : Int)) (by rfl) (by exact hl_1) (gives_value _ fun _ => by rfl) ?_
    refine L_val (.int .i64 ((k : Int) % 4)) (by rfl) (by exact hl_1) (gives_rem (k := .i64) ((k : Int)) (4) ((k : Int) % 4) (by rfl) (by rfl) (by omega) (IntWalk.rem_in _ _ (by omega))) ?_
    refine L_val (.bool true) (by rfl) (by exact hl_1) (gives_ieq (k := .i64) ((k : Int) % 4) (0) true (by rfl) (by rfl) (decide_eq_true (by omega))) ?_
    refine L_end ?_
    intro w11 hw11
    refine wp_cond_true (fr_at _ _ (by exact hl_1) _) ?_
    refine one_plain hw11 [0, 1, 2, 3] (by rfl) ?_
    refine L_val (.slice (some ⟨g, 0, none⟩) ((k + 3) / 4) cap) (by rfl) (by exact hl_1) (gives_value _ fun _ => by rfl) ?_
    refine L_build1 (.int .u32 0) (.int .u32 0) (by rfl) (by exact hl_1) und_u32s u32_zs rfl (by rfl) rfl ?_; intro g2
    refine L_append 1 0 g g2 ((k + 3) / 4) cap 1 4 (.int .u32 0) (.int .u32 0) cs (by rfl) (by exact hl_1) und_u32s u32_all rfl (by rfl) (by rfl) (by rfl) (by rfl) rfl hwb.le hwb.size hwb.cap (by omega) (by omega) [(g2, 100, #[.int .u32 0])] (by rfl) ?_
    intro g3 cap_1 cs_1 ha1 hb1 hc1 hd1
    refine L_val (.slice (some ⟨g3, 0, none⟩) (((k + 3) / 4) + 1) cap_1) (by rfl) (by exact hl_1) (gives_value _ fun _ => by rfl) ?_
    refine L_end ?_
    intro w12 hw12
    change Code.wp _ _ _ _ _
    refine seq_plain hw12 [0, 1, 2, 3, 4, 5, 6, 7, 8, 9, 10, 11, 12, 13] (by rfl) ?_
    refine L_val (.slice (some ⟨g3, 0, none⟩) (((k + 3) / 4) + 1) cap_1) (by rfl) (by exact hl_1) (gives_value _ fun _ => by rfl) ?_
    refine L_val (.int .i64 (k : Int)) (by rfl) (by exact hl_1) (gives_value _ fun _ => by rfl) ?_
    refine L_val (.int .i64 ((k : Int) / 4)) (by rfl) (by exact hl_1) (gives_quo (k := .i64) ((k : Int)) (4) ((k : Int) / 4) (by rfl) (by rfl) (by omega) (IntWalk.i64_quo _ _ (by omega))) ?_
    refine L_val (.pointer (some ⟨g3, 0 + (k / 4), none⟩)) (by rfl) (by exact hl_1) (gives_index g3 0 ((((k + 3) / 4) + 1)) (cap_1) ((k : Int) / 4) (k / 4) (by rfl) (by rfl) und_u32s u32_sz (by omega) (by omega)) ?_
    refine L_val (.int .u32 (hv (sl s) n k / 65536 ^ (k / 4))) (by rfl) (by exact hl_1) (gives_load1 g3 (0 + (k / 4)) _ cs_1 (.int .u32 (hv (sl s) n k / 65536 ^ (k / 4))) (by rfl) (fun _ h => h.blk 0 (by rfl)) ((((hwb.snoc ha1 hb1 hc1 hd1 (hv_top _ n k hlt hDig hz)).len (by omega : (k + 3) / 4 + 1 = (k + 4) / 4)).two.at_ (k / 4) (by omega)).trans (by rw [hcl.2.2])) und_u32) ?_
    refine L_val (.int .u32 (((gt (sl s) (n - 1 - k)) - 97) + 10)) (by rfl) (by exact hl_1) (gives_value _ fun _ => by rfl) ?_
    refine L_val (.int .i64 (k : Int)) (by rfl) (by exact hl_1) (gives_value _ fun _ => by rfl) ?_
    refine L_val (.int .i64 ((k : Int) % 4)) (by rfl) (by exact hl_1) (gives_rem (k := .i64) ((k : Int)) (4) ((k : Int) % 4) (by rfl) (by rfl) (by omega) (IntWalk.rem_in _ _ (by omega))) ?_
    refine L_val (.int .i64 (4 * ((k : Int) % 4))) (by rfl) (by exact hl_1) (gives_mul (k := .i64) (4) ((k : Int) % 4) (4 * ((k : Int) % 4)) (by rfl) (by rfl) (IntWalk.i64_in _ (by omega))) ?_
    refine L_val (.int .u64 (4 * ((k : Int) % 4))) (by rfl) (by exact hl_1) (gives_conv (k2 := .u64) (4 * ((k : Int) % 4)) (4 * ((k : Int) % 4)) (by rfl) und_int und_uint (IntWalk.u64_in _ (by omega))) ?_
    refine L_val (.int .u32 ((dg (gt (sl s) (n - 1 - k))) * 16 ^ (k % 4))) (by rfl) (by exact hl_1) (gives_shl (k := .u32) (k2 := .u64) (((gt (sl s) (n - 1 - k)) - 97) + 10) (4 * ((k : Int) % 4)) ((dg (gt (sl s) (n - 1 - k))) * 16 ^ (k % 4)) (by rfl) (by rfl) (by omega) (by rw [hdg]; exact shl_dig _ k hd.1 hd.2)) ?_
    refine L_val (.int .u32 ((hv (sl s) n k / 65536 ^ (k / 4)) + ((dg (gt (sl s) (n - 1 - k))) * 16 ^ (k % 4)))) (by rfl) (by exact hl_1) (gives_or (k := .u32) ((hv (sl s) n k / 65536 ^ (k / 4))) ((dg (gt (sl s) (n - 1 - k))) * 16 ^ (k % 4)) ((hv (sl s) n k / 65536 ^ (k / 4)) + ((dg (gt (sl s) (n - 1 - k))) * 16 ^ (k % 4))) (by rfl) (by rfl) (or_dig _ _ k hcl.1 hcl.2.1 hd.1 hd.2)) ?_
    refine L_val (.pointer (some ⟨g3, 0 + (k / 4), none⟩)) (by rfl) (by exact hl_1) (gives_index g3 0 ((((k + 3) / 4) + 1)) (cap_1) ((k : Int) / 4) (k / 4) (by rfl) (by rfl) und_u32s u32_sz (by omega) (by omega)) ?_
    refine L_store1 0 g3 (0 + (k / 4)) _ cs_1 (.int .u32 ((hv (sl s) n k / 65536 ^ (k / 4)) + ((dg (gt (sl s) (n - 1 - k))) * 16 ^ (k % 4)))) (by rfl) (by exact hl_1) (by rfl) (by rfl) rfl (by rfl) u32_sz (by have hW := ((hwb.snoc ha1 hb1 hc1 hd1 (hv_top _ n k hlt hDig hz)).len (by omega : (k + 3) / 4 + 1 = (k + 4) / 4)); have := hW.le; rw [hW.size]; omega) ?_
    simp only [List.set_cons_zero, List.set_cons_succ]
    refine L_end ?_
    intro w13 hw13
    refine one_plain hw13 [0, 1, 2] (by rfl) ?_
    refine L_val (.int .i64 (k : Int)) (by rfl) (by exact hl_1) (gives_value _ fun _ => by rfl) ?_
    refine L_val (.int .i64 ((k : Int) + 1)) (by rfl) (by exact hl_1) (gives_add (k := .i64) ((k : Int)) (1) ((k : Int) + 1) (by rfl) (by rfl) (IntWalk.i64_in _ (by omega))) ?_
    refine L_val (.int .i64 ((k : Int) + 1)) (by rfl) (by exact hl_1) (gives_value _ fun _ => by rfl) ?_
    refine L_end ?_
    intro w14 hw14
    change Code.wp _ _ _ _ _
    refine one_plain hw14 [0, 1, 2] (by rfl) ?_
    refine L_val (.int .i64 (((n : Int) - 1) - (k : Int))) (by rfl) (by exact hl_1) (gives_value _ fun _ => by rfl) ?_
    refine L_val (.int .i64 ((((n : Int) - 1) - (k : Int)) - 1)) (by rfl) (by exact hl_1) (gives_sub (k := .i64) (((n : Int) - 1) - (k : Int)) (1) ((((n : Int) - 1) - (k : Int)) - 1) (by rfl) (by rfl) (IntWalk.i64_in _ (by omega))) ?_
    refine L_val (.int .i64 ((((n : Int) - 1) - (k : Int)) - 1)) (by rfl) (by exact hl_1) (gives_value _ fun _ => by rfl) ?_
    refine L_end ?_
    intro w15 hw15
    change ∃ r' : Nat, r' < r_1 ∧ _
    refine ⟨_, ?_, k + 1, g3, cap_1, (cs_1.setIfInBounds (0 + (k / 4)) (.int .u32 ((hv (sl s) n k / 65536 ^ (k / 4)) + ((dg (gt (sl s) (n - 1 - k))) * 16 ^ (k % 4))))), ((5, .int .i64 ((((n : Int) - 1) - (k : Int)) - 1)) :: (15, .int .i64 ((((n : Int) - 1) - (k : Int)) - 1)) :: (14, .int .i64 (((n : Int) - 1) - (k : Int))) :: (4, .int .i64 ((k : Int) + 1)) :: (50, .int .i64 ((k : Int) + 1)) :: (49, .int .i64 (k : Int)) :: (48, .pointer (some ⟨g3, 0 + (k / 4), none⟩)) :: (47, .int .u32 ((hv (sl s) n k / 65536 ^ (k / 4)) + ((dg (gt (sl s) (n - 1 - k))) * 16 ^ (k % 4)))) :: (46, .int .u32 ((dg (gt (sl s) (n - 1 - k))) * 16 ^ (k % 4))) :: (45, .int .u64 (4 * ((k : Int) % 4))) :: (44, .int .i64 (4 * ((k : Int) % 4))) :: (43, .int .i64 ((k : Int) % 4)) :: (42, .int .i64 (k : Int)) :: (41, .int .u32 (((gt (sl s) (n - 1 - k)) - 97) + 10)) :: (40, .int .u32 (hv (sl s) n k / 65536 ^ (k / 4))) :: (39, .pointer (some ⟨g3, 0 + (k / 4), none⟩)) :: (38, .int .i64 ((k : Int) / 4)) :: (37, .int .i64 (k : Int)) :: (36, .slice (some ⟨g3, 0, none⟩) (((k + 3) / 4) + 1) cap_1) :: (3, .slice (some ⟨g3, 0, none⟩) (((k + 3) / 4) + 1) cap_1) :: (35, .slice (some ⟨g3, 0, none⟩) (((k + 3) / 4) + 1) cap_1) :: (34, .slice (some ⟨g2, 0, none⟩) 1 1) :: (33, .slice (some ⟨g, 0, none⟩) ((k + 3) / 4) cap) :: (32, .bool true) :: (31, .int .i64 ((k : Int) % 4)) :: (30, .int .i64 (k : Int)) :: (7, .int .u32 (((gt (sl s) (n - 1 - k)) - 97) + 10)) :: (29, .int .u32 (((gt (sl s) (n - 1 - k)) - 97) + 10)) :: (28, .int .u32 ((gt (sl s) (n - 1 - k)) - 97)) :: (27, .int .u32 (gt (sl s) (n - 1 - k))) :: (26, .int .u8 (gt (sl s) (n - 1 - k))) :: (25, .bool true) :: (24, .int .u8 (gt (sl s) (n - 1 - k))) :: (7, .int .u32 ((gt (sl s) (n - 1 - k)) - 48)) :: (23, .int .u32 ((gt (sl s) (n - 1 - k)) - 48)) :: (22, .int .u32 (gt (sl s) (n - 1 - k))) :: (21, .int .u8 (gt (sl s) (n - 1 - k))) :: (20, .bool false) :: (19, .int .u8 (gt (sl s) (n - 1 - k))) :: (6, .int .u8 (gt (sl s) (n - 1 - k))) :: (18, .int .u8 (gt (sl s) (n - 1 - k))) :: (17, .int .i64 (((n : Int) - 1) - (k : Int))) :: (16, .string s) :: (13, .bool true) :: (12, .int .i64 (((n : Int) - 1) - (k : Int))) :: (0, .string s) :: (3, .slice (some ⟨g, 0, none⟩) ((k + 3) / 4) cap) :: (4, .int .i64 (k : Int)) :: (5, .int .i64 (((n : Int) - 1) - (k : Int))) :: l_1), rfl, (by exact hl_1), (Eq.trans (Eq.trans (Eq.trans (fr_dup _ _ 5 _ (by exact hl_1) (by rfl) (by exact (congrArg (Value.int .i64) (by omega)))).symm (fr_dup _ _ 4 _ (by exact hl_1) (by rfl) (by rfl)).symm) (fr_dup _ _ 3 _ (by exact hl_1) (by rfl) (by exact congrArg (fun q => Value.slice _ q _) (by omega))).symm) (fr_dup _ _ 0 _ (by exact hl_1) (by rfl) (by rfl)).symm), by omega, ((((hwb.snoc ha1 hb1 hc1 hd1 (hv_top _ n k hlt hDig hz)).len (by omega : (k + 3) / 4 + 1 = (k + 4) / 4)).two.set (k / 4) _).list (hv_set _ n k _ hlt hDig rfl)).back.len (by omega), hw15.sub (List.Sublist.cons_cons _ (List.Sublist.cons _ (List.Sublist.refl _)))⟩
    omega
  ·
    obtain ⟨hlt, hz, hbig⟩ := hcase
    have hch := hDig (n - 1 - k) (by omega)
    have hd := dg_lo hch
    have hcl := hv_cell (sl s) n k _ hlt hDig rfl
    have hdg : (gt (sl s) (n - 1 - k)) - 48 = dg (gt (sl s) (n - 1 - k)) := by unfold dg; rw [if_neg (by omega)]
    have hcb : 48 ≤ gt (sl s) (n - 1 - k) ∧ gt (sl s) (n - 1 - k) ≤ 102 := by unfold Dig at hch; omega
    refine wp_seq ?_
    refine seq_plain hw0_1 [0, 1] (by rfl) ?_
    refine L_val (.int .i64 (((n : Int) - 1) - (k : Int))) (by rfl) (by exact hl_1) (gives_value _ fun _ => by rfl) ?_
    refine L_val (.bool true) (by rfl) (by exact hl_1) (gives_geq (k := .i64) (((n : Int) - 1) - (k : Int)) (0) true (by rfl) (by rfl) (decide_eq_true (by omega))) ?_
    refine L_end ?_
    intro w16 hw16
    refine wp_cond_true (fr_at _ _ (by exact hl_1) _) ?_
    refine wp_skip ?_
    change Code.wp _ _ _ _ _
    refine wp_seq ?_
    refine wp_block ?_
    refine seq_plain hw16 [0, 1, 2, 3] (by rfl) ?_
    refine L_val (.string s) (by rfl) (by exact hl_1) (gives_value _ fun _ => by rfl) ?_
    refine L_val (.int .i64 (((n : Int) - 1) - (k : Int))) (by rfl) (by exact hl_1) (gives_value _ fun _ => by rfl) ?_
    refine L_val (.int .u8 (gt (sl s) (n - 1 - k))) (by rfl) (by exact hl_1) (gives_sindex s (((n : Int) - 1) - (k : Int)) (gt (sl s) (n - 1 - k)) (n - 1 - k) (by rfl) (by rfl) und_str (by omega) (sl_at s _ (by omega))) ?_
    refine L_val (.int .u8 (gt (sl s) (n - 1 - k))) (by rfl) (by exact hl_1) (gives_value _ fun _ => by rfl) ?_
    refine L_end ?_
    intro w17 hw17
    refine wp_seq ?_
    refine seq_plain hw17 [0, 1] (by rfl) ?_
    refine L_val (.int .u8 (gt (sl s) (n - 1 - k))) (by rfl) (by exact hl_1) (gives_value _ fun _ => by rfl) ?_
    refine L_val (.bool false) (by rfl) (by exact hl_1) (gives_ieq (k := .u8) (gt (sl s) (n - 1 - k)) (32) false (by rfl) (by rfl) (decide_eq_false (by omega))) ?_
    refine L_end ?_
    intro w18 hw18
    refine wp_cond_false (fr_at _ _ (by exact hl_1) _) ?_
    refine wp_skip ?_
    change Code.wp _ _ _ _ _
    refine seq_plain hw18 [0, 1, 2, 3] (by rfl) ?_
    refine L_val (.int .u8 (gt (sl s) (n - 1 - k))) (by rfl) (by exact hl_1) (gives_value _ fun _ => by rfl) ?_
    refine L_val (.int .u32 (gt (sl s) (n - 1 - k))) (by rfl) (by exact hl_1) (gives_conv (k2 := .u32) (gt (sl s) (n - 1 - k)) (gt (sl s) (n - 1 - k)) (by rfl) und_u8' und_u32 (IntWalk.u32_in _ (by omega))) ?_
    refine L_val (.int .u32 ((gt (sl s) (n - 1 - k)) - 48)) (by rfl) (by exact hl_1) (gives_sub (k := .u32) (gt (sl s) (n - 1 - k)) (48) ((gt (sl s) (n - 1 - k)) - 48) (by rfl) (by rfl) (IntWalk.u32_in _ (by omega))) ?_
    refine L_val (.int .u32 ((gt (sl s) (n - 1 - k)) - 48)) (by rfl) (by exact hl_1) (gives_value _ fun _ => by rfl) ?_
    refine L_end ?_
    intro w19 hw19
    refine wp_seq ?_
    refine seq_plain hw19 [0, 1] (by rfl) ?_
    refine L_val (.int .u8 (gt (sl s) (n - 1 - k))) (by rfl) (by exact hl_1) (gives_value _ fun _ => by rfl) ?_
    refine L_val (.bool false) (by rfl) (by exact hl_1) (gives_geq (k := .u8) (gt (sl s) (n - 1 - k)) (97) false (by rfl) (by rfl) (decide_eq_false (by omega))) ?_
    refine L_end ?_
    intro w20 hw20
    refine wp_cond_false (fr_at _ _ (by exact hl_1) _) ?_
    refine wp_skip ?_
    change Code.wp _ _ _ _ _
    refine wp_seq ?_
    refine seq_plain hw20 [0, 1, 2] (by rfl) ?_
    refine L_val (.int .i64 (k : Int)) (by rfl) (by exact hl_1) (gives_value _ fun _ => by rfl) ?_
    refine L_val (.int .i64 ((k : Int) % 4)) (by rfl) (by exact hl_1) (gives_rem (k := .i64) ((k : Int)) (4) ((k : Int) % 4) (by rfl) (by rfl) (by omega) (IntWalk.rem_in _ _ (by omega))) ?_
    refine L_val (.bool true) (by rfl) (by exact hl_1) (gives_ieq (k := .i64) ((k : Int) % 4) (0) true (by rfl) (by rfl) (decide_eq_true (by omega))) ?_
    refine L_end ?_
    intro w21 hw21
    refine wp_cond_true (fr_at _ _ (by exact hl_1) _) ?_
    refine one_plain hw21 [0, 1, 2, 3] (by rfl) ?_
    refine L_val (.slice (some ⟨g, 0, none⟩) ((k + 3) / 4) cap) (by rfl) (by exact hl_1) (gives_value _ fun _ => by rfl) ?_
    refine L_build1 (.int .u32 0) (.int .u32 0) (by rfl) (by exact hl_1) und_u32s u32_zs rfl (by rfl) rfl ?_; intro g4
    refine L_append 1 0 g g4 ((k + 3) / 4) cap 1 4 (.int .u32 0) (.int .u32 0) cs (by rfl) (by exact hl_1) und_u32s u32_all rfl (by rfl) (by rfl) (by rfl) (by rfl) rfl hwb.le hwb.size hwb.cap (by omega) (by omega) [(g4, 100, #[.int .u32 0])] (by rfl) ?_
    intro g5 cap_2 cs_2 ha2 hb2 hc2 hd2
    refine L_val (.slice (some ⟨g5, 0, none⟩) (((k + 3) / 4) + 1) cap_2) (by rfl) (by exact hl_1) (gives_value _ fun _ => by rfl) ?_
    refine L_end ?_
    intro w22 hw22
    change Code.wp _ _ _ _ _
    refine seq_plain hw22 [0, 1, 2, 3, 4, 5, 6, 7, 8, 9, 10, 11, 12, 13] (by rfl) ?_
    refine L_val (.slice (some ⟨g5, 0, none⟩) (((k + 3) / 4) + 1) cap_2) (by rfl) (by exact hl_1) (gives_value _ fun _ => by rfl) ?_
    refine L_val (.int .i64 (k : Int)) (by rfl) (by exact hl_1) (gives_value _ fun _ => by rfl) ?_
    refine L_val (.int .i64 ((k : Int) / 4)) (by rfl) (by exact hl_1) (gives_quo (k := .i64) ((k : Int)) (4) ((k : Int) / 4) (by rfl) (by rfl) (by omega) (IntWalk.i64_quo _ _ (by omega))) ?_
    refine L_val (.pointer (some ⟨g5, 0 + (k / 4), none⟩)) (by rfl) (by exact hl_1) (gives_index g5 0 ((((k + 3) / 4) + 1)) (cap_2) ((k : Int) / 4) (k / 4) (by rfl) (by rfl) und_u32s u32_sz (by omega) (by omega)) ?_
    refine L_val (.int .u32 (hv (sl s) n k / 65536 ^ (k / 4))) (by rfl) (by exact hl_1) (gives_load1 g5 (0 + (k / 4)) _ cs_2 (.int .u32 (hv (sl s) n k / 65536 ^ (k / 4))) (by rfl) (fun _ h => h.blk 0 (by rfl)) ((((hwb.snoc ha2 hb2 hc2 hd2 (hv_top _ n k hlt hDig hz)).len (by omega : (k + 3) / 4 + 1 = (k + 4) / 4)).two.at_ (k / 4) (by omega)).trans (by rw [hcl.2.2])) und_u32) ?_
    refine L_val (.int .u32 ((gt (sl s) (n - 1 - k)) - 48)) (by rfl) (by exact hl_1) (gives_value _ fun _ => by rfl) ?_
    refine L_val (.int .i64 (k : Int)) (by rfl) (by exact hl_1) (gives_value _ fun _ => by rfl) ?_
    refine L_val (.int .i64 ((k : Int) % 4)) (by rfl) (by exact hl_1) (gives_rem (k := .i64) ((k : Int)) (4) ((k : Int) % 4) (by rfl) (by rfl) (by omega) (IntWalk.rem_in _ _ (by omega))) ?_
    refine L_val (.int .i64 (4 * ((k : Int) % 4))) (by rfl) (by exact hl_1) (gives_mul (k := .i64) (4) ((k : Int) % 4) (4 * ((k : Int) % 4)) (by rfl) (by rfl) (IntWalk.i64_in _ (by omega))) ?_
    refine L_val (.int .u64 (4 * ((k : Int) % 4))) (by rfl) (by exact hl_1) (gives_conv (k2 := .u64) (4 * ((k : Int) % 4)) (4 * ((k : Int) % 4)) (by rfl) und_int und_uint (IntWalk.u64_in _ (by omega))) ?_
    refine L_val (.int .u32 ((dg (gt (sl s) (n - 1 - k))) * 16 ^ (k % 4))) (by rfl) (by exact hl_1) (gives_shl (k := .u32) (k2 := .u64) ((gt (sl s) (n - 1 - k)) - 48) (4 * ((k : Int) % 4)) ((dg (gt (sl s) (n - 1 - k))) * 16 ^ (k % 4)) (by rfl) (by rfl) (by omega) (by rw [hdg]; exact shl_dig _ k hd.1 hd.2)) ?_
    refine L_val (.int .u32 ((hv (sl s) n k / 65536 ^ (k / 4)) + ((dg (gt (sl s) (n - 1 - k))) * 16 ^ (k % 4)))) (by rfl) (by exact hl_1) (gives_or (k := .u32) ((hv (sl s) n k / 65536 ^ (k / 4))) ((dg (gt (sl s) (n - 1 - k))) * 16 ^ (k % 4)) ((hv (sl s) n k / 65536 ^ (k / 4)) + ((dg (gt (sl s) (n - 1 - k))) * 16 ^ (k % 4))) (by rfl) (by rfl) (or_dig _ _ k hcl.1 hcl.2.1 hd.1 hd.2)) ?_
    refine L_val (.pointer (some ⟨g5, 0 + (k / 4), none⟩)) (by rfl) (by exact hl_1) (gives_index g5 0 ((((k + 3) / 4) + 1)) (cap_2) ((k : Int) / 4) (k / 4) (by rfl) (by rfl) und_u32s u32_sz (by omega) (by omega)) ?_
    refine L_store1 0 g5 (0 + (k / 4)) _ cs_2 (.int .u32 ((hv (sl s) n k / 65536 ^ (k / 4)) + ((dg (gt (sl s) (n - 1 - k))) * 16 ^ (k % 4)))) (by rfl) (by exact hl_1) (by rfl) (by rfl) rfl (by rfl) u32_sz (by have hW := ((hwb.snoc ha2 hb2 hc2 hd2 (hv_top _ n k hlt hDig hz)).len (by omega : (k + 3) / 4 + 1 = (k + 4) / 4)); have := hW.le; rw [hW.size]; omega) ?_
    simp only [List.set_cons_zero, List.set_cons_succ]
    refine L_end ?_
    intro w23 hw23
    refine one_plain hw23 [0, 1, 2] (by rfl) ?_
    refine L_val (.int .i64 (k : Int)) (by rfl) (by exact hl_1) (gives_value _ fun _ => by rfl) ?_
    refine L_val (.int .i64 ((k : Int) + 1)) (by rfl) (by exact hl_1) (gives_add (k := .i64) ((k : Int)) (1) ((k : Int) + 1) (by rfl) (by rfl) (IntWalk.i64_in _ (by omega))) ?_
    refine L_val (.int .i64 ((k : Int) + 1)) (by rfl) (by exact hl_1) (gives_value _ fun _ => by rfl) ?_
    refine L_end ?_
    intro w24 hw24
    change Code.wp _ _ _ _ _
    refine one_plain hw24 [0, 1, 2] (by rfl) ?_
    refine L_val (.int .i64 (((n : Int) - 1) - (k : Int))) (by rfl) (by exact hl_1) (gives_value _ fun _ => by rfl) ?_
    refine L_val (.int .i64 ((((n : Int) - 1) - (k : Int)) - 1)) (by rfl) (by exact hl_1) (gives_sub (k := .i64) (((n : Int) - 1) - (k : Int)) (1) ((((n : Int) - 1) - (k : Int)) - 1) (by rfl) (by rfl) (IntWalk.i64_in _ (by omega))) ?_
    refine L_val (.int .i64 ((((n : Int) - 1) - (k : Int)) - 1)) (by rfl) (by exact hl_1) (gives_value _ fun _ => by rfl) ?_
    refine L_end ?_
    intro w25 hw25
    change ∃ r' : Nat, r' < r_1 ∧ _
    refine ⟨_, ?_, k + 1, g5, cap_2, (cs_2.setIfInBounds (0 + (k / 4)) (.int .u32 ((hv (sl s) n k / 65536 ^ (k / 4)) + ((dg (gt (sl s) (n - 1 - k))) * 16 ^ (k % 4))))), ((5, .int .i64 ((((n : Int) - 1) - (k : Int)) - 1)) :: (15, .int .i64 ((((n : Int) - 1) - (k : Int)) - 1)) :: (14, .int .i64 (((n : Int) - 1) - (k : Int))) :: (4, .int .i64 ((k : Int) + 1)) :: (50, .int .i64 ((k : Int) + 1)) :: (49, .int .i64 (k : Int)) :: (48, .pointer (some ⟨g5, 0 + (k / 4), none⟩)) :: (47, .int .u32 ((hv (sl s) n k / 65536 ^ (k / 4)) + ((dg (gt (sl s) (n - 1 - k))) * 16 ^ (k % 4)))) :: (46, .int .u32 ((dg (gt (sl s) (n - 1 - k))) * 16 ^ (k % 4))) :: (45, .int .u64 (4 * ((k : Int) % 4))) :: (44, .int .i64 (4 * ((k : Int) % 4))) :: (43, .int .i64 ((k : Int) % 4)) :: (42, .int .i64 (k : Int)) :: (41, .int .u32 ((gt (sl s) (n - 1 - k)) - 48)) :: (40, .int .u32 (hv (sl s) n k / 65536 ^ (k / 4))) :: (39, .pointer (some ⟨g5, 0 + (k / 4), none⟩)) :: (38, .int .i64 ((k : Int) / 4)) :: (37, .int .i64 (k : Int)) :: (36, .slice (some ⟨g5, 0, none⟩) (((k + 3) / 4) + 1) cap_2) :: (3, .slice (some ⟨g5, 0, none⟩) (((k + 3) / 4) + 1) cap_2) :: (35, .slice (some ⟨g5, 0, none⟩) (((k + 3) / 4) + 1) cap_2) :: (34, .slice (some ⟨g4, 0, none⟩) 1 1) :: (33, .slice (some ⟨g, 0, none⟩) ((k + 3) / 4) cap) :: (32, .bool true) :: (31, .int .i64 ((k : Int) % 4)) :: (30, .int .i64 (k : Int)) :: (25, .bool false) :: (24, .int .u8 (gt (sl s) (n - 1 - k))) :: (7, .int .u32 ((gt (sl s) (n - 1 - k)) - 48)) :: (23, .int .u32 ((gt (sl s) (n - 1 - k)) - 48)) :: (22, .int .u32 (gt (sl s) (n - 1 - k))) :: (21, .int .u8 (gt (sl s) (n - 1 - k))) :: (20, .bool false) :: (19, .int .u8 (gt (sl s) (n - 1 - k))) :: (6, .int .u8 (gt (sl s) (n - 1 - k))) :: (18, .int .u8 (gt (sl s) (n - 1 - k))) :: (17, .int .i64 (((n : Int) - 1) - (k : Int))) :: (16, .string s) :: (13, .bool true) :: (12, .int .i64 (((n : Int) - 1) - (k : Int))) :: (0, .string s) :: (3, .slice (some ⟨g, 0, none⟩) ((k + 3) / 4) cap) :: (4, .int .i64 (k : Int)) :: (5, .int .i64 (((n : Int) - 1) - (k : Int))) :: l_1), rfl, (by exact hl_1), (Eq.trans (Eq.trans (Eq.trans (fr_dup _ _ 5 _ (by exact hl_1) (by rfl) (by exact (congrArg (Value.int .i64) (by omega)))).symm (fr_dup _ _ 4 _ (by exact hl_1) (by rfl) (by rfl)).symm) (fr_dup _ _ 3 _ (by exact hl_1) (by rfl) (by exact congrArg (fun q => Value.slice _ q _) (by omega))).symm) (fr_dup _ _ 0 _ (by exact hl_1) (by rfl) (by rfl)).symm), by omega, ((((hwb.snoc ha2 hb2 hc2 hd2 (hv_top _ n k hlt hDig hz)).len (by omega : (k + 3) / 4 + 1 = (k + 4) / 4)).two.set (k / 4) _).list (hv_set _ n k _ hlt hDig rfl)).back.len (by omega), hw25.sub (List.Sublist.cons_cons _ (List.Sublist.cons _ (List.Sublist.refl _)))⟩
    omega
  ·
    obtain ⟨hlt, hz, hbig⟩ := hcase
    have hch := hDig (n - 1 - k) (by omega)
    have hd := dg_lo hch
    have hcl := hv_cell (sl s) n k _ hlt hDig rfl
    have hdg : ((gt (sl s) (n - 1 - k)) - 97) + 10 = dg (gt (sl s) (n - 1 - k)) := by unfold dg; rw [if_pos hbig]; omega
    have hcb : 48 ≤ gt (sl s) (n - 1 - k) ∧ gt (sl s) (n - 1 - k) ≤ 102 := by unfold Dig at hch; omega
    refine wp_seq ?_
    refine seq_plain hw0_1 [0, 1] (by rfl) ?_
    refine L_val (.int .i64 (((n : Int) - 1) - (k : Int))) (by rfl) (by exact hl_1) (gives_value _ fun _ => by rfl) ?_
    refine L_val (.bool true) (by rfl) (by exact hl_1) (gives_geq (k := .i64) (((n : Int) - 1) - (k : Int)) (0) true (by rfl) (by rfl) (decide_eq_true (by omega))) ?_
    refine L_end ?_
    intro w26 hw26
    refine wp_cond_true (fr_at _ _ (by exact hl_1) _) ?_
    refine wp_skip ?_
    change Code.wp _ _ _ _ _
    refine wp_seq ?_
    refine wp_block ?_
    refine seq_plain hw26 [0, 1, 2, 3] (by rfl) ?_
    refine L_val (.string s) (by rfl) (by exact hl_1) (gives_value _ fun _ => by rfl) ?_
    refine L_val (.int .i64 (((n : Int) - 1) - (k : Int))) (by rfl) (by exact hl_1) (gives_value _ fun _ => by rfl) ?_
    refine L_val (.int .u8 (gt (sl s) (n - 1 - k))) (by rfl) (by exact hl_1) (gives_sindex s (((n : Int) - 1) - (k : Int)) (gt (sl s) (n - 1 - k)) (n - 1 - k) (by rfl) (by rfl) und_str (by omega) (sl_at s _ (by omega))) ?_
    refine L_val (.int .u8 (gt (sl s) (n - 1 - k))) (by rfl) (by exact hl_1) (gives_value _ fun _ => by rfl) ?_
    refine L_end ?_
    intro w27 hw27
    refine wp_seq ?_
    refine seq_plain hw27 [0, 1] (by rfl) ?_
    refine L_val (.int .u8 (gt (sl s) (n - 1 - k))) (by rfl) (by exact hl_1) (gives_value _ fun _ => by rfl) ?_
    refine L_val (.bool false) (by rfl) (by exact hl_1) (gives_ieq (k := .u8) (gt (sl s) (n - 1 - k)) (32) false (by rfl) (by rfl) (decide_eq_false (by omega))) ?_
    refine L_end ?_
    intro w28 hw28
    refine wp_cond_false (fr_at _ _ (by exact hl_1) _) ?_
    refine wp_skip ?_
    change Code.wp _ _ _ _ _
    refine seq_plain hw28 [0, 1, 2, 3] (by rfl) ?_
    refine L_val (.int .u8 (gt (sl s) (n - 1 - k))) (by rfl) (by exact hl_1) (gives_value _ fun _ => by rfl) ?_
    refine L_val (.int .u32 (gt (sl s) (n - 1 - k))) (by rfl) (by exact hl_1) (gives_conv (k2 := .u32) (gt (sl s) (n - 1 - k)) (gt (sl s) (n - 1 - k)) (by rfl) und_u8' und_u32 (IntWalk.u32_in _ (by omega))) ?_
    refine L_val (.int .u32 ((gt (sl s) (n - 1 - k)) - 48)) (by rfl) (by exact hl_1) (gives_sub (k := .u32) (gt (sl s) (n - 1 - k)) (48) ((gt (sl s) (n - 1 - k)) - 48) (by rfl) (by rfl) (IntWalk.u32_in _ (by omega))) ?_
    refine L_val (.int .u32 ((gt (sl s) (n - 1 - k)) - 48)) (by rfl) (by exact hl_1) (gives_value _ fun _ => by rfl) ?_
    refine L_end ?_
    intro w29 hw29
    refine wp_seq ?_
    refine seq_plain hw29 [0, 1] (by rfl) ?_
    refine L_val (.int .u8 (gt (sl s) (n - 1 - k))) (by rfl) (by exact hl_1) (gives_value _ fun _ => by rfl) ?_
    refine L_val (.bool true) (by rfl) (by exact hl_1) (gives_geq (k := .u8) (gt (sl s) (n - 1 - k)) (97) true (by rfl) (by rfl) (decide_eq_true (by omega))) ?_
    refine L_end ?_
    intro w30 hw30
    refine wp_cond_true (fr_at _ _ (by exact hl_1) _) ?_
    refine one_plain hw30 [0, 1, 2, 3, 4] (by rfl) ?_
    refine L_val (.int .u8 (gt (sl s) (n - 1 - k))) (by rfl) (by exact hl_1) (gives_value _ fun _ => by rfl) ?_
    refine L_val (.int .u32 (gt (sl s) (n - 1 - k))) (by rfl) (by exact hl_1) (gives_conv (k2 := .u32) (gt (sl s) (n - 1 - k)) (gt (sl s) (n - 1 - k)) (by rfl) und_u8' und_u32 (IntWalk.u32_in _ (by omega))) ?_
    refine L_val (.int .u32 ((gt (sl s) (n - 1 - k)) - 97)) (by rfl) (by exact hl_1) (gives_sub (k := .u32) (gt (sl s) (n - 1 - k)) (97) ((gt (sl s) (n - 1 - k)) - 97) (by rfl) (by rfl) (IntWalk.u32_in _ (by omega))) ?_
    refine L_val (.int .u32 (((gt (sl s) (n - 1 - k)) - 97) + 10)) (by rfl) (by exact hl_1) (gives_add (k := .u32) ((gt (sl s) (n - 1 - k)) - 97) (10) (((gt (sl s) (n - 1 - k)) - 97) + 10) (by rfl) (by rfl) (IntWalk.u32_in _ (by omega))) ?_
    refine L_val (.int .u32 (((gt (sl s) (n - 1 - k)) - 97) + 10)) (by rfl) (by exact hl_1) (gives_value _ fun _ => by rfl) ?_
    refine L_end ?_
    intro w31 hw31
    change Code.wp _ _ _ _ _
    refine wp_seq ?_
    refine seq_plain hw31 [0, 1, 2] (by rfl) ?_
    refine L_val (.int .i64 (k : Int)) (by rfl) (by exact hl_1) (gives_value _ fun _ => by rfl) ?_
    refine L_val (.int .i64 ((k : Int) % 4)) (by rfl) (by exact hl_1) (gives_rem (k := .i64) ((k : Int)) (4) ((k : Int) % 4) (by rfl) (by rfl) (by omega) (IntWalk.rem_in _ _ (by omega))) ?_
    refine L_val (.bool false) (by rfl) (by exact hl_1) (gives_ieq (k := .i64) ((k : Int) % 4) (0) false (by rfl) (by rfl) (decide_eq_false (by omega))) ?_
    refine L_end ?_
    intro w32 hw32
    refine wp_cond_false (fr_at _ _ (by exact hl_1) _) ?_
    refine wp_skip ?_
    change Code.wp _ _ _ _ _
    refine seq_plain hw32 [0, 1, 2, 3, 4, 5, 6, 7, 8, 9, 10, 11, 12, 13] (by rfl) ?_
    refine L_val (.slice (some ⟨g, 0, none⟩) ((k + 3) / 4) cap) (by rfl) (by exact hl_1) (gives_value _ fun _ => by rfl) ?_
    refine L_val (.int .i64 (k : Int)) (by rfl) (by exact hl_1) (gives_value _ fun _ => by rfl) ?_
    refine L_val (.int .i64 ((k : Int) / 4)) (by rfl) (by exact hl_1) (gives_quo (k := .i64) ((k : Int)) (4) ((k : Int) / 4) (by rfl) (by rfl) (by omega) (IntWalk.i64_quo _ _ (by omega))) ?_
    refine L_val (.pointer (some ⟨g, 0 + (k / 4), none⟩)) (by rfl) (by exact hl_1) (gives_index g 0 (((k + 3) / 4)) (cap) ((k : Int) / 4) (k / 4) (by rfl) (by rfl) und_u32s u32_sz (by omega) (by omega)) ?_
    refine L_val (.int .u32 (hv (sl s) n k / 65536 ^ (k / 4))) (by rfl) (by exact hl_1) (gives_load1 g (0 + (k / 4)) _ cs (.int .u32 (hv (sl s) n k / 65536 ^ (k / 4))) (by rfl) (fun _ h => h.blk 0 (by rfl)) (((hwb.len (by omega : (k + 3) / 4 = (k + 4) / 4)).two.at_ (k / 4) (by omega)).trans (by rw [hcl.2.2])) und_u32) ?_
    refine L_val (.int .u32 (((gt (sl s) (n - 1 - k)) - 97) + 10)) (by rfl) (by exact hl_1) (gives_value _ fun _ => by rfl) ?_
    refine L_val (.int .i64 (k : Int)) (by rfl) (by exact hl_1) (gives_value _ fun _ => by rfl) ?_
    refine L_val (.int .i64 ((k : Int) % 4)) (by rfl) (by exact hl_1) (gives_rem (k := .i64) ((k : Int)) (4) ((k : Int) % 4) (by rfl) (by rfl) (by omega) (IntWalk.rem_in _ _ (by omega))) ?_
    refine L_val (.int .i64 (4 * ((k : Int) % 4))) (by rfl) (by exact hl_1) (gives_mul (k := .i64) (4) ((k : Int) % 4) (4 * ((k : Int) % 4)) (by rfl) (by rfl) (IntWalk.i64_in _ (by omega))) ?_
    refine L_val (.int .u64 (4 * ((k : Int) % 4))) (by rfl) (by exact hl_1) (gives_conv (k2 := .u64) (4 * ((k : Int) % 4)) (4 * ((k : Int) % 4)) (by rfl) und_int und_uint (IntWalk.u64_in _ (by omega))) ?_
    refine L_val (.int .u32 ((dg (gt (sl s) (n - 1 - k))) * 16 ^ (k % 4))) (by rfl) (by exact hl_1) (gives_shl (k := .u32) (k2 := .u64) (((gt (sl s) (n - 1 - k)) - 97) + 10) (4 * ((k : Int) % 4)) ((dg (gt (sl s) (n - 1 - k))) * 16 ^ (k % 4)) (by rfl) (by rfl) (by omega) (by rw [hdg]; exact shl_dig _ k hd.1 hd.2)) ?_
    refine L_val (.int .u32 ((hv (sl s) n k / 65536 ^ (k / 4)) + ((dg (gt (sl s) (n - 1 - k))) * 16 ^ (k % 4)))) (by rfl) (by exact hl_1) (gives_or (k := .u32) ((hv (sl s) n k / 65536 ^ (k / 4))) ((dg (gt (sl s) (n - 1 - k))) * 16 ^ (k % 4)) ((hv (sl s) n k / 65536 ^ (k / 4)) + ((dg (gt (sl s) (n - 1 - k))) * 16 ^ (k % 4))) (by rfl) (by rfl) (or_dig _ _ k hcl.1 hcl.2.1 hd.1 hd.2)) ?_
    refine L_val (.pointer (some ⟨g, 0 + (k / 4), none⟩)) (by rfl) (by exact hl_1) (gives_index g 0 (((k + 3) / 4)) (cap) ((k : Int) / 4) (k / 4) (by rfl) (by rfl) und_u32s u32_sz (by omega) (by omega)) ?_
    refine L_store1 0 g (0 + (k / 4)) _ cs (.int .u32 ((hv (sl s) n k / 65536 ^ (k / 4)) + ((dg (gt (sl s) (n - 1 - k))) * 16 ^ (k % 4)))) (by rfl) (by exact hl_1) (by rfl) (by rfl) rfl (by rfl) u32_sz (by have hW := (hwb.len (by omega : (k + 3) / 4 = (k + 4) / 4)); have := hW.le; rw [hW.size]; omega) ?_
    simp only [List.set_cons_zero, List.set_cons_succ]
    refine L_end ?_
    intro w33 hw33
    refine one_plain hw33 [0, 1, 2] (by rfl) ?_
    refine L_val (.int .i64 (k : Int)) (by rfl) (by exact hl_1) (gives_value _ fun _ => by rfl) ?_
    refine L_val (.int .i64 ((k : Int) + 1)) (by rfl) (by exact hl_1) (gives_add (k := .i64) ((k : Int)) (1) ((k : Int) + 1) (by rfl) (by rfl) (IntWalk.i64_in _ (by omega))) ?_
    refine L_val (.int .i64 ((k : Int) + 1)) (by rfl) (by exact hl_1) (gives_value _ fun _ => by rfl) ?_
    refine L_end ?_
    intro w34 hw34
    change Code.wp _ _ _ _ _
    refine one_plain hw34 [0, 1, 2] (by rfl) ?_
    refine L_val (.int .i64 (((n : Int) - 1) - (k : Int))) (by rfl) (by exact hl_1) (gives_value _ fun _ => by rfl) ?_
    refine L_val (.int .i64 ((((n : Int) - 1) - (k : Int)) - 1)) (by rfl) (by exact hl_1) (gives_sub (k := .i64) (((n : Int) - 1) - (k : Int)) (1) ((((n : Int) - 1) - (k : Int)) - 1) (by rfl) (by rfl) (IntWalk.i64_in _ (by omega))) ?_
    refine L_val (.int .i64 ((((n : Int) - 1) - (k : Int)) - 1)) (by rfl) (by exact hl_1) (gives_value _ fun _ => by rfl) ?_
    refine L_end ?_
    intro w35 hw35
    change ∃ r' : Nat, r' < r_1 ∧ _
    refine ⟨_, ?_, k + 1, g, cap, (cs.setIfInBounds (0 + (k / 4)) (.int .u32 ((hv (sl s) n k / 65536 ^ (k / 4)) + ((dg (gt (sl s) (n - 1 - k))) * 16 ^ (k % 4))))), ((5, .int .i64 ((((n : Int) - 1) - (k : Int)) - 1)) :: (15, .int .i64 ((((n : Int) - 1) - (k : Int)) - 1)) :: (14, .int .i64 (((n : Int) - 1) - (k : Int))) :: (4, .int .i64 ((k : Int) + 1)) :: (50, .int .i64 ((k : Int) + 1)) :: (49, .int .i64 (k : Int)) :: (48, .pointer (some ⟨g, 0 + (k / 4), none⟩)) :: (47, .int .u32 ((hv (sl s) n k / 65536 ^ (k / 4)) + ((dg (gt (sl s) (n - 1 - k))) * 16 ^ (k % 4)))) :: (46, .int .u32 ((dg (gt (sl s) (n - 1 - k))) * 16 ^ (k % 4))) :: (45, .int .u64 (4 * ((k : Int) % 4))) :: (44, .int .i64 (4 * ((k : Int) % 4))) :: (43, .int .i64 ((k : Int) % 4)) :: (42, .int .i64 (k : Int)) :: (41, .int .u32 (((gt (sl s) (n - 1 - k)) - 97) + 10)) :: (40, .int .u32 (hv (sl s) n k / 65536 ^ (k / 4))) :: (39, .pointer (some ⟨g, 0 + (k / 4), none⟩)) :: (38, .int .i64 ((k : Int) / 4)) :: (37, .int .i64 (k : Int)) :: (36, .slice (some ⟨g, 0, none⟩) ((k + 3) / 4) cap) :: (32, .bool false) :: (31, .int .i64 ((k : Int) % 4)) :: (30, .int .i64 (k : Int)) :: (7, .int .u32 (((gt (sl s) (n - 1 - k)) - 97) + 10)) :: (29, .int .u32 (((gt (sl s) (n - 1 - k)) - 97) + 10)) :: (28, .int .u32 ((gt (sl s) (n - 1 - k)) - 97)) :: (27, .int .u32 (gt (sl s) (n - 1 - k))) :: (26, .int .u8 (gt (sl s) (n - 1 - k))) :: (25, .bool true) :: (24, .int .u8 (gt (sl s) (n - 1 - k))) :: (7, .int .u32 ((gt (sl s) (n - 1 - k)) - 48)) :: (23, .int .u32 ((gt (sl s) (n - 1 - k)) - 48)) :: (22, .int .u32 (gt (sl s) (n - 1 - k))) :: (21, .int .u8 (gt (sl s) (n - 1 - k))) :: (20, .bool false) :: (19, .int .u8 (gt (sl s) (n - 1 - k))) :: (6, .int .u8 (gt (sl s) (n - 1 - k))) :: (18, .int .u8 (gt (sl s) (n - 1 - k))) :: (17, .int .i64 (((n : Int) - 1) - (k : Int))) :: (16, .string s) :: (13, .bool true) :: (12, .int .i64 (((n : Int) - 1) - (k : Int))) :: (0, .string s) :: (3, .slice (some ⟨g, 0, none⟩) ((k + 3) / 4) cap) :: (4, .int .i64 (k : Int)) :: (5, .int .i64 (((n : Int) - 1) - (k : Int))) :: l_1), rfl, (by exact hl_1), (Eq.trans (Eq.trans (Eq.trans (fr_dup _ _ 5 _ (by exact hl_1) (by rfl) (by exact (congrArg (Value.int .i64) (by omega)))).symm (fr_dup _ _ 4 _ (by exact hl_1) (by rfl) (by rfl)).symm) (fr_dup _ _ 3 _ (by exact hl_1) (by rfl) (by exact congrArg (fun q => Value.slice _ q _) (by omega))).symm) (fr_dup _ _ 0 _ (by exact hl_1) (by rfl) (by rfl)).symm), by omega, (((hwb.len (by omega : (k + 3) / 4 = (k + 4) / 4)).two.set (k / 4) _).list (hv_set _ n k _ hlt hDig rfl)).back.len (by omega), hw35⟩
    omega
  ·
    obtain ⟨hlt, hz, hbig⟩ := hcase
    have hch := hDig (n - 1 - k) (by omega)
    have hd := dg_lo hch
    have hcl := hv_cell (sl s) n k _ hlt hDig rfl
    have hdg : (gt (sl s) (n - 1 - k)) - 48 = dg (gt (sl s) (n - 1 - k)) := by unfold dg; rw [if_neg (by omega)]
    have hcb : 48 ≤ gt (sl s) (n - 1 - k) ∧ gt (sl s) (n - 1 - k) ≤ 102 := by unfold Dig at hch; omega
    refine wp_seq ?_
    refine seq_plain hw0_1 [0, 1] (by rfl) ?_
    refine L_val (.int .i64 (((n : Int) - 1) - (k : Int))) (by rfl) (by exact hl_1) (gives_value _ fun _ => by rfl) ?_
    refine L_val (.bool true) (by rfl) (by exact hl_1) (gives_geq (k := .i64) (((n : Int) - 1) - (k : Int)) (0) true (by rfl) (by rfl) (decide_eq_true (by omega))) ?_
    refine L_end ?_
    intro w36 hw36
    refine wp_cond_true (fr_at _ _ (by exact hl_1) _) ?_
    refine wp_skip ?_
    change Code.wp _ _ _ _ _
    refine wp_seq ?_
    refine wp_block ?_
    refine seq_plain hw36 [0, 1, 2, 3] (by rfl) ?_
    refine L_val (.string s) (by rfl) (by exact hl_1) (gives_value _ fun _ => by rfl) ?_
    refine L_val (.int .i64 (((n : Int) - 1) - (k : Int))) (by rfl) (by exact hl_1) (gives_value _ fun _ => by rfl) ?_
    refine L_val (.int .u8 (gt (sl s) (n - 1 - k))) (by rfl) (by exact hl_1) (gives_sindex s (((n : Int) - 1) - (k : Int)) (gt (sl s) (n - 1 - k)) (n - 1 - k) (by rfl) (by rfl) und_str (by omega) (sl_at s _ (by omega))) ?_
    refine L_val (.int .u8 (gt (sl s) (n - 1 - k))) (by rfl) (by exact hl_1) (gives_value _ fun _ => by rfl) ?_
    refine L_end ?_
    intro w37 hw37
    refine wp_seq ?_
    refine seq_plain hw37 [0, 1] (by rfl) ?_
    refine L_val (.int .u8 (gt (sl s) (n - 1 - k))) (by rfl) (by exact hl_1) (gives_value _ fun _ => by rfl) ?_
    refine L_val (.bool false) (by rfl) (by exact hl_1) (gives_ieq (k := .u8) (gt (sl s) (n - 1 - k)) (32) false (by rfl) (by rfl) (decide_eq_false (by omega))) ?_
    refine L_end ?_
    intro w38 hw38
    refine wp_cond_false (fr_at _ _ (by exact hl_1) _) ?_
    refine wp_skip ?_
    change Code.wp _ _ _ _ _
    refine seq_plain hw38 [0, 1, 2, 3] (by rfl) ?_
    refine L_val (.int .u8 (gt (sl s) (n - 1 - k))) (by rfl) (by exact hl_1) (gives_value _ fun _ => by rfl) ?_
    refine L_val (.int .u32 (gt (sl s) (n - 1 - k))) (by rfl) (by exact hl_1) (gives_conv (k2 := .u32) (gt (sl s) (n - 1 - k)) (gt (sl s) (n - 1 - k)) (by rfl) und_u8' und_u32 (IntWalk.u32_in _ (by omega))) ?_
    refine L_val (.int .u32 ((gt (sl s) (n - 1 - k)) - 48)) (by rfl) (by exact hl_1) (gives_sub (k := .u32) (gt (sl s) (n - 1 - k)) (48) ((gt (sl s) (n - 1 - k)) - 48) (by rfl) (by rfl) (IntWalk.u32_in _ (by omega))) ?_
    refine L_val (.int .u32 ((gt (sl s) (n - 1 - k)) - 48)) (by rfl) (by exact hl_1) (gives_value _ fun _ => by rfl) ?_
    refine L_end ?_
    intro w39 hw39
    refine wp_seq ?_
    refine seq_plain hw39 [0, 1] (by rfl) ?_
    refine L_val (.int .u8 (gt (sl s) (n - 1 - k))) (by rfl) (by exact hl_1) (gives_value _ fun _ => by rfl) ?_
    refine L_val (.bool false) (by rfl) (by exact hl_1) (gives_geq (k := .u8) (gt (sl s) (n - 1 - k)) (97) false (by rfl) (by rfl) (decide_eq_false (by omega))) ?_
    refine L_end ?_
    intro w40 hw40
    refine wp_cond_false (fr_at _ _ (by exact hl_1) _) ?_
    refine wp_skip ?_
    change Code.wp _ _ _ _ _
    refine wp_seq ?_
    refine seq_plain hw40 [0, 1, 2] (by rfl) ?_
    refine L_val (.int .i64 (k : Int)) (by rfl) (by exact hl_1) (gives_value _ fun _ => by rfl) ?_
    refine L_val (.int .i64 ((k : Int) % 4)) (by rfl) (by exact hl_1) (gives_rem (k := .i64) ((k : Int)) (4) ((k : Int) % 4) (by rfl) (by rfl) (by omega) (IntWalk.rem_in _ _ (by omega))) ?_
    refine L_val (.bool false) (by rfl) (by exact hl_1) (gives_ieq (k := .i64) ((k : Int) % 4) (0) false (by rfl) (by rfl) (decide_eq_false (by omega))) ?_
    refine L_end ?_
    intro w41 hw41
    refine wp_cond_false (fr_at _ _ (by exact hl_1) _) ?_
    refine wp_skip ?_
    change Code.wp _ _ _ _ _
    refine seq_plain hw41 [0, 1, 2, 3, 4, 5, 6, 7, 8, 9, 10, 11, 12, 13] (by rfl) ?_
    refine L_val (.slice (some ⟨g, 0, none⟩) ((k + 3) / 4) cap) (by rfl) (by exact hl_1) (gives_value _ fun _ => by rfl) ?_
    refine L_val (.int .i64 (k : Int)) (by rfl) (by exact hl_1) (gives_value _ fun _ => by rfl) ?_
    refine L_val (.int .i64 ((k : Int) / 4)) (by rfl) (by exact hl_1) (gives_quo (k := .i64) ((k : Int)) (4) ((k : Int) / 4) (by rfl) (by rfl) (by omega) (IntWalk.i64_quo _ _ (by omega))) ?_
    refine L_val (.pointer (some ⟨g, 0 + (k / 4), none⟩)) (by rfl) (by exact hl_1) (gives_index g 0 (((k + 3) / 4)) (cap) ((k : Int) / 4) (k / 4) (by rfl) (by rfl) und_u32s u32_sz (by omega) (by omega)) ?_
    refine L_val (.int .u32 (hv (sl s) n k / 65536 ^ (k / 4))) (by rfl) (by exact hl_1) (gives_load1 g (0 + (k / 4)) _ cs (.int .u32 (hv (sl s) n k / 65536 ^ (k / 4))) (by rfl) (fun _ h => h.blk 0 (by rfl)) (((hwb.len (by omega : (k + 3) / 4 = (k + 4) / 4)).two.at_ (k / 4) (by omega)).trans (by rw [hcl.2.2])) und_u32) ?_
    refine L_val (.int .u32 ((gt (sl s) (n - 1 - k)) - 48)) (by rfl) (by exact hl_1) (gives_value _ fun _ => by rfl) ?_
    refine L_val (.int .i64 (k : Int)) (by rfl) (by exact hl_1) (gives_value _ fun _ => by rfl) ?_
    refine L_val (.int .i64 ((k : Int) % 4)) (by rfl) (by exact hl_1) (gives_rem (k := .i64) ((k : Int)) (4) ((k : Int) % 4) (by rfl) (by rfl) (by omega) (IntWalk.rem_in _ _ (by omega))) ?_
    refine L_val (.int .i64 (4 * ((k : Int) % 4))) (by rfl) (by exact hl_1) (gives_mul (k := .i64) (4) ((k : Int) % 4) (4 * ((k : Int) % 4)) (by rfl) (by rfl) (IntWalk.i64_in _ (by omega))) ?_
    refine L_val (.int .u64 (4 * ((k : Int) % 4))) (by rfl) (by exact hl_1) (gives_conv (k2 := .u64) (4 * ((k : Int) % 4)) (4 * ((k : Int) % 4)) (by rfl) und_int und_uint (IntWalk.u64_in _ (by omega))) ?_
    refine L_val (.int .u32 ((dg (gt (sl s) (n - 1 - k))) * 16 ^ (k % 4))) (by rfl) (by exact hl_1) (gives_shl (k := .u32) (k2 := .u64) ((gt (sl s) (n - 1 - k)) - 48) (4 * ((k : Int) % 4)) ((dg (gt (sl s) (n - 1 - k))) * 16 ^ (k % 4)) (by rfl) (by rfl) (by omega) (by rw [hdg]; exact shl_dig _ k hd.1 hd.2)) ?_
    refine L_val (.int .u32 ((hv (sl s) n k / 65536 ^ (k / 4)) + ((dg (gt (sl s) (n - 1 - k))) * 16 ^ (k % 4)))) (by rfl) (by exact hl_1) (gives_or (k := .u32) ((hv (sl s) n k / 65536 ^ (k / 4))) ((dg (gt (sl s) (n - 1 - k))) * 16 ^ (k % 4)) ((hv (sl s) n k / 65536 ^ (k / 4)) + ((dg (gt (sl s) (n - 1 - k))) * 16 ^ (k % 4))) (by rfl) (by rfl) (or_dig _ _ k hcl.1 hcl.2.1 hd.1 hd.2)) ?_
    refine L_val (.pointer (some ⟨g, 0 + (k / 4), none⟩)) (by rfl) (by exact hl_1) (gives_index g 0 (((k + 3) / 4)) (cap) ((k : Int) / 4) (k / 4) (by rfl) (by rfl) und_u32s u32_sz (by omega) (by omega)) ?_
    refine L_store1 0 g (0 + (k / 4)) _ cs (.int .u32 ((hv (sl s) n k / 65536 ^ (k / 4)) + ((dg (gt (sl s) (n - 1 - k))) * 16 ^ (k % 4)))) (by rfl) (by exact hl_1) (by rfl) (by rfl) rfl (by rfl) u32_sz (by have hW := (hwb.len (by omega : (k + 3) / 4 = (k + 4) / 4)); have := hW.le; rw [hW.size]; omega) ?_
    simp only [List.set_cons_zero, List.set_cons_succ]
    refine L_end ?_
    intro w42 hw42
    refine one_plain hw42 [0, 1, 2] (by rfl) ?_
    refine L_val (.int .i64 (k : Int)) (by rfl) (by exact hl_1) (gives_value _ fun _ => by rfl) ?_
    refine L_val (.int .i64 ((k : Int) + 1)) (by rfl) (by exact hl_1) (gives_add (k := .i64) ((k : Int)) (1) ((k : Int) + 1) (by rfl) (by rfl) (IntWalk.i64_in _ (by omega))) ?_
    refine L_val (.int .i64 ((k : Int) + 1)) (by rfl) (by exact hl_1) (gives_value _ fun _ => by rfl) ?_
    refine L_end ?_
    intro w43 hw43
    change Code.wp _ _ _ _ _
    refine one_plain hw43 [0, 1, 2] (by rfl) ?_
    refine L_val (.int .i64 (((n : Int) - 1) - (k : Int))) (by rfl) (by exact hl_1) (gives_value _ fun _ => by rfl) ?_
    refine L_val (.int .i64 ((((n : Int) - 1) - (k : Int)) - 1)) (by rfl) (by exact hl_1) (gives_sub (k := .i64) (((n : Int) - 1) - (k : Int)) (1) ((((n : Int) - 1) - (k : Int)) - 1) (by rfl) (by rfl) (IntWalk.i64_in _ (by omega))) ?_
    refine L_val (.int .i64 ((((n : Int) - 1) - (k : Int)) - 1)) (by rfl) (by exact hl_1) (gives_value _ fun _ => by rfl) ?_
    refine L_end ?_
    intro w44 hw44
    change ∃ r' : Nat, r' < r_1 ∧ _
    refine ⟨_, ?_, k + 1, g, cap, (cs.setIfInBounds (0 + (k / 4)) (.int .u32 ((hv (sl s) n k / 65536 ^ (k / 4)) + ((dg (gt (sl s) (n - 1 - k))) * 16 ^ (k % 4))))), ((5, .int .i64 ((((n : Int) - 1) - (k : Int)) - 1)) :: (15, .int .i64 ((((n : Int) - 1) - (k : Int)) - 1)) :: (14, .int .i64 (((n : Int) - 1) - (k : Int))) :: (4, .int .i64 ((k : Int) + 1)) :: (50, .int .i64 ((k : Int) + 1)) :: (49, .int .i64 (k : Int)) :: (48, .pointer (some ⟨g, 0 + (k / 4), none⟩)) :: (47, .int .u32 ((hv (sl s) n k / 65536 ^ (k / 4)) + ((dg (gt (sl s) (n - 1 - k))) * 16 ^ (k % 4)))) :: (46, .int .u32 ((dg (gt (sl s) (n - 1 - k))) * 16 ^ (k % 4))) :: (45, .int .u64 (4 * ((k : Int) % 4))) :: (44, .int .i64 (4 * ((k : Int) % 4))) :: (43, .int .i64 ((k : Int) % 4)) :: (42, .int .i64 (k : Int)) :: (41, .int .u32 ((gt (sl s) (n - 1 - k)) - 48)) :: (40, .int .u32 (hv (sl s) n k / 65536 ^ (k / 4))) :: (39, .pointer (some ⟨g, 0 + (k / 4), none⟩)) :: (38, .int .i64 ((k : Int) / 4)) :: (37, .int .i64 (k : Int)) :: (36, .slice (some ⟨g, 0, none⟩) ((k + 3) / 4) cap) :: (32, .bool false) :: (31, .int .i64 ((k : Int) % 4)) :: (30, .int .i64 (k : Int)) :: (25, .bool false) :: (24, .int .u8 (gt (sl s) (n - 1 - k))) :: (7, .int .u32 ((gt (sl s) (n - 1 - k)) - 48)) :: (23, .int .u32 ((gt (sl s) (n - 1 - k)) - 48)) :: (22, .int .u32 (gt (sl s) (n - 1 - k))) :: (21, .int .u8 (gt (sl s) (n - 1 - k))) :: (20, .bool false) :: (19, .int .u8 (gt (sl s) (n - 1 - k))) :: (6, .int .u8 (gt (sl s) (n - 1 - k))) :: (18, .int .u8 (gt (sl s) (n - 1 - k))) :: (17, .int .i64 (((n : Int) - 1) - (k : Int))) :: (16, .string s) :: (13, .bool true) :: (12, .int .i64 (((n : Int) - 1) - (k : Int))) :: (0, .string s) :: (3, .slice (some ⟨g, 0, none⟩) ((k + 3) / 4) cap) :: (4, .int .i64 (k : Int)) :: (5, .int .i64 (((n : Int) - 1) - (k : Int))) :: l_1), rfl, (by exact hl_1), (Eq.trans (Eq.trans (Eq.trans (fr_dup _ _ 5 _ (by exact hl_1) (by rfl) (by exact (congrArg (Value.int .i64) (by omega)))).symm (fr_dup _ _ 4 _ (by exact hl_1) (by rfl) (by rfl)).symm) (fr_dup _ _ 3 _ (by exact hl_1) (by rfl) (by exact congrArg (fun q => Value.slice _ q _) (by omega))).symm) (fr_dup _ _ 0 _ (by exact hl_1) (by rfl) (by rfl)).symm), by omega, (((hwb.len (by omega : (k + 3) / 4 = (k + 4) / 4)).two.set (k / 4) _).list (hv_set _ n k _ hlt hDig rfl)).back.len (by omega), hw44⟩
    omega
  ·
    refine wp_seq ?_
    refine seq_plain hw0_1 [0, 1] (by rfl) ?_
    refine L_val (.int .i64 (((n : Int) - 1) - (k : Int))) (by rfl) (by exact hl_1) (gives_value _ fun _ => by rfl) ?_
    refine L_val (.bool false) (by rfl) (by exact hl_1) (gives_geq (k := .i64) (((n : Int) - 1) - (k : Int)) (0) false (by rfl) (by rfl) (decide_eq_false (by omega))) ?_
    refine L_end ?_
    intro w45 hw45
    refine wp_cond_false (fr_at _ _ (by exact hl_1) _) ?_
    refine wp_exit ?_
    have hkN : k = n := by omega
    change Code.wp _ _ _ _ _
    change Code.wp _ _ _ _ _
    refine seq_plain hw45 [0, 1] (by rfl) ?_
    refine L_val (.slice (some ⟨g, 0, none⟩) ((k + 3) / 4) cap) (by rfl) (by exact hl_1) (gives_value _ fun _ => by rfl) ?_
    refine L_val (.slice (some ⟨g, 0, none⟩) ((k + 3) / 4) cap) (by rfl) (by exact hl_1) (gives_value _ fun _ => by rfl) ?_
    refine L_end ?_
    intro w46 hw46
    subst hkN
    refine wp_ret ?_
    change bodyPost _ _ _ Exit.ret _ _
    refine (ret_tmp (by rfl) (by exact hl_1) (by rfl) ⟨g, cap, cs, rfl, hwb, hw46.ge 0 (by rfl), hw46.blk 0 (by rfl), hw46.below⟩)
end Go.Proofs.YtialfoccalobpaaDoor

/-! ## FlowM -/
namespace Go.Proofs.YtialfoccalobpaaDoor
set_option linter.unusedSimpArgs false
set_option linter.unusedVariables false
open Go.RowKit
section
variable {ops : Array Oper} {late : List Nat} {R : Act → World → Prop} {v : World} {L L0 : List (Nat × TypeId × Array Value)} {n : Nat} {sl : List (Nat × Value)}
/-- A call, as a step. -/
theorem wpOp_call {Q : Exit → Act → World → Prop} {i d : Nat} {f : FuncId} {args : Array Operand} {ats : Array TypeId} {ty : TypeId} {pos : String} {after : Array Edge} {gd : Option (Nat × Bool)} {vl : List Value} {K : Act → World → Prop} {w : World} {Post : Ending → World → Prop}
    (hi : ops[i]? = some ⟨some d, .call { callee := .value (.func f), args := args, argTypes := ats }, ty, pos, after, gd⟩) (hl : inFr n sl = true) (hw : Region.wanted ⟨some d, .call { callee := .value (.func f), args := args, argTypes := ats }, ty, pos, after, gd⟩ (yielded ops (fr n sl).tmps) = true)
    (hf : (Tryd.prog.funcs[f]?).map (fun fn => (fn.name == "runtime.NumGoroutine", fn.body.isNone)) = some (false, false))
    (ha : args.toList.map (rho sl) = vl) (hc : Calls Tryd.prog f vl.toArray w Post) (hK : ∀ e w', Post e w' → ∃ u, e = .returned u ∧ K (fr n ((d, u) :: sl)) w') : Go.wpOp Tryd.prog ops Q i K (fr n sl) w := by
  unfold Go.wpOp
  simp only [hi]
  simp only [hw, if_true]
  refine .inl ?_
  unfold Oper.wp
  have hrun : (execOp (fr n sl).eval ⟨some d, .call { callee := .value (.func f), args := args, argTypes := ats }, ty, pos, after, gd⟩).run Tryd.prog w = .ok (.enter f vl.toArray) w := by
    rw [fr_eval n sl hl]
    obtain ⟨fn, h1, h2⟩ := Option.map_eq_some_iff.1 hf
    simp only [Prod.mk.injEq, beq_eq_false_iff_ne, ne_eq, Option.isNone_eq_false_iff] at h2
    have h3 : fn.body ≠ none := by intro e; simp [e] at h2
    have ha : args.map (rho sl) = vl.toArray := by rw [← ha, ← Array.toList_map, Array.toArray_toList]
    simp [execOp, resolve, rho, Deferred.ofValue, invoke, ha, callFunc, h1, h2.1, h3]
  rw [hrun]
  refine Calls.mono hc fun e w' he => ?_
  obtain ⟨u, rfl, hk⟩ := hK e w' he
  exact hk
/-- How an operation is guarded, and that it is wanted. -/
def Want (ops : Array Oper) (n : Nat) (sl : List (Nat × Value)) (gd : Option (Nat × Bool)) : Prop := ∀ (d : Option Tmp) (op : Op) (ty : TypeId) (pos : String) (after : Array Edge), Region.wanted ⟨d, op, ty, pos, after, gd⟩ (yielded ops (fr n sl).tmps) = true
theorem Want.none : Want ops n sl .none := fun _ _ _ _ _ => rfl
theorem Want.some {j dj : Nat} {want : Bool} (hl : inFr n sl = true) (hd : Nat.blt dj n = true) (hj : (ops[j]?).bind (·.dst) = .some dj) (hv : look sl dj = .bool want) : Want ops n sl (.some (j, want)) := fun _ _ _ _ _ => by
  simp [Region.wanted, fr_yield hl hd hj hv]
theorem F_val {i d fuel : Nat} {listed : Array Bool} {f : FuncId} {args : Array Operand} {ats : Array TypeId} {ty : TypeId} {pos : String} {after : Array Edge} {gd : Option (Nat × Bool)} {vl : List Value} (u : Value)
    (hi : ops[i]? = some ⟨some d, .call { callee := .value (.func f), args := args, argTypes := ats }, ty, pos, after, gd⟩) (hl : inFr n sl = true) (hw : Want ops n sl gd) (hf : (Tryd.prog.funcs[f]?).map (fun fn => (fn.name == "runtime.NumGoroutine", fn.body.isNone)) = some (false, false))
    (ha : args.toList.map (rho sl) = vl) (hs : L0.Sublist L) (hc : ∀ w, Hbl v L w → Calls Tryd.prog f vl.toArray w fun e w' => e = .returned u ∧ Below w.heap.size w w')
    (h : wpF Tryd.prog .any ops late R (Hbl v L0) fuel (listed.setIfInBounds i true) (fr n ((d, u) :: sl)) (Hbl v L)) :
    ∀ w, Hbl v L w → wpOp Tryd.prog ops (Nrm R) i (fun a' w' => ∃ S', (i ∈ late ∨ Ext (Hbl v L0) S') ∧ S' w' ∧ wpF Tryd.prog .any ops late R (Hbl v L0) fuel (listed.setIfInBounds i true) a' S') (fr n sl) w := fun w hS =>
  wpOp_call hi hl (hw ..) hf ha (hc w hS) fun e w' he => ⟨u, he.1, _, .inr (Ext.of_sub hs), Hbl.stays v L w w' hS he.2, h⟩
theorem F_fresh {i d fuel : Nat} {listed : Array Bool} {f : FuncId} {args : Array Operand} {ats : Array TypeId} {ty : TypeId} {pos : String} {after : Array Edge} {gd : Option (Nat × Bool)} {vl : List Value} (t : TypeId) (cs : Array Value) (val : Nat → Value)
    (hi : ops[i]? = some ⟨some d, .call { callee := .value (.func f), args := args, argTypes := ats }, ty, pos, after, gd⟩) (hl : inFr n sl = true) (hw : Want ops n sl gd) (hf : (Tryd.prog.funcs[f]?).map (fun fn => (fn.name == "runtime.NumGoroutine", fn.body.isNone)) = some (false, false))
    (ha : args.toList.map (rho sl) = vl) (hs : L0.Sublist L) (hc : ∀ w, Hbl v L w → Calls Tryd.prog f vl.toArray w fun e w' => ∃ g, e = .returned (val g) ∧ w.heap.size ≤ g ∧ Blk w' g t cs ∧ Below w.heap.size w w')
    (h : ∀ g, wpF Tryd.prog .any ops late R (Hbl v L0) fuel (listed.setIfInBounds i true) (fr n ((d, val g) :: sl)) (Hbl v ((g, t, cs) :: L))) :
    ∀ w, Hbl v L w → wpOp Tryd.prog ops (Nrm R) i (fun a' w' => ∃ S', (i ∈ late ∨ Ext (Hbl v L0) S') ∧ S' w' ∧ wpF Tryd.prog .any ops late R (Hbl v L0) fuel (listed.setIfInBounds i true) a' S') (fr n sl) w := fun w hS =>
  wpOp_call hi hl (hw ..) hf ha (hc w hS) fun e w' ⟨g, he, hg, hb, hbel⟩ => ⟨val g, he, _, .inr (Ext.of_sub (.cons _ hs)), hS.fresh hbel hg hb, h g⟩
theorem F_freshW {i d fuel : Nat} {listed : Array Bool} {f : FuncId} {args : Array Operand} {ats : Array TypeId} {ty : TypeId} {pos : String} {after : Array Edge} {gd : Option (Nat × Bool)} {vl : List Value} (m : Nat) (val : Int)
    (hi : ops[i]? = some ⟨some d, .call { callee := .value (.func f), args := args, argTypes := ats }, ty, pos, after, gd⟩) (hl : inFr n sl = true) (hw : Want ops n sl gd) (hf : (Tryd.prog.funcs[f]?).map (fun fn => (fn.name == "runtime.NumGoroutine", fn.body.isNone)) = some (false, false))
    (ha : args.toList.map (rho sl) = vl) (hs : L0.Sublist L) (hc : ∀ w, Hbl v L w → RetsW f vl.toArray w m val)
    (h : ∀ g cap cs, WB cs cap m val → wpF Tryd.prog .any ops late R (Hbl v L0) fuel (listed.setIfInBounds i true) (fr n ((d, .slice (some ⟨g, 0, none⟩) m cap) :: sl)) (Hbl v ((g, 100, cs) :: L))) :
    ∀ w, Hbl v L w → wpOp Tryd.prog ops (Nrm R) i (fun a' w' => ∃ S', (i ∈ late ∨ Ext (Hbl v L0) S') ∧ S' w' ∧ wpF Tryd.prog .any ops late R (Hbl v L0) fuel (listed.setIfInBounds i true) a' S') (fr n sl) w := fun w hS =>
  wpOp_call hi hl (hw ..) hf ha (hc w hS) fun e w' ⟨g, cap, cs, he, hwb, hg, hb, hbel⟩ => ⟨_, he, _, .inr (Ext.of_sub (.cons _ hs)), hS.fresh hbel hg hb, h g cap cs hwb⟩
end
end Go.Proofs.YtialfoccalobpaaDoor

/-! ## R3X -/
namespace Go.Proofs.YtialfoccalobpaaDoor
set_option linter.unusedSimpArgs false
set_option linter.unusedVariables false
open Go.RowKit
/-- A slice holds a number, in n words. -/
structure NumAt (w : World) (A : Option Addr) (n : Nat) (a : Int) : Prop where
  rd : Reads w w.heap.size A n ((wl a n).map (Value.int .u32))
  lo : 0 ≤ a
  hi : a < 65536 ^ n
  sz : n ≤ 1000000000
theorem NumAt.keep {w w' : World} {A : Option Addr} {n : Nat} {a : Int} (h : NumAt w A n a) (hb : Below w.heap.size w w') : NumAt w' A n a := ⟨(h.rd.below hb).more hb.size, h.lo, h.hi, h.sz⟩
theorem NumAt.of {v w : World} {L : List (Nat × TypeId × Array Value)} {A : Option Addr} {n : Nat} {a : Int} (h : NumAt v A n a) (hw : Hbl v L w) : NumAt w A n a := h.keep hw.below
theorem NumAt.va {w : World} {A : Option Addr} {n : Nat} {a : Int} (h : NumAt w A n a) : va (wl a n) = a := va_wl a n h.lo h.hi
theorem NumAt.nil (w : World) : NumAt w none 0 0 := ⟨Reads.nil_, by omega, by simp, by omega⟩
theorem WB.num {w : World} {g cap m : Nat} {e : TypeId} {cs : Array Value} {val : Int} (h : WB cs cap m val) (hB : Blk w g e cs) (hr : 0 ≤ val ∧ val < 65536 ^ m) (hm : m ≤ 1000000000) : NumAt w (some ⟨g, 0, none⟩) m val := ⟨h.reads hB, hr.1, hr.2, hm⟩
theorem mod_rng (a p : Int) (n : Nat) (hp : 0 < p) (h : p < 65536 ^ n) : 0 ≤ a % p ∧ a % p < 65536 ^ n := ⟨Int.emod_nonneg _ (by omega), Int.lt_trans (Int.emod_lt_of_pos _ hp) h⟩
theorem pow_more (n k : Nat) : (65536 : Int) ^ n ≤ 65536 ^ (n + k) := by
  have h1 := bp n
  have h2 := bp k
  have h3 : (65536 : Int) ^ n * 1 ≤ 65536 ^ n * 65536 ^ k := Int.mul_le_mul_of_nonneg_left (by omega) (Int.le_of_lt h1)
  rw [Int.pow_add]
  omega
theorem plus_rng {w : World} {A0 A1 : Option Addr} {n0 n1 : Nat} {a b : Int} (h0 : NumAt w A0 n0 a) (h1 : NumAt w A1 n1 b) : 0 ≤ a + b ∧ a + b < 65536 ^ (max n0 n1 + 1) := by
  have e1 := pow_more n0 (max n0 n1 - n0)
  have e2 := pow_more n1 (max n0 n1 - n1)
  rw [show n0 + (max n0 n1 - n0) = max n0 n1 by omega] at e1
  rw [show n1 + (max n0 n1 - n1) = max n0 n1 by omega] at e2
  have := h0.lo
  have := h0.hi
  have := h1.lo
  have := h1.hi
  rw [Int.pow_succ]
  omega
theorem minus_rng {a b : Int} {n : Nat} (h0 : 0 ≤ b) (h : b ≤ a) (hi : a < 65536 ^ n) : 0 ≤ a - b ∧ a - b < 65536 ^ n := by omega
theorem times_rng {w : World} {A0 A1 : Option Addr} {n0 n1 : Nat} {a b : Int} (h0 : NumAt w A0 n0 a) (h1 : NumAt w A1 n1 b) : 0 ≤ a * b ∧ a * b < 65536 ^ (n0 + n1 + 1) := by
  have h2 := h0.lo
  have h3 := h0.hi
  have h4 := h1.lo
  have h5 := h1.hi
  refine ⟨Int.mul_nonneg h2 h4, ?_⟩
  have e1 : a * b ≤ 65536 ^ n0 * b := Int.mul_le_mul_of_nonneg_right (by omega) h4
  have e2 : (65536 : Int) ^ n0 * b < 65536 ^ n0 * 65536 ^ n1 := Int.mul_lt_mul_of_pos_left h5 (bp n0)
  have e3 := pow_more (n0 + n1) 1
  rw [Int.pow_add] at e3
  omega
theorem n_mod (w : World) (A0 : Option Addr) (n0 c0 : Nat) (a : Int) (A1 : Option Addr) (n1 c1 : Nat) (m : Int) (ha : NumAt w A0 n0 a) (hm : NumAt w A1 n1 m) (h0 : 0 < m) : RetsW 16 #[.slice A0 n0 c0, .slice A1 n1 c1] w n1 (a % m) := by
  have s0 := ha.sz
  have s1 := hm.sz
  have h := r3_mod A0 n0 c0 (wl a n0) A1 n1 c1 (wl m n1) w ha.rd (wl_w16 _ _) (by omega) hm.rd (wl_w16 _ _) (by omega) (by rw [hm.va]; exact h0) (by rw [hm.va]; exact hm.hi) (by omega)
  rwa [ha.va, hm.va] at h
theorem n_plus (w : World) (A0 : Option Addr) (n0 c0 : Nat) (a : Int) (A1 : Option Addr) (n1 c1 : Nat) (m : Int) (ha : NumAt w A0 n0 a) (hm : NumAt w A1 n1 m) : RetsW 143 #[.slice A0 n0 c0, .slice A1 n1 c1] w (max n0 n1 + 1) (a + m) := by
  have s0 := ha.sz
  have s1 := hm.sz
  have h := r3_plus A0 n0 c0 (wl a n0) A1 n1 c1 (wl m n1) w ha.rd (wl_w16 _ _) (by omega) hm.rd (wl_w16 _ _) (by omega)
  rwa [ha.va, hm.va] at h
theorem n_minus (w : World) (A0 : Option Addr) (n0 c0 : Nat) (a : Int) (A1 : Option Addr) (n1 c1 : Nat) (m : Int) (ha : NumAt w A0 n0 a) (hm : NumAt w A1 n1 m) : RetsW 58 #[.slice A0 n0 c0, .slice A1 n1 c1] w n0 (a - m) := by
  have s0 := ha.sz
  have s1 := hm.sz
  have h := r3_minus A0 n0 c0 (wl a n0) A1 n1 c1 (wl m n1) w ha.rd (wl_w16 _ _) (by omega) hm.rd (wl_w16 _ _) (by omega)
  rwa [ha.va, hm.va] at h
theorem n_times (w : World) (A0 : Option Addr) (n0 c0 : Nat) (a : Int) (A1 : Option Addr) (n1 c1 : Nat) (m : Int) (ha : NumAt w A0 n0 a) (hm : NumAt w A1 n1 m) : RetsW 156 #[.slice A0 n0 c0, .slice A1 n1 c1] w (n0 + n1 + 1) (a * m) := by
  have s0 := ha.sz
  have s1 := hm.sz
  have h := r3_times A0 n0 c0 (wl a n0) A1 n1 c1 (wl m n1) w ha.rd (wl_w16 _ _) (by omega) hm.rd (wl_w16 _ _) (by omega)
  rwa [ha.va, hm.va] at h
theorem num_rng (bs : List Int) (n : Nat) (ho : Oct bs) (hn : bs.length = n) : 0 ≤ num bs ∧ num bs < 65536 ^ ((n + 1) / 2) := by
  have h := num_lt bs ho
  have hp : (0 : Int) < 256 ^ n := Int.pow_pos (by omega)
  have e : (256 : Int) ^ n ≤ 65536 ^ ((n + 1) / 2) := by
    rw [show (65536 : Int) = 256 ^ 2 from rfl, ← Int.pow_mul, show 2 * ((n + 1) / 2) = n + (2 * ((n + 1) / 2) - n) by omega, Int.pow_add]
    have h3 : (0 : Int) < 256 ^ (2 * ((n + 1) / 2) - n) := Int.pow_pos (by omega)
    have h4 : (256 : Int) ^ n * 1 ≤ 256 ^ n * 256 ^ (2 * ((n + 1) / 2) - n) := Int.mul_le_mul_of_nonneg_left (by omega) (Int.le_of_lt hp)
    omega
  rw [hn] at h
  omega
theorem n_bytes (w : World) (A : Option Addr) (n c : Nat) (a : Int) (N : Nat) (hN : N ≤ 1048576) (h : NumAt w A n a) : Calls Tryd.prog 15 #[.slice A n c, .int .i64 N] w fun e w' => ∃ g, e = .returned (.slice (some ⟨g, 0, none⟩) N N) ∧ w.heap.size ≤ g ∧ Blk w' g 5 (ag8 (lo a N)) ∧ Below w.heap.size w w' := by
  have s0 := h.sz
  have := r3_bytes w A n c (wl a n) h.rd (wl_w16 _ _) N hN (by omega)
  rwa [h.va] at this
theorem n_same (w : World) (A : Option Addr) (n c : Nat) (A2 : Option Addr) (n2 c2 : Nat) (l1 l2 : List Int) (hr1 : Reads w w.heap.size A n (l1.map (Value.int .u8))) (hr2 : Reads w w.heap.size A2 n2 (l2.map (Value.int .u8))) (hn : n ≤ 281474976710656) (hn2 : n2 ≤ 281474976710656) (h : l1 = l2) : Rets 14 #[.slice A n c, .slice A2 n2 c2] w (.bool true) :=
  (same_any w _ _ A n c A2 n2 c2 l1 l2 hr1 hr2 hn hn2).mono fun _ _ ⟨he, m, hm⟩ => ⟨by rw [he, decide_eq_true h], hm ▸ below_drewN (Below.refl _ _) m⟩
section
variable {P : Program} {S : World → Prop} {l : List (Nat × Value)} {dst : Option Nat} {x y : Operand} {t ty : TypeId} {pos : String} {after : Array Edge} {gd : Option (Nat × Bool)}
theorem gives_slice_arr {e : TypeId} (g m sz : Nat) (hx : rho l x = .pointer (some ⟨g, 0, none⟩)) (ht : P.underlying t = some (.array m e)) (hs : (P.info? e).map (·.size) = some sz) :
    Gives P S (.slice (some ⟨g, 0, none⟩) m m) (execOp (rho l) ⟨dst, .slice t x none none none, ty, pos, after, gd⟩) := gives_value _ fun w => by
  obtain ⟨ie, he, hz⟩ := Option.map_eq_some_iff.1 hs
  by_cases h0 : m = 0 <;> simp [execOp, hx, Instr.sliceAt, Instr.slice, Instr.sureAddr, Instr.sliceBounds, Instr.sliceBound, run_underlying ht, sizeOf, typeInfo, he, hz, add_plain, h0]
end
/-- Forty-eight bytes of a number. -/
def b48c (a : Int) : Array Value := ag8 (lo a 48)
theorem b48c_size (a : Int) : (b48c a).size = 48 := by rw [b48c, ag8_size, lo_len]
theorem b48c_one (a : Int) : (b48c a).all (·.oneCell') = true := ag8_one _
theorem hi_b48 (a : Int) : (Tryd.prog.info? 31).map (·.size) = some (b48c a).size := by rw [b48c_size]; kernel_rfl
theorem z_b48 : (Tryd.prog.info? 31).map (·.zero) = some (some (.agg (b48c 0))) := by kernel_rfl
theorem und_b48 : Tryd.prog.underlying 31 = some (.array 48 5) := by kernel_rfl
theorem v_bytes (x : Fp) (w : World) (hG : Glo0 w) : Rets 12 #[.agg (pc x)] w (.agg (b48c (x.val : Int))) := by
  have h := fp_bytes x.val w hG.m
  rw [Fp.val_mod] at h
  exact h
theorem Mp_24 : Mp < 65536 ^ 24 := by unfold Mp; decide
theorem Mp_pos : 0 < Mp := Mp_lo.1
theorem n_number (w : World) (A0 : Option Addr) (n0 c0 : Nat) (bs0 : List Int) (hr0 : Reads w w.heap.size A0 n0 (bs0.map (Value.int .u8))) (ho0 : Oct bs0) (hb0 : n0 ≤ 1099511627776) : RetsW 17 #[.slice A0 n0 c0] w ((n0 + 1) / 2) (num bs0) := r3_number A0 n0 c0 bs0 w hr0 ho0 hb0
attribute [local irreducible] wpL wpF fr Code.wp bodyPost
set_option maxRecDepth 100000 in
set_option maxHeartbeats 4000000 in
theorem n_add (v : World) (A0 : Option Addr) (n0 c0 : Nat) (a : Int) (A1 : Option Addr) (n1 c1 : Nat) (b : Int) (A2 : Option Addr) (n2 c2 : Nat) (p : Int) (h0 : NumAt v A0 n0 a) (h1 : NumAt v A1 n1 b) (h2 : NumAt v A2 n2 p) (hp : 0 < p) (hs : n0 + n1 + n2 ≤ 1000000) : RetsW 142 #[.slice A0 n0 c0, .slice A1 n1 c1, .slice A2 n2 c2] v n2 ((a + b) % p) := by
  refine calls_fr3 Tryd.func142 rfl (by rfl : _ = 12) (by rfl) ?_
  have hw := Hbl.nil v
  refine seq_plain hw [0] (by rfl) ?_
  refine L_val (.slice none 0 0) (by rfl) (by rfl) (gives_value _ fun _ => by rfl) ?_
  refine L_end ?_
  intro w1 hw1
  refine seq_plain hw1 [0, 1, 2, 3, 4, 5] (by rfl) ?_
  refine L_val (.slice A0 n0 c0) (by rfl) (by rfl) (gives_value _ fun _ => by rfl) ?_
  refine L_val (.slice A1 n1 c1) (by rfl) (by rfl) (gives_value _ fun _ => by rfl) ?_
  refine L_freshW (vl := [.slice A0 n0 c0, .slice A1 n1 c1]) (max n0 n1 + 1) (a + b) (by rfl) (by rfl) (by kernel_rfl) (by rfl) (fun w h => n_plus w _ _ _ _ _ _ _ _ (h0.of h) (h1.of h)) ?_; intro g1 cap_1 cs_1 hwb_1
  refine L_val (.slice A2 n2 c2) (by rfl) (by rfl) (gives_value _ fun _ => by rfl) ?_
  refine L_freshW (vl := [.slice (some ⟨g1, 0, none⟩) (max n0 n1 + 1) cap_1, .slice A2 n2 c2]) (n2) ((a + b) % p) (by rfl) (by rfl) (by kernel_rfl) (by rfl) (fun w h => n_mod w _ _ _ _ _ _ _ _ (hwb_1.num (h.blk 0 (by rfl)) (plus_rng h0 h1) (by omega)) (h2.of h) hp) ?_; intro g2 cap_2 cs_2 hwb_2
  refine L_val (.slice (some ⟨g2, 0, none⟩) (n2) cap_2) (by rfl) (by rfl) (gives_value _ fun _ => by rfl) ?_
  refine L_end ?_
  intro w2 hw2
  refine wp_ret ?_
  change bodyPost _ _ _ Exit.ret _ _
  refine (ret_tmp (by rfl) (by rfl) (by rfl) ⟨_, _, _, rfl, hwb_2, hw2.ge 0 (by rfl), hw2.blk 0 (by rfl), hw2.below⟩)
set_option maxRecDepth 100000 in
set_option maxHeartbeats 4000000 in
theorem n_sub (v : World) (A0 : Option Addr) (n0 c0 : Nat) (a : Int) (A1 : Option Addr) (n1 c1 : Nat) (b : Int) (A2 : Option Addr) (n2 c2 : Nat) (p : Int) (h0 : NumAt v A0 n0 a) (h1 : NumAt v A1 n1 b) (h2 : NumAt v A2 n2 p) (hle : b ≤ a + p) (hp : 0 < p) (hs : n0 + n1 + n2 ≤ 1000000) : RetsW 105 #[.slice A0 n0 c0, .slice A1 n1 c1, .slice A2 n2 c2] v n2 ((a + p - b) % p) := by
  refine calls_fr3 Tryd.func105 rfl (by rfl : _ = 14) (by rfl) ?_
  have hw := Hbl.nil v
  refine seq_plain hw [0] (by rfl) ?_
  refine L_val (.slice none 0 0) (by rfl) (by rfl) (gives_value _ fun _ => by rfl) ?_
  refine L_end ?_
  intro w1 hw1
  refine seq_plain hw1 [0, 1, 2, 3, 4, 5, 6, 7] (by rfl) ?_
  refine L_val (.slice A0 n0 c0) (by rfl) (by rfl) (gives_value _ fun _ => by rfl) ?_
  refine L_val (.slice A2 n2 c2) (by rfl) (by rfl) (gives_value _ fun _ => by rfl) ?_
  refine L_freshW (vl := [.slice A0 n0 c0, .slice A2 n2 c2]) (max n0 n2 + 1) (a + p) (by rfl) (by rfl) (by kernel_rfl) (by rfl) (fun w h => n_plus w _ _ _ _ _ _ _ _ (h0.of h) (h2.of h)) ?_; intro g1 cap_1 cs_1 hwb_1
  refine L_val (.slice A1 n1 c1) (by rfl) (by rfl) (gives_value _ fun _ => by rfl) ?_
  refine L_freshW (vl := [.slice (some ⟨g1, 0, none⟩) (max n0 n2 + 1) cap_1, .slice A1 n1 c1]) (max n0 n2 + 1) ((a + p) - b) (by rfl) (by rfl) (by kernel_rfl) (by rfl) (fun w h => n_minus w _ _ _ _ _ _ _ _ (hwb_1.num (h.blk 0 (by rfl)) (plus_rng h0 h2) (by omega)) (h1.of h)) ?_; intro g2 cap_2 cs_2 hwb_2
  refine L_val (.slice A2 n2 c2) (by rfl) (by rfl) (gives_value _ fun _ => by rfl) ?_
  refine L_freshW (vl := [.slice (some ⟨g2, 0, none⟩) (max n0 n2 + 1) cap_2, .slice A2 n2 c2]) (n2) (((a + p) - b) % p) (by rfl) (by rfl) (by kernel_rfl) (by rfl) (fun w h => n_mod w _ _ _ _ _ _ _ _ (hwb_2.num (h.blk 0 (by rfl)) (minus_rng h1.lo hle (plus_rng h0 h2).2) (by omega)) (h2.of h) hp) ?_; intro g3 cap_3 cs_3 hwb_3
  refine L_val (.slice (some ⟨g3, 0, none⟩) (n2) cap_3) (by rfl) (by rfl) (gives_value _ fun _ => by rfl) ?_
  refine L_end ?_
  intro w2 hw2
  refine wp_ret ?_
  change bodyPost _ _ _ Exit.ret _ _
  refine (ret_tmp (by rfl) (by rfl) (by rfl) ⟨_, _, _, rfl, hwb_3, hw2.ge 0 (by rfl), hw2.blk 0 (by rfl), hw2.below⟩)
set_option maxRecDepth 100000 in
set_option maxHeartbeats 4000000 in
theorem n_mul (v : World) (A0 : Option Addr) (n0 c0 : Nat) (a : Int) (A1 : Option Addr) (n1 c1 : Nat) (b : Int) (A2 : Option Addr) (n2 c2 : Nat) (p : Int) (h0 : NumAt v A0 n0 a) (h1 : NumAt v A1 n1 b) (h2 : NumAt v A2 n2 p) (hp : 0 < p) (hs : n0 + n1 + n2 ≤ 1000000) : RetsW 141 #[.slice A0 n0 c0, .slice A1 n1 c1, .slice A2 n2 c2] v n2 (a * b % p) := by
  refine calls_fr3 Tryd.func141 rfl (by rfl : _ = 12) (by rfl) ?_
  have hw := Hbl.nil v
  refine seq_plain hw [0] (by rfl) ?_
  refine L_val (.slice none 0 0) (by rfl) (by rfl) (gives_value _ fun _ => by rfl) ?_
  refine L_end ?_
  intro w1 hw1
  refine seq_plain hw1 [0, 1, 2, 3, 4, 5] (by rfl) ?_
  refine L_val (.slice A0 n0 c0) (by rfl) (by rfl) (gives_value _ fun _ => by rfl) ?_
  refine L_val (.slice A1 n1 c1) (by rfl) (by rfl) (gives_value _ fun _ => by rfl) ?_
  refine L_freshW (vl := [.slice A0 n0 c0, .slice A1 n1 c1]) (n0 + n1 + 1) (a * b) (by rfl) (by rfl) (by kernel_rfl) (by rfl) (fun w h => n_times w _ _ _ _ _ _ _ _ (h0.of h) (h1.of h)) ?_; intro g1 cap_1 cs_1 hwb_1
  refine L_val (.slice A2 n2 c2) (by rfl) (by rfl) (gives_value _ fun _ => by rfl) ?_
  refine L_freshW (vl := [.slice (some ⟨g1, 0, none⟩) (n0 + n1 + 1) cap_1, .slice A2 n2 c2]) (n2) ((a * b) % p) (by rfl) (by rfl) (by kernel_rfl) (by rfl) (fun w h => n_mod w _ _ _ _ _ _ _ _ (hwb_1.num (h.blk 0 (by rfl)) (times_rng h0 h1) (by omega)) (h2.of h) hp) ?_; intro g2 cap_2 cs_2 hwb_2
  refine L_val (.slice (some ⟨g2, 0, none⟩) (n2) cap_2) (by rfl) (by rfl) (gives_value _ fun _ => by rfl) ?_
  refine L_end ?_
  intro w2 hw2
  refine wp_ret ?_
  change bodyPost _ _ _ Exit.ret _ _
  refine (ret_tmp (by rfl) (by rfl) (by rfl) ⟨_, _, _, rfl, hwb_2, hw2.ge 0 (by rfl), hw2.blk 0 (by rfl), hw2.below⟩)
def hexP : ByteArray := ⟨#[49, 97, 48, 49, 49, 49, 101, 97, 51, 57, 55, 102, 101, 54, 57, 97, 52, 98, 49, 98, 97, 55, 98, 54, 52, 51, 52, 98, 97, 99, 100, 55, 54, 52, 55, 55, 52, 98, 56, 52, 102, 51, 56, 53, 49, 50, 98, 102, 54, 55, 51, 48, 100, 50, 97, 48, 102, 54, 98, 48, 102, 54, 50, 52, 49, 101, 97, 98, 102, 102, 102, 101, 98, 49, 53, 51, 102, 102, 102, 102, 98, 57, 102, 101, 102, 102, 102, 102, 102, 102, 102, 102, 97, 97, 97, 98]⟩
theorem m_04_dig : ∀ i, i < 96 → Dig (gt (sl hexP) i) := by decide +kernel
theorem m_04_val : hv (sl hexP) 96 96 = Mp := by decide +kernel
theorem m_04_hex (w : World) : RetsW 56 #[.string hexP] w 24 Mp := m_04_val ▸ r3_hex hexP 96 w rfl m_04_dig (by omega)
set_option maxRecDepth 100000 in
set_option maxHeartbeats 4000000 in
theorem m_04  (v : World) : RetsW 13 #[] v 24 Mp := by
  refine calls_fr0 Tryd.func13 rfl (by rfl : _ = 2) ?_
  have hw := Hbl.nil v
  refine seq_plain hw [0] (by rfl) ?_
  refine L_val (.slice none 0 0) (by rfl) (by rfl) (gives_value _ fun _ => by rfl) ?_
  refine L_end ?_
  intro w1 hw1
  refine seq_plain hw1 [0, 1] (by rfl) ?_
  refine L_freshW (vl := [.string hexP]) (24) (Mp) (by rfl) (by rfl) (by kernel_rfl) (by rfl) (fun w h => m_04_hex w) ?_; intro g1 cap_1 cs_1 hwb_1
  refine L_val (.slice (some ⟨g1, 0, none⟩) (24) cap_1) (by rfl) (by rfl) (gives_value _ fun _ => by rfl) ?_
  refine L_end ?_
  intro w2 hw2
  refine wp_ret ?_
  change bodyPost _ _ _ Exit.ret _ _
  refine (ret_tmp (by rfl) (by rfl) (by rfl) ⟨_, _, _, rfl, hwb_1, hw2.ge 0 (by rfl), hw2.blk 0 (by rfl), hw2.below⟩)
end Go.Proofs.YtialfoccalobpaaDoor

/-! ## R3Y -/
namespace Go.Proofs.YtialfoccalobpaaDoor
set_option linter.unusedSimpArgs false
set_option linter.unusedVariables false
open Go.RowKit
section
variable {ops : Array Oper} {late : List Nat} {R : Act → World → Prop} {v : World} {L L0 : List (Nat × TypeId × Array Value)} {n : Nat} {sl : List (Nat × Value)}
end
section
variable {P : Program} {fn : Func} {E : Ending → World → Prop} {n : Nat} {sl : List (Nat × Value)} {w : World}
end
theorem Fp.n_mod (k : Int) : Fp.n (k % Mp) = Fp.n k := Fp.n_inj.2 (Int.emod_emod_of_dvd _ (Int.dvd_refl _))
theorem Fp.n_Mp : Fp.n Mp = 0 := by rw [← Fp.n_zero]; exact Fp.n_inj.2 (by simp)
theorem is_of {x : Fp} {k : Int} (h : Fp.n k = x) : (x.val : Int) = k % Mp := by rw [← h, Fp.n_val]
theorem le_sub (X Y : Int) : Y % Mp ≤ X % Mp + Mp := by
  have h1 := Int.emod_nonneg X (show Mp ≠ 0 from Int.ne_of_gt Mp_pos)
  have h2 := Int.emod_lt_of_pos Y Mp_pos
  omega
attribute [local irreducible] wpL wpF fr Code.wp bodyPost
end Go.Proofs.YtialfoccalobpaaDoor
