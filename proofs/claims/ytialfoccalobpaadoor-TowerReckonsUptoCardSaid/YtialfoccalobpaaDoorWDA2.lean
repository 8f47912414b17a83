/-
  R3A, R3B, R3C, R3D, R3E, in one text.
-/
import Derived.Test.YtialfoccalobpaaDoorWDA0
/-! ## R3A -/
namespace Go.Proofs.YtialfoccalobpaaDoor
open Go.RowKit
/-- The number of words of sixteen bits, the lowest first. -/
def va : List Int → Int
  | [] => 0
  | a :: l => a + 65536 * va l
/-- Words of sixteen bits. -/
def W16 (l : List Int) : Prop := ∀ b ∈ l, 0 ≤ b ∧ b < 65536
theorem W16.at_ {l : List Int} (h : W16 l) (k : Nat) : 0 ≤ gt l k ∧ gt l k < 65536 := by
  rcases Nat.lt_or_ge k l.length with h1 | h1
  · rw [gt_eq h1]; exact h _ (List.getElem_mem h1)
  · simp [gt, h1]
theorem va_lt (l : List Int) (h : W16 l) : 0 ≤ va l ∧ va l < 65536 ^ l.length := by
  induction l with
  | nil => simp [va]
  | cons a l ih =>
    have h1 := ih (fun b hb => h b (List.mem_cons_of_mem _ hb))
    have h2 := h a (List.mem_cons_self ..)
    simp only [va, List.length_cons, Int.pow_succ]
    omega
theorem va_app (l m : List Int) : va (l ++ m) = va l + 65536 ^ l.length * va m := by
  induction l with
  | nil => simp [va]
  | cons a l ih =>
    simp only [List.cons_append, va, ih, List.length_cons, Int.pow_succ]
    grind
theorem va_snoc (l : List Int) (b : Int) : va (l ++ [b]) = va l + 65536 ^ l.length * b := by rw [va_app]; simp [va]
/-- The number of the first n words. -/
def vg (f : Nat → Int) : Nat → Int
  | 0 => 0
  | n + 1 => vg f n + 65536 ^ n * f n
theorem vg_take (l : List Int) (n : Nat) (h : n ≤ l.length) : vg (gt l) n = va (l.take n) := by
  induction n with
  | zero => simp [vg, va]
  | succ n ih =>
    rw [vg, ih (by omega), take_snoc l n (by omega), va_snoc]
    congr 3
    simp; omega
theorem gt_none (l : List Int) (i : Nat) (h : l.length ≤ i) : gt l i = 0 := by simp [gt, List.getElem?_eq_none h]
theorem vg_more (l : List Int) (n k : Nat) (h : l.length ≤ n) : vg (gt l) (n + k) = vg (gt l) n := by
  induction k with
  | zero => rfl
  | succ k ih => rw [← Nat.add_assoc, vg, ih, gt_none l (n + k) (by omega)]; simp
theorem va_vg (l : List Int) (n : Nat) (h : l.length ≤ n) : va l = vg (gt l) n := by
  have h1 := vg_take l l.length (Nat.le_refl _)
  rw [List.take_length] at h1
  have h2 := vg_more l l.length (n - l.length) (Nat.le_refl _)
  rw [show l.length + (n - l.length) = n by omega] at h2
  rw [h2, h1]
theorem vg_lt (f : Nat → Int) (hf : ∀ i, 0 ≤ f i ∧ f i < 65536) (n : Nat) : 0 ≤ vg f n ∧ vg f n < 65536 ^ n := by
  induction n with
  | zero => simp [vg]
  | succ n ih =>
    have h := hf n
    rw [vg, Int.pow_succ]
    have hp : (0 : Int) < 65536 ^ n := Int.pow_pos (by omega)
    have h1 : 0 ≤ 65536 ^ n * f n := Int.mul_nonneg (by omega) h.1
    have h2 : 65536 ^ n * f n ≤ 65536 ^ n * 65535 := Int.mul_le_mul_of_nonneg_left (by omega) (by omega)
    omega
theorem vg_top (f g : Nat → Int) (m k : Nat) (h : ∀ j, m ≤ j → f j = g j) : vg f (m + k) - vg g (m + k) = vg f m - vg g m := by
  induction k with
  | zero => rfl
  | succ k ih => rw [← Nat.add_assoc, vg, vg, h (m + k) (by omega)]; omega
theorem va_less {a b : List Int} (ha : W16 a) (hb : W16 b) (m : Nat) (h : ∀ j, m + 1 ≤ j → gt a j = gt b j) (hlt : gt a m < gt b m) : va a < va b := by
  have n1 : a.length ≤ m + 1 + (a.length + b.length) := by omega
  have n2 : b.length ≤ m + 1 + (a.length + b.length) := by omega
  have e := vg_top (gt a) (gt b) (m + 1) (a.length + b.length) h
  rw [← va_vg a _ n1, ← va_vg b _ n2, vg, vg] at e
  have h1 := vg_lt (gt a) ha.at_ m
  have h2 := vg_lt (gt b) hb.at_ m
  have hp : (0 : Int) < 65536 ^ m := Int.pow_pos (by omega)
  have h3 : 65536 ^ m * (gt a m + 1) ≤ 65536 ^ m * gt b m := Int.mul_le_mul_of_nonneg_left (by omega) (by omega)
  rw [Int.mul_add, Int.mul_one] at h3
  omega
theorem va_same {a b : List Int} (h : ∀ j, gt a j = gt b j) : va a = va b := by
  rw [va_vg a (a.length + b.length) (by omega), va_vg b (a.length + b.length) (by omega), show gt a = gt b from funext h]
set_option maxRecDepth 100000 in
set_option maxHeartbeats 1000000 in
theorem r3_word (w : World) (B : Nat) (A : Option Addr) (n c : Nat) (l : List Int) (hr : Reads w B A n (l.map (Value.int .u32))) (i : Nat) :
    Calls Tryd.prog 115 #[.slice A n c, .int .i64 i] w fun e w' => e = .returned (.int .u32 (gt l i)) ∧ w = w' := by
  have hl : l.length = n := by simpa using hr.1
  by_cases hlt : i < n
  · obtain ⟨b0, o0, rfl, _, hc⟩ := reads_cell hr hlt
    obtain ⟨b, hB⟩ : ∃ b, b = gt l i := ⟨_, rfl⟩
    rw [← hB] at hc ⊢
    have i1 : (i : Int) < n := by omega
    clear hB hl hr
    go_enter Tryd.func115, Tryd.ntmps115
    go_wp2_with fail
    go_ret
    exact ⟨rfl, rfl⟩
  · have e : gt l i = 0 := by simp [gt, List.getElem?_eq_none (show l.length ≤ i by omega)]
    rw [e]
    have i1 : ¬ ((i : Int) < n) := by omega
    clear hr e hl
    go_enter Tryd.func115, Tryd.ntmps115
    go_wp2_with fail
    go_ret
    exact ⟨rfl, rfl⟩
end Go.Proofs.YtialfoccalobpaaDoor

/-! ## R3B -/
namespace Go.Proofs.YtialfoccalobpaaDoor
open Go.RowKit
set_option maxRecDepth 100000 in
set_option maxHeartbeats 1000000 in
theorem r3_less (w : World) (A : Option Addr) (n c : Nat) (l : List Int) (A2 : Option Addr) (n2 c2 : Nat) (l2 : List Int) (hr : Reads w w.heap.size A n (l.map (Value.int .u32))) (hr2 : Reads w w.heap.size A2 n2 (l2.map (Value.int .u32))) (ho : W16 l) (ho2 : W16 l2) (hn : n ≤ 1099511627776) (hn2 : n2 ≤ 1099511627776) :
    Calls Tryd.prog 57 #[.slice A n c, .slice A2 n2 c2] w fun e w' => e = .returned (.bool (decide (va l < va l2))) ∧ Below w.heap.size w w' := by
  have hl : l.length = n := by simpa using hr.1
  have hl2 : l2.length = n2 := by simpa using hr2.1
  have hW1 : ∀ W, Below w.heap.size w W → ∀ i : Nat, Calls Tryd.prog 115 #[.slice A n c, .int .i64 i] W fun e w' => e = .returned (.int .u32 (gt l i)) ∧ W = w' := fun W hW i => r3_word W _ A n c l (hr.below hW) i
  have hW2 : ∀ W, Below w.heap.size w W → ∀ i : Nat, Calls Tryd.prog 115 #[.slice A2 n2 c2, .int .i64 i] W fun e w' => e = .returned (.int .u32 (gt l2 i)) ∧ W = w' := fun W hW i => r3_word W _ A2 n2 c2 l2 (hr2.below hW) i
  have HW1 := Lib.hid hW1
  have HW2 := Lib.hid hW2
  obtain ⟨r, hres⟩ : ∃ r, r = decide (va l < va l2) := ⟨_, rfl⟩
  rw [← hres]
  have HRES := Lib.hid hres
  clear hres
  obtain ⟨N, hN⟩ : ∃ N : Nat, N = max n n2 := ⟨_, rfl⟩
  have hN1 : N ≤ 1099511627776 := by omega
  have hN2 : n ≤ N ∧ n2 ≤ N := by omega
  have HN := Lib.hid hN2
  clear hr hr2 hW1 hW2
  by_cases hc : n < n2
  · have i1 : (n : Int) < n2 := by omega
    obtain rfl : N = n2 := by omega
    clear hN hc
    go_enter Tryd.func57, Tryd.ntmps57
    go_wp2_with fail
    go_loop [6] (fun i => ∃ k : Nat, k ≤ N ∧ i = .int .i64 ((k : Int) - 1) ∧ ∀ j, k ≤ j → gt l j = gt l2 j) (fun i => (intOf i + 1).toNat)
    case atStart => exact ⟨N, Nat.le_refl _, rfl, fun j hj => by rw [gt_none l j (by omega), gt_none l2 j (by omega)]⟩
    case round =>
      obtain ⟨k, hk, rfl, hj⟩ := hrel
      rcases Nat.eq_zero_or_pos k with rfl | hpos
      · have hs := va_same (fun j => hj j (Nat.zero_le _))
        have RS := Lib.hid (show false = r by rw [HRES.out, hs]; simp)
        have j1 : decide ((0 : Int) ≤ ((0 : Nat) : Int) - 1) = false := by decide
        clear hs hj HW1 HW2 hl hl2
        go_wp2_with fail
        go_ret
        exact ⟨congrArg (fun b => Ending.returned (.bool b)) RS.out, Below.refl _ _⟩
      · obtain ⟨m, rfl⟩ : ∃ m, k = m + 1 := ⟨k - 1, by omega⟩
        have e1 : ((m + 1 : Nat) : Int) - 1 = (m : Int) := by omega
        rw [e1]
        clear e1
        have h1 := ho.at_ m
        have h2 := ho2.at_ m
        by_cases he : gt l m = gt l2 m
        · have HJ : Hid (∀ j, m ≤ j → gt l j = gt l2 j) := Lib.hid fun j h => by
            rcases Nat.lt_or_ge m j with h3 | h3
            · exact hj j (by omega)
            · obtain rfl : j = m := by omega
              exact he
          have C1 := Lib.hid (HW1.out w (Below.refl _ _) m)
          have C2 := Lib.hid (HW2.out w (Below.refl _ _) m)
          rw [← he] at C2
          obtain ⟨a, hA⟩ : ∃ a, a = gt l m := ⟨_, rfl⟩
          rw [← hA] at C1 C2
          clear he hj h1 h2 hA HW1 HW2 hl hl2
          go_wp2_with (first | ((with_reducible refine C1.out.mono ?_); rintro e w' ⟨rfl, rfl⟩) | ((with_reducible refine C2.out.mono ?_); rintro e w' ⟨rfl, rfl⟩))
          exact ⟨⟨m, by omega, rfl, HJ.out⟩, by simp [intOf]⟩
        · have C1 := Lib.hid (HW1.out w (Below.refl _ _) m)
          have C2 := Lib.hid (HW2.out w (Below.refl _ _) m)
          rcases Int.lt_or_gt_of_ne he with hlt | hlt
          · have RS := Lib.hid (show true = r by rw [HRES.out]; exact (decide_eq_true (va_less ho ho2 m hj hlt)).symm)
            obtain ⟨a, hA⟩ : ∃ a, a = gt l m := ⟨_, rfl⟩
            obtain ⟨b, hB⟩ : ∃ a, a = gt l2 m := ⟨_, rfl⟩
            rw [← hA] at C1 he hlt
            rw [← hB] at C2 he hlt
            clear hj h1 h2 hA hB HW1 HW2 hl hl2
            go_wp2_with (first | ((with_reducible refine C1.out.mono ?_); rintro e w' ⟨rfl, rfl⟩) | ((with_reducible refine C2.out.mono ?_); rintro e w' ⟨rfl, rfl⟩))
            go_ret
            exact ⟨congrArg (fun b => Ending.returned (.bool b)) RS.out, Below.refl _ _⟩
          · have RS := Lib.hid (show false = r by rw [HRES.out]; exact (decide_eq_false (by have := va_less ho2 ho m (fun j h => (hj j h).symm) hlt; omega)).symm)
            obtain ⟨a, hA⟩ : ∃ a, a = gt l m := ⟨_, rfl⟩
            obtain ⟨b, hB⟩ : ∃ a, a = gt l2 m := ⟨_, rfl⟩
            rw [← hA] at C1 he hlt
            rw [← hB] at C2 he hlt
            have i3 : ¬ a < b := by omega
            clear hj h1 h2 hA hB HW1 HW2 hl hl2 hlt
            go_wp2_with (first | ((with_reducible refine C1.out.mono ?_); rintro e w' ⟨rfl, rfl⟩) | ((with_reducible refine C2.out.mono ?_); rintro e w' ⟨rfl, rfl⟩))
            go_ret
            exact ⟨congrArg (fun b => Ending.returned (.bool b)) ((decide_eq_false (Int.not_lt.2 i3)).trans RS.out), Below.refl _ _⟩
  · have i1 : ¬ ((n : Int) < n2) := by omega
    obtain rfl : N = n := by omega
    clear hN hc
    go_enter Tryd.func57, Tryd.ntmps57
    go_wp2_with fail
    go_loop [6] (fun i => ∃ k : Nat, k ≤ N ∧ i = .int .i64 ((k : Int) - 1) ∧ ∀ j, k ≤ j → gt l j = gt l2 j) (fun i => (intOf i + 1).toNat)
    case atStart => exact ⟨N, Nat.le_refl _, rfl, fun j hj => by rw [gt_none l j (by omega), gt_none l2 j (by omega)]⟩
    case round =>
      obtain ⟨k, hk, rfl, hj⟩ := hrel
      rcases Nat.eq_zero_or_pos k with rfl | hpos
      · have hs := va_same (fun j => hj j (Nat.zero_le _))
        have RS := Lib.hid (show false = r by rw [HRES.out, hs]; simp)
        have j1 : decide ((0 : Int) ≤ ((0 : Nat) : Int) - 1) = false := by decide
        clear hs hj HW1 HW2 hl hl2
        go_wp2_with fail
        go_ret
        exact ⟨congrArg (fun b => Ending.returned (.bool b)) RS.out, Below.refl _ _⟩
      · obtain ⟨m, rfl⟩ : ∃ m, k = m + 1 := ⟨k - 1, by omega⟩
        have e1 : ((m + 1 : Nat) : Int) - 1 = (m : Int) := by omega
        rw [e1]
        clear e1
        have h1 := ho.at_ m
        have h2 := ho2.at_ m
        by_cases he : gt l m = gt l2 m
        · have HJ : Hid (∀ j, m ≤ j → gt l j = gt l2 j) := Lib.hid fun j h => by
            rcases Nat.lt_or_ge m j with h3 | h3
            · exact hj j (by omega)
            · obtain rfl : j = m := by omega
              exact he
          have C1 := Lib.hid (HW1.out w (Below.refl _ _) m)
          have C2 := Lib.hid (HW2.out w (Below.refl _ _) m)
          rw [← he] at C2
          obtain ⟨a, hA⟩ : ∃ a, a = gt l m := ⟨_, rfl⟩
          rw [← hA] at C1 C2
          clear he hj h1 h2 hA HW1 HW2 hl hl2
          go_wp2_with (first | ((with_reducible refine C1.out.mono ?_); rintro e w' ⟨rfl, rfl⟩) | ((with_reducible refine C2.out.mono ?_); rintro e w' ⟨rfl, rfl⟩))
          exact ⟨⟨m, by omega, rfl, HJ.out⟩, by simp [intOf]⟩
        · have C1 := Lib.hid (HW1.out w (Below.refl _ _) m)
          have C2 := Lib.hid (HW2.out w (Below.refl _ _) m)
          rcases Int.lt_or_gt_of_ne he with hlt | hlt
          · have RS := Lib.hid (show true = r by rw [HRES.out]; exact (decide_eq_true (va_less ho ho2 m hj hlt)).symm)
            obtain ⟨a, hA⟩ : ∃ a, a = gt l m := ⟨_, rfl⟩
            obtain ⟨b, hB⟩ : ∃ a, a = gt l2 m := ⟨_, rfl⟩
            rw [← hA] at C1 he hlt
            rw [← hB] at C2 he hlt
            clear hj h1 h2 hA hB HW1 HW2 hl hl2
            go_wp2_with (first | ((with_reducible refine C1.out.mono ?_); rintro e w' ⟨rfl, rfl⟩) | ((with_reducible refine C2.out.mono ?_); rintro e w' ⟨rfl, rfl⟩))
            go_ret
            exact ⟨congrArg (fun b => Ending.returned (.bool b)) RS.out, Below.refl _ _⟩
          · have RS := Lib.hid (show false = r by rw [HRES.out]; exact (decide_eq_false (by have := va_less ho2 ho m (fun j h => (hj j h).symm) hlt; omega)).symm)
            obtain ⟨a, hA⟩ : ∃ a, a = gt l m := ⟨_, rfl⟩
            obtain ⟨b, hB⟩ : ∃ a, a = gt l2 m := ⟨_, rfl⟩
            rw [← hA] at C1 he hlt
            rw [← hB] at C2 he hlt
            have i3 : ¬ a < b := by omega
            clear hj h1 h2 hA hB HW1 HW2 hl hl2 hlt
            go_wp2_with (first | ((with_reducible refine C1.out.mono ?_); rintro e w' ⟨rfl, rfl⟩) | ((with_reducible refine C2.out.mono ?_); rintro e w' ⟨rfl, rfl⟩))
            go_ret
            exact ⟨congrArg (fun b => Ending.returned (.bool b)) ((decide_eq_false (Int.not_lt.2 i3)).trans RS.out), Below.refl _ _⟩
end Go.Proofs.YtialfoccalobpaaDoor

/-! ## R3C -/
namespace Go.Proofs.YtialfoccalobpaaDoor
open Go.RowKit
end Go.Proofs.YtialfoccalobpaaDoor

/-! ## R3D -/
namespace Go.Proofs.YtialfoccalobpaaDoor
open Go.RowKit
theorem edd (a b c : Int) (hb : 0 ≤ b) : a / (b * c) = a / b / c := by
  first
    | exact (Int.ediv_ediv_of_nonneg hb).symm
    | exact Int.ediv_mul hb
    | exact (Int.ediv_ediv_eq_ediv_mul a hb).symm
theorem va_word (l : List Int) (h : W16 l) (j : Nat) : va l / 65536 ^ j % 65536 = gt l j := by
  induction j generalizing l with
  | zero =>
    cases l with
    | nil => simp [va, gt]
    | cons a l =>
      have h2 := h a (List.mem_cons_self ..)
      simp [va, gt]
      omega
  | succ j ih =>
    cases l with
    | nil => simp [va, gt]
    | cons a l =>
      have h2 := h a (List.mem_cons_self ..)
      have h3 := ih l (fun b hb => h b (List.mem_cons_of_mem _ hb))
      have e : va (a :: l) / 65536 = va l := by simp only [va]; omega
      rw [Int.pow_succ, Int.mul_comm, edd _ _ _ (by omega), e, h3]
      simp [gt]
theorem va_byte (l : List Int) (h : W16 l) (i : Nat) : gt l (i / 2) / 2 ^ (8 * (i % 2)) % 256 = va l / 256 ^ i % 256 := by
  have hw := va_word l h (i / 2)
  have e : (256 : Int) ^ i = 65536 ^ (i / 2) * 256 ^ (i % 2) := by
    rw [show (65536 : Int) = 256 ^ 2 from rfl, ← Int.pow_mul, ← Int.pow_add, Nat.div_add_mod]
  have hp : (0 : Int) ≤ 65536 ^ (i / 2) := Int.le_of_lt (Int.pow_pos (by omega))
  rw [e, edd _ _ _ hp]
  generalize va l / 65536 ^ (i / 2) = V at *
  rw [← hw]
  rcases Nat.mod_two_eq_zero_or_one i with h1 | h1 <;> rw [h1] <;> simp <;> omega
set_option maxRecDepth 100000 in
set_option maxHeartbeats 1000000 in
theorem r3_bytes (w : World) (A : Option Addr) (n c : Nat) (l : List Int) (hr : Reads w w.heap.size A n (l.map (Value.int .u32))) (ho : W16 l) (N : Nat) (hN : N ≤ 1048576) (hn : n ≤ 1099511627776) :
    Calls Tryd.prog 15 #[.slice A n c, .int .i64 N] w fun e w' => ∃ g, e = .returned (.slice (some ⟨g, 0, none⟩) N N) ∧ w.heap.size ≤ g ∧ Blk w' g 5 (ag8 (lo (va l) N)) ∧ Below w.heap.size w w' := by
  have hl : l.length = n := by simpa using hr.1
  have HR := Lib.hid hr
  have HL := Lib.hid hl
  have HVB := Lib.hid (va_byte l ho)
  clear hr hl
  go_enter Tryd.func15, Tryd.ntmps15
  go_wp2_with (at_make; refine wpList_make_new _ rfl _ _ _ rfl 5 _ 1 Tryd.underlying22 byte_info rfl .i64 .i64 _ N rfl rfl rfl (by omega) (by omega) ?_; intro w1 hb1 hs1 hB1; have HB1 := Lib.hid hb1; have HC1 := Lib.hid hB1; clear hB1 hb1)
  go_loopw [6, 7] (fun i _ wr => ∃ k : Nat, k ≤ N ∧ i = .int .i64 k ∧ Below w.heap.size w wr ∧ w.heap.size < wr.heap.size ∧ Blk wr w.heap.size 5 (ag8 (List.replicate (N - k) 0 ++ lo (va l) k))) (fun i _ _ => N - (intOf i).toNat)
  case atStart => exact ⟨0, Nat.zero_le _, rfl, HB1.out, hs1, HC1.out.cast (by simp [lo, ag8])⟩
  case round =>
    obtain ⟨k, hk, rfl, hb, hsz, hB⟩ := hrel
    by_cases hlt : k < N
    · have hset := set_lo (va l) N k hlt
      have hby := HVB.out k
      have i1 : (k : Int) < N := by omega
      have i5 : 0 ≤ (N : Int) - 1 - k := by omega
      have i6 : (N : Int) - 1 - k < N := by omega
      have X1 := Lib.hid hb
      by_cases hin : k / 2 < n
      · obtain ⟨b0, o0, rfl, hb0, hc0⟩ := reads_cell (HR.out.below hb) hin
        obtain ⟨v0, hv⟩ := hB.some_ (i := N - 1 - k) (by rw [ag8_size]; simp [lo_len]; omega)
        have hf := hB.frozen (N - 1 - k)
        obtain ⟨v, hV⟩ : ∃ v, v = gt l (k / 2) := ⟨_, rfl⟩
        rw [← hV] at hc0 hby
        have vb := ho.at_ (k / 2)
        rw [← hV] at vb
        have X2 := Lib.hid (hB.set_ (N - 1 - k) (.int .u8 (va l / 256 ^ k % 256)))
        rw [ag8_set, hset] at X2
        have X4 := Lib.hid hby
        have i2 : (k : Int) / 2 < n := by omega
        clear hb hB hset hby HB1 HC1 hV
        go_wp2_with fail
        exact ⟨⟨k + 1, by omega, by go_num, X1.out.setCell (Nat.le_refl _) _, by simpa [World.setCell] using hsz, by rw [X4.out]; exact X2.out⟩, by simp [intOf]; omega⟩
      · have hz : va l / 256 ^ k % 256 = 0 := by rw [← hby, gt_none l (k / 2) (by rw [HL.out]; omega)]; simp
        have hsame : List.replicate (N - k) (0 : Int) ++ lo (va l) k = List.replicate (N - (k + 1)) 0 ++ lo (va l) (k + 1) := by
          rw [show N - k = (N - (k + 1)) + 1 by omega, List.replicate_succ', List.append_assoc]
          simp [lo, hz]
        have X2 := Lib.hid hB
        rw [hsame] at X2
        have i2 : ¬ ((k : Int) / 2 < n) := by omega
        clear hb hB hset hby HB1 HC1 hz hsame
        go_wp2_with fail
        exact ⟨⟨k + 1, by omega, by go_num, X1.out, hsz, X2.out⟩, by simp [intOf]; omega⟩
    · obtain rfl : k = N := by omega
      have X1 := Lib.hid hb
      have X2 := Lib.hid hB
      clear hb hB HB1 HC1
      go_wp2_with fail
      go_ret
      exact ⟨_, rfl, Nat.le_refl _, X2.out.cast (by simp), X1.out⟩
end Go.Proofs.YtialfoccalobpaaDoor

/-! ## R3E -/
namespace Go.Proofs.YtialfoccalobpaaDoor
open Go.RowKit
/-- The first m words of a number. -/
def wl (v : Int) : Nat → List Int
  | 0 => []
  | m + 1 => (v % 65536) :: wl (v / 65536) m
theorem wl_len (v : Int) (m : Nat) : (wl v m).length = m := by
  induction m generalizing v with
  | zero => rfl
  | succ m ih => simp [wl, ih]
theorem wl_w16 (v : Int) (m : Nat) : W16 (wl v m) := by
  induction m generalizing v with
  | zero => intro b hb; simp [wl] at hb
  | succ m ih =>
    intro b hb
    simp only [wl, List.mem_cons] at hb
    rcases hb with rfl | hb
    · omega
    · exact ih _ b hb
theorem va_wl (v : Int) (m : Nat) (h0 : 0 ≤ v) (h : v < 65536 ^ m) : va (wl v m) = v := by
  induction m generalizing v with
  | zero => simp at h; simp [wl, va]; omega
  | succ m ih =>
    rw [Int.pow_succ] at h
    have h1 := ih (v / 65536) (by omega) (by omega)
    simp only [wl, va, h1]
    omega
theorem wl_zero (m : Nat) : wl 0 m = List.replicate m 0 := by
  induction m with
  | zero => rfl
  | succ m ih => simp [wl, ih, List.replicate_succ]
/-- A word more at its place, the words above being nought. -/
theorem wl_set (v x : Int) (m j : Nat) (hj : j < m) (h0 : 0 ≤ v) (x0 : 0 ≤ x) (h : v / 65536 ^ j + x < 65536) : wl (v + 65536 ^ j * x) m = (wl v m).set j (v / 65536 ^ j + x) := by
  induction m generalizing v j with
  | zero => omega
  | succ m ih =>
    cases j with
    | zero =>
      simp only [Int.pow_zero, Int.one_mul, Int.ediv_one] at *
      have e1 : (v + x) / 65536 = v / 65536 := by omega
      have e2 : (v + x) % 65536 = v + x := by omega
      simp [wl, e1, e2]
    | succ j =>
      have e : (65536 : Int) ^ (j + 1) * x = 65536 * (65536 ^ j * x) := by rw [Int.pow_succ]; grind
      have e1 : (v + 65536 * (65536 ^ j * x)) / 65536 = v / 65536 + 65536 ^ j * x := by omega
      have e2 : (v + 65536 * (65536 ^ j * x)) % 65536 = v % 65536 := by omega
      have e3 : v / 65536 ^ (j + 1) = v / 65536 / 65536 ^ j := by rw [Int.pow_succ, Int.mul_comm, edd _ _ _ (by omega)]
      rw [e3] at h ⊢
      rw [e, wl, e1, e2, ih (v / 65536) j (by omega) (by omega) h]
      rfl
end Go.Proofs.YtialfoccalobpaaDoor
