/-
  The reference of fr: numbers as words of sixteen bits; the contract of word.
-/
import Derived.Test.YtclfmdaafpachaaDoorFrG
namespace Go.Proofs.YtclfmdaafpachaaDoor
open Go.RowKit
/-- The number of words of sixteen bits, the lowest first. -/
def va : List Int → Int
  | [] => 0
  | a :: l => a + 65536 * va l
/-- Words of sixteen bits. -/
def W16 (l : List Int) : Prop := ∀ b ∈ l, 0 ≤ b ∧ b < 65536
theorem W16.at_ {l : List Int} (h : W16 l) (k : Nat) : 0 ≤ gt l k ∧ gt l k < 65536 := by
  rcases Nat.lt_or_ge k l.length with h1 | h1
  · rw [gt_eq h1]; exact h _ (List.getElem_mem h1)
  · simp [gt, h1]
theorem va_lt (l : List Int) (h : W16 l) : 0 ≤ va l ∧ va l < 65536 ^ l.length := by
  induction l with
  | nil => simp [va]
  | cons a l ih =>
    have h1 := ih (fun b hb => h b (List.mem_cons_of_mem _ hb))
    have h2 := h a (List.mem_cons_self ..)
    simp only [va, List.length_cons, Int.pow_succ]
    omega
theorem va_app (l m : List Int) : va (l ++ m) = va l + 65536 ^ l.length * va m := by
  induction l with
  | nil => simp [va]
  | cons a l ih =>
    simp only [List.cons_append, va, ih, List.length_cons, Int.pow_succ]
    grind
theorem va_snoc (l : List Int) (b : Int) : va (l ++ [b]) = va l + 65536 ^ l.length * b := by rw [va_app]; simp [va]
/-- The number of the first n words. -/
def vg (f : Nat → Int) : Nat → Int
  | 0 => 0
  | n + 1 => vg f n + 65536 ^ n * f n
theorem vg_take (l : List Int) (n : Nat) (h : n ≤ l.length) : vg (gt l) n = va (l.take n) := by
  induction n with
  | zero => simp [vg, va]
  | succ n ih =>
    rw [vg, ih (by omega), take_snoc l n (by omega), va_snoc]
    congr 3
    simp; omega
theorem gt_none (l : List Int) (i : Nat) (h : l.length ≤ i) : gt l i = 0 := by simp [gt, List.getElem?_eq_none h]
theorem vg_more (l : List Int) (n k : Nat) (h : l.length ≤ n) : vg (gt l) (n + k) = vg (gt l) n := by
  induction k with
  | zero => rfl
  | succ k ih => rw [← Nat.add_assoc, vg, ih, gt_none l (n + k) (by omega)]; simp
theorem va_vg (l : List Int) (n : Nat) (h : l.length ≤ n) : va l = vg (gt l) n := by
  have h1 := vg_take l l.length (Nat.le_refl _)
  rw [List.take_length] at h1
  have h2 := vg_more l l.length (n - l.length) (Nat.le_refl _)
  rw [show l.length + (n - l.length) = n by omega] at h2
  rw [h2, h1]
theorem vg_lt (f : Nat → Int) (hf : ∀ i, 0 ≤ f i ∧ f i < 65536) (n : Nat) : 0 ≤ vg f n ∧ vg f n < 65536 ^ n := by
  induction n with
  | zero => simp [vg]
  | succ n ih =>
    have h := hf n
    rw [vg, Int.pow_succ]
    have hp : (0 : Int) < 65536 ^ n := Int.pow_pos (by omega)
    have h1 : 0 ≤ 65536 ^ n * f n := Int.mul_nonneg (by omega) h.1
    have h2 : 65536 ^ n * f n ≤ 65536 ^ n * 65535 := Int.mul_le_mul_of_nonneg_left (by omega) (by omega)
    omega
theorem vg_top (f g : Nat → Int) (m k : Nat) (h : ∀ j, m ≤ j → f j = g j) : vg f (m + k) - vg g (m + k) = vg f m - vg g m := by
  induction k with
  | zero => rfl
  | succ k ih => rw [← Nat.add_assoc, vg, vg, h (m + k) (by omega)]; omega
theorem va_less {a b : List Int} (ha : W16 a) (hb : W16 b) (m : Nat) (h : ∀ j, m + 1 ≤ j → gt a j = gt b j) (hlt : gt a m < gt b m) : va a < va b := by
  have n1 : a.length ≤ m + 1 + (a.length + b.length) := by omega
  have n2 : b.length ≤ m + 1 + (a.length + b.length) := by omega
  have e := vg_top (gt a) (gt b) (m + 1) (a.length + b.length) h
  rw [← va_vg a _ n1, ← va_vg b _ n2, vg, vg] at e
  have h1 := vg_lt (gt a) ha.at_ m
  have h2 := vg_lt (gt b) hb.at_ m
  have hp : (0 : Int) < 65536 ^ m := Int.pow_pos (by omega)
  have h3 : 65536 ^ m * (gt a m + 1) ≤ 65536 ^ m * gt b m := Int.mul_le_mul_of_nonneg_left (by omega) (by omega)
  rw [Int.mul_add, Int.mul_one] at h3
  omega
theorem va_same {a b : List Int} (h : ∀ j, gt a j = gt b j) : va a = va b := by
  rw [va_vg a (a.length + b.length) (by omega), va_vg b (a.length + b.length) (by omega), show gt a = gt b from funext h]
set_option maxRecDepth 100000 in
set_option maxHeartbeats 1000000 in
theorem r3_word (w : World) (B : Nat) (A : Option Addr) (n c : Nat) (l : List Int) (hr : Reads w B A n (l.map (Value.int .u32))) (i : Nat) :
    Calls Tryd.prog 114 #[.slice A n c, .int .i64 i] w fun e w' => e = .returned (.int .u32 (gt l i)) ∧ w = w' := by
  have hl : l.length = n := by simpa using hr.1
  by_cases hlt : i < n
  · obtain ⟨b0, o0, rfl, _, hc⟩ := reads_cell hr hlt
    obtain ⟨b, hB⟩ : ∃ b, b = gt l i := ⟨_, rfl⟩
    rw [← hB] at hc ⊢
    have i1 : (i : Int) < n := by omega
    clear hB hl hr
    go_enter Tryd.func114, Tryd.ntmps114
    go_wp2_with fail
    go_ret
    exact ⟨rfl, rfl⟩
  · have e : gt l i = 0 := by simp [gt, List.getElem?_eq_none (show l.length ≤ i by omega)]
    rw [e]
    have i1 : ¬ ((i : Int) < n) := by omega
    clear hr e hl
    go_enter Tryd.func114, Tryd.ntmps114
    go_wp2_with fail
    go_ret
    exact ⟨rfl, rfl⟩
end Go.Proofs.YtclfmdaafpachaaDoor
