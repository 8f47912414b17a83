/-
  fr: the contract of number: what a word's bytes are.
-/
import Derived.Test.YtclfmdaafpachaaDoorFrF
namespace Go.Proofs.YtclfmdaafpachaaDoor
open Go.RowKit
/-- The i-th number (0 behind the end): a name of its own, so that the walk leaves it. -/
def gt (l : List Int) (i : Nat) : Int := l.getD i 0
theorem gt_eq {l : List Int} {i : Nat} (h : i < l.length) : gt l i = l[i] := by simp [gt, h]
theorem take_snoc (l : List Int) (k : Nat) (h : k < l.length) : l.take (k + 1) = l.take k ++ [gt l k] := by
  rw [List.take_succ_eq_append_getElem h, gt_eq h]
/-- The number that bytes are, the highest first. -/
def num (l : List Int) : Int := l.foldl (fun a b => a * 256 + b) 0
theorem num_snoc (l : List Int) (b : Int) : num (l ++ [b]) = num l * 256 + b := by simp [num]
/-- All are bytes. -/
def Oct (l : List Int) : Prop := ∀ b ∈ l, 0 ≤ b ∧ b < 256
theorem Oct.take {l : List Int} (h : Oct l) (k : Nat) : Oct (l.take k) := fun b hb => h b (List.mem_of_mem_take hb)
theorem Oct.drop {l : List Int} (h : Oct l) (k : Nat) : Oct (l.drop k) := fun b hb => h b (List.mem_of_mem_drop hb)
theorem Oct.at_ {l : List Int} (h : Oct l) (k : Nat) : 0 ≤ gt l k ∧ gt l k < 256 := by
  rcases Nat.lt_or_ge k l.length with h1 | h1
  · rw [gt_eq h1]; exact h _ (List.getElem_mem h1)
  · simp [gt, h1]
theorem num_lt (l : List Int) (h : Oct l) : 0 ≤ num l ∧ num l < 256 ^ l.length := by
  suffices ∀ n, ∀ l : List Int, l.length = n → Oct l → 0 ≤ num l ∧ num l < 256 ^ n from this _ l rfl h
  intro n
  induction n with
  | zero => intro l hl _; obtain rfl := List.eq_nil_of_length_eq_zero hl; simp [num]
  | succ n ih =>
    intro l hl ho
    have e := take_snoc l n (by omega)
    rw [List.take_of_length_le (by omega)] at e
    have h1 := ih (l.take n) (by simp; omega) (ho.take n)
    have h2 := ho.at_ n
    rw [e, num_snoc, Int.pow_succ]
    omega
theorem num_app (l m : List Int) : num (l ++ m) = num l * 256 ^ m.length + num m := by
  suffices ∀ n, ∀ m : List Int, m.length = n → num (l ++ m) = num l * 256 ^ n + num m by rw [this _ m rfl]
  intro n
  induction n with
  | zero => intro m hm; obtain rfl := List.eq_nil_of_length_eq_zero hm; simp [num]
  | succ n ih =>
    intro m hm
    have e := take_snoc m n (by omega)
    rw [List.take_of_length_le (by omega)] at e
    rw [e, ← List.append_assoc, num_snoc, num_snoc, ih (m.take n) (by simp; omega), Int.pow_succ]
    grind
theorem or_shift (a b : Int) (ha0 : 0 ≤ a) (ha : a * 256 < 18446744073709551616) (hb0 : 0 ≤ b) (hb : b < 256) : bits .or .u64 (a * 256) b = a * 256 + b := by
  obtain ⟨A, rfl⟩ := Int.eq_ofNat_of_zero_le ha0
  obtain ⟨B, rfl⟩ := Int.eq_ofNat_of_zero_le hb0
  have h := u64_or_nat (A * 256) B (by omega) (by omega)
  rw [show ((A : Int) * 256) = ((A * 256 : Nat) : Int) by omega, h]
  have h2 := Nat.shiftLeft_add_eq_or_of_lt (b := B) (i := 8) (by omega) A
  rw [Nat.shiftLeft_eq, show (2 : Nat) ^ 8 = 256 from rfl] at h2
  rw [← h2]
  simp
theorem reads_cell {w : World} {B n : Nat} {A : Option Addr} {q : IntKind} {l : List Int} (h : Reads w B A n (l.map (Value.int q))) {k : Nat} (hk : k < n) :
    ∃ b o, A = some ⟨b, o, none⟩ ∧ b < B ∧ w.cell? ⟨b, o + k, none⟩ = some (.int q (gt l k)) := by
  obtain ⟨b, o, e, hb, hc⟩ := h.2 (by omega)
  have hl : k < l.length := by have := h.1; simp at this; omega
  exact ⟨b, o, e, hb, hc k _ (by rw [gt_eq hl]; simp [hl])⟩
set_option maxRecDepth 100000 in
set_option maxHeartbeats 1000000 in
theorem fr_number (w : World) (B : Nat) (A : Option Addr) (n c : Nat) (bs : List Int) (hr : Reads w B A n (bs.map (Value.int .u8))) (ho : Oct bs) (hn : n ≤ 8) :
    Calls Tryd.prog 112 #[.slice A n c] w fun e w' => e = .returned (.int .u64 (num bs)) ∧ w = w' := by
  have hl : bs.length = n := by simpa using hr.1
  have HL := Lib.hid hl
  have HR := Lib.hid hr
  clear hr hl
  go_enter Tryd.func112, Tryd.ntmps112
  go_wp2_with fail
  go_loop [3, 5, 8] (fun a _ i => ∃ k : Nat, k ≤ n ∧ i = .int .i64 k ∧ a = .int .u64 (num (bs.take k))) (fun _ _ i => n - (intOf i).toNat)
  case atStart => exact ⟨0, Nat.zero_le _, rfl, rfl⟩
  case round =>
    obtain ⟨k, hk, rfl, rfl⟩ := hrel
    by_cases hlt : k < n
    · obtain ⟨b0, o0, rfl, _, hc⟩ := reads_cell HR.out hlt
      have e := take_snoc bs k (by rw [HL.out]; exact hlt)
      have ha := num_lt (bs.take k) (ho.take k)
      have hb := ho.at_ k
      have hp : (256 : Int) ^ (bs.take k).length ≤ 256 ^ 7 := by
        have : (bs.take k).length ≤ 7 := by simp; omega
        exact_mod_cast Nat.pow_le_pow_right (n := 256) (by omega) this
      obtain ⟨a, hA⟩ : ∃ a, a = num (bs.take k) := ⟨_, rfl⟩
      obtain ⟨b, hB⟩ : ∃ b, b = gt bs k := ⟨_, rfl⟩
      rw [← hB] at e hc hb
      have hs : num (bs.take (k + 1)) = a * 256 + b := by rw [e, num_snoc, hA]
      rw [← hA] at ha ⊢
      have ha9 : a * 256 < 18446744073709551616 := by omega
      have hor := or_shift a b ha.1 ha9 hb.1 hb.2
      have HO := Lib.hid hor
      have HS := Lib.hid hs
      have a1 := ha.1
      have i1 : (k : Int) < n := by omega
      have hwr : IntKind.u64.wrap (a * 256) = a * 256 := by rw [wrapU]; exact loW_of (by omega) (by unfold Wd; omega)
      have hwb : IntKind.u64.wrap b = b := by rw [wrapU]; exact loW_of hb.1 (by unfold Wd; omega)
      clear hor hs ha hb hp ha9 e hA hB
      go_wp2_with fail
      exact ⟨⟨k + 1, by omega, by go_num, by rw [HO.out, HS.out]⟩, by simp [intOf]; omega⟩
    · obtain rfl : k = n := by omega
      have hf : bs.take k = bs := List.take_of_length_le (by rw [HL.out]; omega)
      rw [hf]
      clear hf
      have i1 : ¬ ((k : Int) < k) := by omega
      go_wp2_with fail
      go_ret
      exact ⟨rfl, rfl⟩
end Go.Proofs.YtclfmdaafpachaaDoor
