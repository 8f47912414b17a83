/-
  The reference of fr: the contract of Bytes.
-/
import Derived.Test.YtclfmdaafpachaaDoorR3C
namespace Go.Proofs.YtclfmdaafpachaaDoor
open Go.RowKit
theorem edd (a b c : Int) (hb : 0 ≤ b) : a / (b * c) = a / b / c := by
  first
    | exact (Int.ediv_ediv_of_nonneg hb).symm
    | exact Int.ediv_mul hb
    | exact (Int.ediv_ediv_eq_ediv_mul a hb).symm
theorem va_word (l : List Int) (h : W16 l) (j : Nat) : va l / 65536 ^ j % 65536 = gt l j := by
  induction j generalizing l with
  | zero =>
    cases l with
    | nil => simp [va, gt]
    | cons a l =>
      have h2 := h a (List.mem_cons_self ..)
      simp [va, gt]
      omega
  | succ j ih =>
    cases l with
    | nil => simp [va, gt]
    | cons a l =>
      have h2 := h a (List.mem_cons_self ..)
      have h3 := ih l (fun b hb => h b (List.mem_cons_of_mem _ hb))
      have e : va (a :: l) / 65536 = va l := by simp only [va]; omega
      rw [Int.pow_succ, Int.mul_comm, edd _ _ _ (by omega), e, h3]
      simp [gt]
theorem va_byte (l : List Int) (h : W16 l) (i : Nat) : gt l (i / 2) / 2 ^ (8 * (i % 2)) % 256 = va l / 256 ^ i % 256 := by
  have hw := va_word l h (i / 2)
  have e : (256 : Int) ^ i = 65536 ^ (i / 2) * 256 ^ (i % 2) := by
    rw [show (65536 : Int) = 256 ^ 2 from rfl, ← Int.pow_mul, ← Int.pow_add, Nat.div_add_mod]
  have hp : (0 : Int) ≤ 65536 ^ (i / 2) := Int.le_of_lt (Int.pow_pos (by omega))
  rw [e, edd _ _ _ hp]
  generalize va l / 65536 ^ (i / 2) = V at *
  rw [← hw]
  rcases Nat.mod_two_eq_zero_or_one i with h1 | h1 <;> rw [h1] <;> simp <;> omega
set_option maxRecDepth 100000 in
set_option maxHeartbeats 1000000 in
theorem r3_bytes (w : World) (A : Option Addr) (n c : Nat) (l : List Int) (hr : Reads w w.heap.size A n (l.map (Value.int .u32))) (ho : W16 l) (N : Nat) (hN : N ≤ 1048576) (hn : n ≤ 1099511627776) :
    Calls Tryd.prog 81 #[.slice A n c, .int .i64 N] w fun e w' => ∃ g, e = .returned (.slice (some ⟨g, 0, none⟩) N N) ∧ w.heap.size ≤ g ∧ Blk w' g 5 (ag8 (lo (va l) N)) ∧ Below w.heap.size w w' := by
  have hl : l.length = n := by simpa using hr.1
  have HR := Lib.hid hr
  have HL := Lib.hid hl
  have HVB := Lib.hid (va_byte l ho)
  clear hr hl
  go_enter Tryd.func81, Tryd.ntmps81
  go_wp2_with (at_make; refine wpList_make_new _ rfl _ _ _ rfl 5 _ 1 Tryd.underlying22 byte_info rfl .i64 .i64 _ N rfl rfl rfl (by omega) (by omega) ?_; intro w1 hb1 hs1 hB1; have HB1 := Lib.hid hb1; have HC1 := Lib.hid hB1; clear hB1 hb1)
  go_loopw [6, 7] (fun i _ wr => ∃ k : Nat, k ≤ N ∧ i = .int .i64 k ∧ Below w.heap.size w wr ∧ w.heap.size < wr.heap.size ∧ Blk wr w.heap.size 5 (ag8 (List.replicate (N - k) 0 ++ lo (va l) k))) (fun i _ _ => N - (intOf i).toNat)
  case atStart => exact ⟨0, Nat.zero_le _, rfl, HB1.out, hs1, HC1.out.cast (by simp [lo, ag8])⟩
  case round =>
    obtain ⟨k, hk, rfl, hb, hsz, hB⟩ := hrel
    by_cases hlt : k < N
    · have hset := set_lo (va l) N k hlt
      have hby := HVB.out k
      have i1 : (k : Int) < N := by omega
      have i5 : 0 ≤ (N : Int) - 1 - k := by omega
      have i6 : (N : Int) - 1 - k < N := by omega
      have X1 := Lib.hid hb
      by_cases hin : k / 2 < n
      · obtain ⟨b0, o0, rfl, hb0, hc0⟩ := reads_cell (HR.out.below hb) hin
        obtain ⟨v0, hv⟩ := hB.some_ (i := N - 1 - k) (by rw [ag8_size]; simp [lo_len]; omega)
        have hf := hB.frozen (N - 1 - k)
        obtain ⟨v, hV⟩ : ∃ v, v = gt l (k / 2) := ⟨_, rfl⟩
        rw [← hV] at hc0 hby
        have vb := ho.at_ (k / 2)
        rw [← hV] at vb
        have X2 := Lib.hid (hB.set_ (N - 1 - k) (.int .u8 (va l / 256 ^ k % 256)))
        rw [ag8_set, hset] at X2
        have X4 := Lib.hid hby
        have i2 : (k : Int) / 2 < n := by omega
        clear hb hB hset hby HB1 HC1 hV
        go_wp2_with fail
        exact ⟨⟨k + 1, by omega, by go_num, X1.out.setCell (Nat.le_refl _) _, by simpa [World.setCell] using hsz, by rw [X4.out]; exact X2.out⟩, by simp [intOf]; omega⟩
      · have hz : va l / 256 ^ k % 256 = 0 := by rw [← hby, gt_none l (k / 2) (by rw [HL.out]; omega)]; simp
        have hsame : List.replicate (N - k) (0 : Int) ++ lo (va l) k = List.replicate (N - (k + 1)) 0 ++ lo (va l) (k + 1) := by
          rw [show N - k = (N - (k + 1)) + 1 by omega, List.replicate_succ', List.append_assoc]
          simp [lo, hz]
        have X2 := Lib.hid hB
        rw [hsame] at X2
        have i2 : ¬ ((k : Int) / 2 < n) := by omega
        clear hb hB hset hby HB1 HC1 hz hsame
        go_wp2_with fail
        exact ⟨⟨k + 1, by omega, by go_num, X1.out, hsz, X2.out⟩, by simp [intOf]; omega⟩
    · obtain rfl : k = N := by omega
      have X1 := Lib.hid hb
      have X2 := Lib.hid hB
      clear hb hB HB1 HC1
      go_wp2_with fail
      go_ret
      exact ⟨_, rfl, Nat.le_refl _, X2.out.cast (by simp), X1.out⟩
end Go.Proofs.YtclfmdaafpachaaDoor
