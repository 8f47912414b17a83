/-
  fp: the contract of number.
-/
import Derived.Test.YtclfmdaafpachaaDoorFpF
import Derived.Test.YtclfmdaafpachaaDoorFrG
namespace Go.Proofs.YtclfmdaafpachaaDoor
open Go.RowKit
set_option maxRecDepth 100000 in
set_option maxHeartbeats 1000000 in
theorem fp_number (w : World) (B : Nat) (A : Option Addr) (n c : Nat) (bs : List Int) (hr : Reads w B A n (bs.map (Value.int .u8))) (ho : Oct bs) (hn : n ≤ 8) :
    Calls Tryd.prog 124 #[.slice A n c] w fun e w' => e = .returned (.int .u64 (num bs)) ∧ w = w' := by
  have hl : bs.length = n := by simpa using hr.1
  have HL := Lib.hid hl
  have HR := Lib.hid hr
  clear hr hl
  go_enter Tryd.func124, Tryd.ntmps124
  go_wp2_with fail
  go_loop [3, 5, 8] (fun a _ i => ∃ k : Nat, k ≤ n ∧ i = .int .i64 k ∧ a = .int .u64 (num (bs.take k))) (fun _ _ i => n - (intOf i).toNat)
  case atStart => exact ⟨0, Nat.zero_le _, rfl, rfl⟩
  case round =>
    obtain ⟨k, hk, rfl, rfl⟩ := hrel
    by_cases hlt : k < n
    · obtain ⟨b0, o0, rfl, _, hc⟩ := reads_cell HR.out hlt
      have e := take_snoc bs k (by rw [HL.out]; exact hlt)
      have ha := num_lt (bs.take k) (ho.take k)
      have hb := ho.at_ k
      have hp : (256 : Int) ^ (bs.take k).length ≤ 256 ^ 7 := by
        have : (bs.take k).length ≤ 7 := by simp; omega
        exact_mod_cast Nat.pow_le_pow_right (n := 256) (by omega) this
      obtain ⟨a, hA⟩ : ∃ a, a = num (bs.take k) := ⟨_, rfl⟩
      obtain ⟨b, hB⟩ : ∃ b, b = gt bs k := ⟨_, rfl⟩
      rw [← hB] at e hc hb
      have hs : num (bs.take (k + 1)) = a * 256 + b := by rw [e, num_snoc, hA]
      rw [← hA] at ha ⊢
      have ha9 : a * 256 < 18446744073709551616 := by omega
      have hor := or_shift a b ha.1 ha9 hb.1 hb.2
      have HO := Lib.hid hor
      have HS := Lib.hid hs
      have a1 := ha.1
      have i1 : (k : Int) < n := by omega
      have hwr : IntKind.u64.wrap (a * 256) = a * 256 := by rw [wrapU]; exact loW_of (by omega) (by unfold Wd; omega)
      have hwb : IntKind.u64.wrap b = b := by rw [wrapU]; exact loW_of hb.1 (by unfold Wd; omega)
      clear hor hs ha hb hp ha9 e hA hB
      go_wp2_with fail
      exact ⟨⟨k + 1, by omega, by go_num, by rw [HO.out, HS.out]⟩, by simp [intOf]; omega⟩
    · obtain rfl : k = n := by omega
      have hf : bs.take k = bs := List.take_of_length_le (by rw [HL.out]; omega)
      rw [hf]
      clear hf
      have i1 : ¬ ((k : Int) < k) := by omega
      go_wp2_with fail
      go_ret
      exact ⟨rfl, rfl⟩
end Go.Proofs.YtclfmdaafpachaaDoor
