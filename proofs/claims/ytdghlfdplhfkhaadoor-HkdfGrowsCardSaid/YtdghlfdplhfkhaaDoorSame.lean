/-
  The contract of Same: two slices of bytes are compared.
-/
import Derived.Test.YtdghlfdplhfkhaaDoorOf
import Derived.Deep.QuietTactic
import Derived.BigQuiet
namespace Go.Proofs.YtdghlfdplhfkhaaDoor
open Go.RowKit
theorem drewN_two (w : World) (m n : Nat) : (w.drewN m).drewN n = w.drewN (m + n) := by simp
set_option maxRecDepth 100000 in
set_option maxHeartbeats 400000 in
theorem same_any (w : World) (B1 B2 : Nat) (A : Option Addr) (n c : Nat) (A2 : Option Addr) (n2 c2 : Nat) (l1 l2 : List Int) (hr1 : Reads w B1 A n (l1.map (Value.int .u8))) (hr2 : Reads w B2 A2 n2 (l2.map (Value.int .u8))) (hn : n ≤ 281474976710656) (hn2 : n2 ≤ 281474976710656) :
    Calls Tryd.prog 15 #[.slice A n c, .slice A2 n2 c2] w fun e w' => e = .returned (.bool (decide (l1 = l2))) ∧ ∃ m, w' = w.drewN m := by
  have hl1 : l1.length = n := by simpa using hr1.1
  have hl2 : l2.length = n2 := by simpa using hr2.1
  have H1 := Lib.hid hr1
  have H2 := Lib.hid hr2
  have L1 := Lib.hid hl1
  have L2 := Lib.hid hl2
  clear hr1 hr2 hl1 hl2
  by_cases hne : n = n2
  · subst hne
    go_enter Tryd.func15, Tryd.ntmps15
    go_wp2_with fail
    go_loopw [5, 13] (fun _ i wr => ∃ k m : Nat, k ≤ n ∧ i = .int .i64 k ∧ wr = w.drewN m ∧ l1.take k = l2.take k) (fun _ i _ => n - (intOf i).toNat)
    case atStart => exact ⟨0, 0, Nat.zero_le _, rfl, rfl, rfl⟩
    case round =>
      obtain ⟨k, m, hk, rfl, rfl, htk⟩ := hrel
      have T := Lib.hid htk
      clear htk
      by_cases hlt : k < n
      · obtain ⟨b0, o0, rfl, hb0, hc0⟩ := H1.out.at_ hlt
        obtain ⟨b1, o1, rfl, hb1, hc1⟩ := H2.out.at_ hlt
        have i1 : (k : Int) < n := by omega
        have s1 := take_snoc l1 k (by rw [L1.out]; exact hlt)
        have s2 := take_snoc l2 k (by rw [L2.out]; exact hlt)
        by_cases hq : gt l1 k = gt l2 k
        · have hd : decide (gt l1 k = gt l2 k) = true := by simpa using hq
          rw [hq] at hc0 s1
          have S1 := Lib.hid s1
          have S2 := Lib.hid s2
          clear s1 s2 hd
          go_wp2_with fail
          go_quiet (fail)
          go_wp2_with fail
          exact ⟨⟨k + 1, _, by omega, by go_num, rfl, by rw [S1.out, S2.out, T.out]⟩, by simp [intOf]; omega⟩
        · have S1 := Lib.hid s1
          have S2 := Lib.hid s2
          clear s1 s2
          go_wp2_with fail
          go_quiet (fail)
          go_wp2_with fail
          go_ret
          refine ⟨?_, m + _, drewN_two w m _⟩
          have hd : decide (l1 = l2) = false := by
            simp only [decide_eq_false_iff_not]
            intro e
            exact hq (by rw [e])
          rw [hd]; rfl
      · obtain rfl : k = n := by omega
        have hd : decide (l1 = l2) = true := by
          have h := T.out
          rw [List.take_of_length_le (Nat.le_of_eq L1.out), List.take_of_length_le (Nat.le_of_eq L2.out)] at h
          simpa using h
        have HD := Lib.hid hd
        clear hd
        have i1 : ¬ ((k : Int) < k) := by omega
        go_wp2_with fail
        go_ret
        exact ⟨by rw [HD.out]; rfl, m, rfl⟩
  · have hd : decide (l1 = l2) = false := by
      simp only [decide_eq_false_iff_not]
      intro e
      exact hne (by rw [← L1.out, ← L2.out, e])
    rw [hd]
    have i1 : ¬ ((n : Int) = n2) := by omega
    go_enter Tryd.func15, Tryd.ntmps15
    go_wp2_with fail
    go_ret
    exact ⟨rfl, 0, rfl⟩
end Go.Proofs.YtdghlfdplhfkhaaDoor
