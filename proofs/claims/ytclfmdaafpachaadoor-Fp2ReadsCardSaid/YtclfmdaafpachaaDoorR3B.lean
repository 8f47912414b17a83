/-
  The reference of fr: the contract of Less.
-/
import Derived.Test.YtclfmdaafpachaaDoorR3A
import Derived.Test.YtclfmdaafpachaaDoorFrBased
namespace Go.Proofs.YtclfmdaafpachaaDoor
open Go.RowKit
set_option maxRecDepth 100000 in
set_option maxHeartbeats 1000000 in
theorem r3_less (w : World) (A : Option Addr) (n c : Nat) (l : List Int) (A2 : Option Addr) (n2 c2 : Nat) (l2 : List Int) (hr : Reads w w.heap.size A n (l.map (Value.int .u32))) (hr2 : Reads w w.heap.size A2 n2 (l2.map (Value.int .u32))) (ho : W16 l) (ho2 : W16 l2) (hn : n ≤ 1099511627776) (hn2 : n2 ≤ 1099511627776) :
    Calls Tryd.prog 30 #[.slice A n c, .slice A2 n2 c2] w fun e w' => e = .returned (.bool (decide (va l < va l2))) ∧ Below w.heap.size w w' := by
  have hl : l.length = n := by simpa using hr.1
  have hl2 : l2.length = n2 := by simpa using hr2.1
  have hW1 : ∀ W, Below w.heap.size w W → ∀ i : Nat, Calls Tryd.prog 114 #[.slice A n c, .int .i64 i] W fun e w' => e = .returned (.int .u32 (gt l i)) ∧ W = w' := fun W hW i => r3_word W _ A n c l (hr.below hW) i
  have hW2 : ∀ W, Below w.heap.size w W → ∀ i : Nat, Calls Tryd.prog 114 #[.slice A2 n2 c2, .int .i64 i] W fun e w' => e = .returned (.int .u32 (gt l2 i)) ∧ W = w' := fun W hW i => r3_word W _ A2 n2 c2 l2 (hr2.below hW) i
  have HW1 := Lib.hid hW1
  have HW2 := Lib.hid hW2
  obtain ⟨r, hres⟩ : ∃ r, r = decide (va l < va l2) := ⟨_, rfl⟩
  rw [← hres]
  have HRES := Lib.hid hres
  clear hres
  obtain ⟨N, hN⟩ : ∃ N : Nat, N = max n n2 := ⟨_, rfl⟩
  have hN1 : N ≤ 1099511627776 := by omega
  have hN2 : n ≤ N ∧ n2 ≤ N := by omega
  have HN := Lib.hid hN2
  clear hr hr2 hW1 hW2
  by_cases hc : n < n2
  · have i1 : (n : Int) < n2 := by omega
    obtain rfl : N = n2 := by omega
    clear hN hc
    go_enter Tryd.func30, Tryd.ntmps30
    go_wp2_with fail
    go_loop [6] (fun i => ∃ k : Nat, k ≤ N ∧ i = .int .i64 ((k : Int) - 1) ∧ ∀ j, k ≤ j → gt l j = gt l2 j) (fun i => (intOf i + 1).toNat)
    case atStart => exact ⟨N, Nat.le_refl _, rfl, fun j hj => by rw [gt_none l j (by omega), gt_none l2 j (by omega)]⟩
    case round =>
      obtain ⟨k, hk, rfl, hj⟩ := hrel
      rcases Nat.eq_zero_or_pos k with rfl | hpos
      · have hs := va_same (fun j => hj j (Nat.zero_le _))
        have RS := Lib.hid (show false = r by rw [HRES.out, hs]; simp)
        have j1 : decide ((0 : Int) ≤ ((0 : Nat) : Int) - 1) = false := by decide
        clear hs hj HW1 HW2 hl hl2
        go_wp2_with fail
        go_ret
        exact ⟨congrArg (fun b => Ending.returned (.bool b)) RS.out, Below.refl _ _⟩
      · obtain ⟨m, rfl⟩ : ∃ m, k = m + 1 := ⟨k - 1, by omega⟩
        have e1 : ((m + 1 : Nat) : Int) - 1 = (m : Int) := by omega
        rw [e1]
        clear e1
        have h1 := ho.at_ m
        have h2 := ho2.at_ m
        by_cases he : gt l m = gt l2 m
        · have HJ : Hid (∀ j, m ≤ j → gt l j = gt l2 j) := Lib.hid fun j h => by
            rcases Nat.lt_or_ge m j with h3 | h3
            · exact hj j (by omega)
            · obtain rfl : j = m := by omega
              exact he
          have C1 := Lib.hid (HW1.out w (Below.refl _ _) m)
          have C2 := Lib.hid (HW2.out w (Below.refl _ _) m)
          rw [← he] at C2
          obtain ⟨a, hA⟩ : ∃ a, a = gt l m := ⟨_, rfl⟩
          rw [← hA] at C1 C2
          clear he hj h1 h2 hA HW1 HW2 hl hl2
          go_wp2_with (first | ((with_reducible refine C1.out.mono ?_); rintro e w' ⟨rfl, rfl⟩) | ((with_reducible refine C2.out.mono ?_); rintro e w' ⟨rfl, rfl⟩))
          exact ⟨⟨m, by omega, rfl, HJ.out⟩, by simp [intOf]⟩
        · have C1 := Lib.hid (HW1.out w (Below.refl _ _) m)
          have C2 := Lib.hid (HW2.out w (Below.refl _ _) m)
          rcases Int.lt_or_gt_of_ne he with hlt | hlt
          · have RS := Lib.hid (show true = r by rw [HRES.out]; exact (decide_eq_true (va_less ho ho2 m hj hlt)).symm)
            obtain ⟨a, hA⟩ : ∃ a, a = gt l m := ⟨_, rfl⟩
            obtain ⟨b, hB⟩ : ∃ a, a = gt l2 m := ⟨_, rfl⟩
            rw [← hA] at C1 he hlt
            rw [← hB] at C2 he hlt
            clear hj h1 h2 hA hB HW1 HW2 hl hl2
            go_wp2_with (first | ((with_reducible refine C1.out.mono ?_); rintro e w' ⟨rfl, rfl⟩) | ((with_reducible refine C2.out.mono ?_); rintro e w' ⟨rfl, rfl⟩))
            go_ret
            exact ⟨congrArg (fun b => Ending.returned (.bool b)) RS.out, Below.refl _ _⟩
          · have RS := Lib.hid (show false = r by rw [HRES.out]; exact (decide_eq_false (by have := va_less ho2 ho m (fun j h => (hj j h).symm) hlt; omega)).symm)
            obtain ⟨a, hA⟩ : ∃ a, a = gt l m := ⟨_, rfl⟩
            obtain ⟨b, hB⟩ : ∃ a, a = gt l2 m := ⟨_, rfl⟩
            rw [← hA] at C1 he hlt
            rw [← hB] at C2 he hlt
            have i3 : ¬ a < b := by omega
            clear hj h1 h2 hA hB HW1 HW2 hl hl2 hlt
            go_wp2_with (first | ((with_reducible refine C1.out.mono ?_); rintro e w' ⟨rfl, rfl⟩) | ((with_reducible refine C2.out.mono ?_); rintro e w' ⟨rfl, rfl⟩))
            go_ret
            exact ⟨congrArg (fun b => Ending.returned (.bool b)) ((decide_eq_false (Int.not_lt.2 i3)).trans RS.out), Below.refl _ _⟩
  · have i1 : ¬ ((n : Int) < n2) := by omega
    obtain rfl : N = n := by omega
    clear hN hc
    go_enter Tryd.func30, Tryd.ntmps30
    go_wp2_with fail
    go_loop [6] (fun i => ∃ k : Nat, k ≤ N ∧ i = .int .i64 ((k : Int) - 1) ∧ ∀ j, k ≤ j → gt l j = gt l2 j) (fun i => (intOf i + 1).toNat)
    case atStart => exact ⟨N, Nat.le_refl _, rfl, fun j hj => by rw [gt_none l j (by omega), gt_none l2 j (by omega)]⟩
    case round =>
      obtain ⟨k, hk, rfl, hj⟩ := hrel
      rcases Nat.eq_zero_or_pos k with rfl | hpos
      · have hs := va_same (fun j => hj j (Nat.zero_le _))
        have RS := Lib.hid (show false = r by rw [HRES.out, hs]; simp)
        have j1 : decide ((0 : Int) ≤ ((0 : Nat) : Int) - 1) = false := by decide
        clear hs hj HW1 HW2 hl hl2
        go_wp2_with fail
        go_ret
        exact ⟨congrArg (fun b => Ending.returned (.bool b)) RS.out, Below.refl _ _⟩
      · obtain ⟨m, rfl⟩ : ∃ m, k = m + 1 := ⟨k - 1, by omega⟩
        have e1 : ((m + 1 : Nat) : Int) - 1 = (m : Int) := by omega
        rw [e1]
        clear e1
        have h1 := ho.at_ m
        have h2 := ho2.at_ m
        by_cases he : gt l m = gt l2 m
        · have HJ : Hid (∀ j, m ≤ j → gt l j = gt l2 j) := Lib.hid fun j h => by
            rcases Nat.lt_or_ge m j with h3 | h3
            · exact hj j (by omega)
            · obtain rfl : j = m := by omega
              exact he
          have C1 := Lib.hid (HW1.out w (Below.refl _ _) m)
          have C2 := Lib.hid (HW2.out w (Below.refl _ _) m)
          rw [← he] at C2
          obtain ⟨a, hA⟩ : ∃ a, a = gt l m := ⟨_, rfl⟩
          rw [← hA] at C1 C2
          clear he hj h1 h2 hA HW1 HW2 hl hl2
          go_wp2_with (first | ((with_reducible refine C1.out.mono ?_); rintro e w' ⟨rfl, rfl⟩) | ((with_reducible refine C2.out.mono ?_); rintro e w' ⟨rfl, rfl⟩))
          exact ⟨⟨m, by omega, rfl, HJ.out⟩, by simp [intOf]⟩
        · have C1 := Lib.hid (HW1.out w (Below.refl _ _) m)
          have C2 := Lib.hid (HW2.out w (Below.refl _ _) m)
          rcases Int.lt_or_gt_of_ne he with hlt | hlt
          · have RS := Lib.hid (show true = r by rw [HRES.out]; exact (decide_eq_true (va_less ho ho2 m hj hlt)).symm)
            obtain ⟨a, hA⟩ : ∃ a, a = gt l m := ⟨_, rfl⟩
            obtain ⟨b, hB⟩ : ∃ a, a = gt l2 m := ⟨_, rfl⟩
            rw [← hA] at C1 he hlt
            rw [← hB] at C2 he hlt
            clear hj h1 h2 hA hB HW1 HW2 hl hl2
            go_wp2_with (first | ((with_reducible refine C1.out.mono ?_); rintro e w' ⟨rfl, rfl⟩) | ((with_reducible refine C2.out.mono ?_); rintro e w' ⟨rfl, rfl⟩))
            go_ret
            exact ⟨congrArg (fun b => Ending.returned (.bool b)) RS.out, Below.refl _ _⟩
          · have RS := Lib.hid (show false = r by rw [HRES.out]; exact (decide_eq_false (by have := va_less ho2 ho m (fun j h => (hj j h).symm) hlt; omega)).symm)
            obtain ⟨a, hA⟩ : ∃ a, a = gt l m := ⟨_, rfl⟩
            obtain ⟨b, hB⟩ : ∃ a, a = gt l2 m := ⟨_, rfl⟩
            rw [← hA] at C1 he hlt
            rw [← hB] at C2 he hlt
            have i3 : ¬ a < b := by omega
            clear hj h1 h2 hA hB HW1 HW2 hl hl2 hlt
            go_wp2_with (first | ((with_reducible refine C1.out.mono ?_); rintro e w' ⟨rfl, rfl⟩) | ((with_reducible refine C2.out.mono ?_); rintro e w' ⟨rfl, rfl⟩))
            go_ret
            exact ⟨congrArg (fun b => Ending.returned (.bool b)) ((decide_eq_false (Int.not_lt.2 i3)).trans RS.out), Below.refl _ _⟩
end Go.Proofs.YtclfmdaafpachaaDoor
