/-
  The reference of fr: the contract of Same.
-/
import Derived.Test.YtclfmdaafpachaaDoorR3B
namespace Go.Proofs.YtclfmdaafpachaaDoor
open Go.RowKit
set_option maxRecDepth 100000 in
set_option maxHeartbeats 1000000 in
theorem r3_same (w : World) (A : Option Addr) (n c : Nat) (l : List Int) (A2 : Option Addr) (n2 c2 : Nat) (l2 : List Int) (hr : Reads w w.heap.size A n (l.map (Value.int .u32))) (hr2 : Reads w w.heap.size A2 n2 (l2.map (Value.int .u32))) (ho : W16 l) (ho2 : W16 l2) (hn : n ≤ 1099511627776) (hn2 : n2 ≤ 1099511627776) :
    Calls Tryd.prog 32 #[.slice A n c, .slice A2 n2 c2] w fun e w' => e = .returned (.bool (decide (va l = va l2))) ∧ Below w.heap.size w w' := by
  have h1 := r3_less w A n c l A2 n2 c2 l2 hr hr2 ho ho2 hn hn2
  have h2 : ∀ W, Below w.heap.size w W → Calls Tryd.prog 30 #[.slice A2 n2 c2, .slice A n c] W fun e w' => e = .returned (.bool (decide (va l2 < va l))) ∧ Below w.heap.size w w' := fun W hW =>
    (r3_less W A2 n2 c2 l2 A n c l ((hr2.below hW).more hW.size) ((hr.below hW).more hW.size) ho2 ho hn2 hn).mono fun _ _ ⟨he, hb⟩ => ⟨he, hW.trans (hb.mono hW.size)⟩
  obtain ⟨r, hres⟩ : ∃ r, r = decide (va l = va l2) := ⟨_, rfl⟩
  rw [← hres]
  have HRES := Lib.hid hres
  rcases Int.lt_trichotomy (va l) (va l2) with h | h | h
  · have RS := Lib.hid (show false = r by rw [hres]; exact (decide_eq_false (by omega)).symm)
    rw [decide_eq_true h] at h1
    have C1 := Lib.hid h1
    clear h1 h2 hr hr2 hres h HRES
    go_enter Tryd.func32, Tryd.ntmps32
    go_wp2_with fail
    refine C1.out.mono ?_
    rintro e w1 ⟨rfl, hb⟩
    have B1 := Lib.hid hb
    clear hb
    go_wp2_with fail
    go_ret
    exact ⟨congrArg (fun b => Ending.returned (.bool b)) RS.out, B1.out⟩
  · have RS := Lib.hid (show true = r by rw [hres]; exact (decide_eq_true h).symm)
    rw [decide_eq_false (by omega)] at h1
    have h2' := fun W hW => (h2 W hW).mono fun e w' (hh : e = .returned (.bool (decide (va l2 < va l))) ∧ Below w.heap.size w w') => (show e = .returned (.bool false) ∧ Below w.heap.size w w' by rw [decide_eq_false (by omega)] at hh; exact hh)
    have C1 := Lib.hid h1
    have C2 := Lib.hid h2'
    clear h1 h2 h2' hr hr2 hres h HRES
    go_enter Tryd.func32, Tryd.ntmps32
    go_wp2_with fail
    refine C1.out.mono ?_
    rintro e w1 ⟨rfl, hb⟩
    have B1 := Lib.hid hb
    clear hb
    go_wp2_with fail
    refine (C2.out _ B1.out).mono ?_
    rintro e w2 ⟨rfl, hb⟩
    have B2 := Lib.hid hb
    clear hb
    go_wp2_with fail
    go_ret
    exact ⟨congrArg (fun b => Ending.returned (.bool b)) RS.out, B2.out⟩
  · have RS := Lib.hid (show false = r by rw [hres]; exact (decide_eq_false (by omega)).symm)
    rw [decide_eq_false (by omega)] at h1
    have h2' := fun W hW => (h2 W hW).mono fun e w' (hh : e = .returned (.bool (decide (va l2 < va l))) ∧ Below w.heap.size w w') => (show e = .returned (.bool true) ∧ Below w.heap.size w w' by rw [decide_eq_true (by omega)] at hh; exact hh)
    have C1 := Lib.hid h1
    have C2 := Lib.hid h2'
    clear h1 h2 h2' hr hr2 hres h HRES
    go_enter Tryd.func32, Tryd.ntmps32
    go_wp2_with fail
    refine C1.out.mono ?_
    rintro e w1 ⟨rfl, hb⟩
    have B1 := Lib.hid hb
    clear hb
    go_wp2_with fail
    refine (C2.out _ B1.out).mono ?_
    rintro e w2 ⟨rfl, hb⟩
    have B2 := Lib.hid hb
    clear hb
    go_wp2_with fail
    go_ret
    exact ⟨congrArg (fun b => Ending.returned (.bool b)) RS.out, B2.out⟩
end Go.Proofs.YtclfmdaafpachaaDoor
