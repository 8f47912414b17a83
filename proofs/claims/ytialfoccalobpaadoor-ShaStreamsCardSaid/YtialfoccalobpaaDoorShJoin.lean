/-
  The contracts of Join and is.
-/
import Derived.Test.YtialfoccalobpaaDoorShOwn
import Derived.Test.YtialfoccalobpaaDoorA0
import Derived.Test.YtialfoccalobpaaDoorShHead
import Derived.Deep.QuietTactic
import Derived.BigQuiet
namespace Go.Proofs.YtialfoccalobpaaDoor
open Go.RowKit
theorem Pieces.at_ {w : World} {B n : Nat} {A : Option Addr} {ps : List (List Int)} (h : Pieces w B A n ps) {k : Nat} (hk : k < n) :
    ∃ b o A' m c bs, A = some ⟨b, o, none⟩ ∧ b < B ∧ w.cell? ⟨b, o + k, none⟩ = some (.slice A' m c) ∧ m ≤ c ∧ Reads w B A' m (bs.map (Value.int .u8)) ∧ ps.take (k + 1) = ps.take k ++ [bs] := by
  obtain ⟨b, o, e, hb, hc⟩ := h.2 (by omega)
  have hl : k < ps.length := by rw [h.1]; exact hk
  obtain ⟨v, hv, A', m, c, rfl, hmc, hr⟩ := hc k hl
  exact ⟨b, o, A', m, c, ps[k], e, hb, hv, hmc, hr, List.take_succ_eq_append_getElem hl⟩
theorem flat_le (ps : List (List Int)) (k : Nat) : (ps.take k).flatten.length ≤ ps.flatten.length := by
  have h : ps.flatten = (ps.take k).flatten ++ (ps.drop k).flatten := by rw [← List.flatten_append, List.take_append_drop]
  rw [h, List.length_append]
  omega
set_option maxRecDepth 100000 in
theorem is_any (w : World) (D : List Int) (hD : D.length = 32) (A : Option Addr) (n c : Nat) (l : List Int) (hr : Reads w w.heap.size A n (l.map (Value.int .u8))) (hn : n ≤ 281474976710656) :
    Calls Tryd.prog 24 #[.agg (agg8 D), .slice A n c] w fun e w' => e = .returned (.bool (decide (D = l))) ∧ Below w.heap.size w w' := by
  obtain ⟨AD, hAD⟩ : ∃ AD, AD = agg8 D := ⟨_, rfl⟩
  rw [← hAD]
  have hb : Below w.heap.size w (w.alloc (.cells AD 50)) := (Below.refl _ _).alloc (Nat.le_refl _) _
  have h := same_any (w.alloc (.cells AD 50)) (w.heap.size + 1) w.heap.size (some ⟨w.heap.size, 0, none⟩) 32 32 A n c D l
    (Blk.readsFull (Blk.new w 50 AD) (by omega) (by rw [hAD, agg8, List.take_of_length_le]; simp [hD]) (by rw [hAD, agg8_size, hD]; omega)) (hr.below hb) (by omega) hn
  have HS := Lib.hid h
  have HB := Lib.hid hb
  have HA := Lib.hid hAD
  clear h hb hAD hr
  go_enter Tryd.func24, Tryd.ntmps24
  go_wp2_with fail
  first
    | refine HS.out.mono ?_
    | (rw [← HA.out]; refine HS.out.mono ?_)
  rintro e w' ⟨rfl, m, rfl⟩
  go_wp2_with fail
  go_ret
  exact ⟨rfl, below_drewN HB.out m⟩
end Go.Proofs.YtialfoccalobpaaDoor
