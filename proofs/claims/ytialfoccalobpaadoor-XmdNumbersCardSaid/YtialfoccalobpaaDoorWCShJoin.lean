/-
  The contracts of Join and is.
-/
import Derived.Test.YtialfoccalobpaaDoorWCShOwn
import Derived.Test.YtialfoccalobpaaDoorWCA0
import Derived.Test.YtialfoccalobpaaDoorWCShHead
import Derived.Deep.QuietTactic
import Derived.BigQuiet
namespace Go.Proofs.YtialfoccalobpaaDoor
open Go.RowKit
theorem Pieces.at_ {w : World} {B n : Nat} {A : Option Addr} {ps : List (List Int)} (h : Pieces w B A n ps) {k : Nat} (hk : k < n) :
    ∃ b o A' m c bs, A = some ⟨b, o, none⟩ ∧ b < B ∧ w.cell? ⟨b, o + k, none⟩ = some (.slice A' m c) ∧ m ≤ c ∧ Reads w B A' m (bs.map (Value.int .u8)) ∧ ps.take (k + 1) = ps.take k ++ [bs] := by
  obtain ⟨b, o, e, hb, hc⟩ := h.2 (by omega)
  have hl : k < ps.length := by rw [h.1]; exact hk
  obtain ⟨v, hv, A', m, c, rfl, hmc, hr⟩ := hc k hl
  exact ⟨b, o, A', m, c, ps[k], e, hb, hv, hmc, hr, List.take_succ_eq_append_getElem hl⟩
theorem flat_le (ps : List (List Int)) (k : Nat) : (ps.take k).flatten.length ≤ ps.flatten.length := by
  have h : ps.flatten = (ps.take k).flatten ++ (ps.drop k).flatten := by rw [← List.flatten_append, List.take_append_drop]
  rw [h, List.length_append]
  omega
end Go.Proofs.YtialfoccalobpaaDoor
