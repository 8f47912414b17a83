/-
  Join: the walk.
-/
import Derived.Test.YtialfoccalobpaaDoorWCShV
namespace Go.Proofs.YtialfoccalobpaaDoor
set_option linter.unusedSimpArgs false
set_option linter.unusedVariables false
open Go.RowKit
attribute [local irreducible] wpL wpF fr Code.wp bodyPost
theorem Pieces.more {w : World} {B B' n : Nat} {A : Option Addr} {ps : List (List Int)} (h : Pieces w B A n ps) (hb : B ≤ B') : Pieces w B' A n ps :=
  ⟨h.1, fun hn => by
    obtain ⟨b, o, e, hB, hc⟩ := h.2 hn
    exact ⟨b, o, e, by omega, fun i hi => by obtain ⟨v, hv, hp⟩ := hc i hi; exact ⟨v, hv, hp.more hb⟩⟩⟩
end Go.Proofs.YtialfoccalobpaaDoor
