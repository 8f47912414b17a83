/-
  append onto slices of the call's own whose elements take several cells.
-/
import Derived.Test.YtialfoccalobpaaDoorWCR3Z
namespace Go.Proofs.YtialfoccalobpaaDoor
set_option linter.unusedSimpArgs false
set_option linter.unusedVariables false
open Go.RowKit
theorem Blk.ownsN {w : World} {g base n cap s : Nat} {e : TypeId} {cs : Array Value} (h : Blk w g e cs) (hb : base ≤ g) (hn : n ≤ cap) (hs : cs.size = cap * s) (hm : cap ≤ 9223372036854775807) :
    w.ownsRow base e s (.slice (some ⟨g, 0, none⟩) n cap) n (cs.toList.take (n * s)) :=
  ⟨by rw [List.length_take, Array.length_toList, hs]; exact Nat.min_eq_left (Nat.mul_le_mul_right s hn), .inr ⟨g, cap, cs, rfl, hb, h, hn, by simp only [maxLen]; omega, hs, rfl⟩⟩
theorem owns_blkN {w : World} {base n s : Nat} {e : TypeId} {v : Value} {xs : List Value} (h : w.ownsRow base e s v n xs) (hn : v ≠ .slice none 0 0) :
    ∃ g cap cs, v = .slice (some ⟨g, 0, none⟩) n cap ∧ base ≤ g ∧ Blk w g e cs ∧ n ≤ cap ∧ cs.size = cap * s ∧ cs.toList.take (n * s) = xs ∧ cap ≤ 9223372036854775807 := by
  rcases h.2 with ⟨h0, _⟩ | ⟨g, cap, cur, hv, hb, hg, hnc, hm, hs, ht⟩
  · exact absurd h0 hn
  · exact ⟨g, cap, cur, hv, hb, hg, hnc, hs, ht, by simpa only [maxLen] using hm⟩
section
variable {P : Program} {ops : Array Oper} {late : List Nat} {R : Act → World → Prop} {v : World} {L L0 : List (Nat × TypeId × Array Value)} {n : Nat} {sl : List (Nat × Value)}
end
end Go.Proofs.YtialfoccalobpaaDoor
