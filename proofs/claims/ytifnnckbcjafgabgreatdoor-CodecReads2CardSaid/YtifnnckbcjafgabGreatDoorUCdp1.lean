/-
  Reading a point of the first group.
-/
import Derived.Test.YtifnnckbcjafgabGreatDoorUCdg1
namespace Go.Proofs.YtifnnckbcjafgabGreatDoor
set_option linter.unusedSimpArgs false
set_option linter.unusedVariables false
open Go.RowKit
attribute [local irreducible] wpL wpF fr Code.wp bodyPost
theorem cd_form_tt (b0 o0 L0 C0 : Nat) (bs0 : List Int) (v : World) (hl0 : bs0.length = L0) (ho0 : Oct bs0) (hq0 : b0 < v.heap.size) (hc0 : ∀ j, j < L0 → v.cell? ⟨b0, o0 + j, none⟩ = some (.int .u8 (gt bs0 j))) (hL : 1 < L0) (hLC : L0 ≤ C0) (hLm : L0 ≤ 1000) (h : frm bs0 true = true) : Rets 108 #[.slice (some ⟨b0, o0, none⟩) L0 C0, .bool true] v (.bool true) := by
  have := cd_formed_t b0 o0 L0 C0 bs0 v hl0 ho0 hq0 hc0 hL hLC hLm
  rwa [show frm bs0 true = true from h] at this
theorem cd_form_tf (b0 o0 L0 C0 : Nat) (bs0 : List Int) (v : World) (hl0 : bs0.length = L0) (ho0 : Oct bs0) (hq0 : b0 < v.heap.size) (hc0 : ∀ j, j < L0 → v.cell? ⟨b0, o0 + j, none⟩ = some (.int .u8 (gt bs0 j))) (hL : 1 < L0) (hLC : L0 ≤ C0) (hLm : L0 ≤ 1000) (h : ¬ frm bs0 true = true) : Rets 108 #[.slice (some ⟨b0, o0, none⟩) L0 C0, .bool true] v (.bool false) := by
  have := cd_formed_t b0 o0 L0 C0 bs0 v hl0 ho0 hq0 hc0 hL hLC hLm
  rwa [show frm bs0 true = false from Bool.eq_false_iff.2 h] at this
theorem cd_form_ft (b0 o0 L0 C0 : Nat) (bs0 : List Int) (v : World) (hl0 : bs0.length = L0) (ho0 : Oct bs0) (hq0 : b0 < v.heap.size) (hc0 : ∀ j, j < L0 → v.cell? ⟨b0, o0 + j, none⟩ = some (.int .u8 (gt bs0 j))) (hL : 1 < L0) (hLC : L0 ≤ C0) (hLm : L0 ≤ 1000) (h : frm bs0 false = true) : Rets 108 #[.slice (some ⟨b0, o0, none⟩) L0 C0, .bool false] v (.bool true) := by
  have := cd_formed_f b0 o0 L0 C0 bs0 v hl0 ho0 hq0 hc0 hL hLC hLm
  rwa [show frm bs0 false = true from h] at this
theorem cd_form_ff (b0 o0 L0 C0 : Nat) (bs0 : List Int) (v : World) (hl0 : bs0.length = L0) (ho0 : Oct bs0) (hq0 : b0 < v.heap.size) (hc0 : ∀ j, j < L0 → v.cell? ⟨b0, o0 + j, none⟩ = some (.int .u8 (gt bs0 j))) (hL : 1 < L0) (hLC : L0 ≤ C0) (hLm : L0 ≤ 1000) (h : ¬ frm bs0 false = true) : Rets 108 #[.slice (some ⟨b0, o0, none⟩) L0 C0, .bool false] v (.bool false) := by
  have := cd_formed_f b0 o0 L0 C0 bs0 v hl0 ho0 hq0 hc0 hL hLC hLm
  rwa [show frm bs0 false = false from Bool.eq_false_iff.2 h] at this
end Go.Proofs.YtifnnckbcjafgabGreatDoor
