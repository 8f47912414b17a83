/-
  The contract of Mac: a keyed digest.
-/
import Derived.Test.YtialfoccalobpaaDoorWCShKey
namespace Go.Proofs.YtialfoccalobpaaDoor
open Go.RowKit
/-- Values that read as byte lists, one by one. -/
def PV (w : World) (B : Nat) : List Value → List (List Int) → Prop
  | [], [] => True
  | v :: vs, b :: bs => Piece w B v b ∧ PV w B vs bs
  | _, _ => False
theorem PV.below {w w' : World} {B : Nat} : ∀ {vs : List Value} {ps : List (List Int)}, PV w B vs ps → Below B w w' → PV w' B vs ps
  | [], [], _, _ => trivial
  | [], _ :: _, h, _ => h
  | _ :: _, [], h, _ => h
  | _ :: _, _ :: _, h, hb => ⟨h.1.below hb, PV.below h.2 hb⟩
theorem PV.more {w : World} {B B' : Nat} : ∀ {vs : List Value} {ps : List (List Int)}, PV w B vs ps → B ≤ B' → PV w B' vs ps
  | [], [], _, _ => trivial
  | [], _ :: _, h, _ => h
  | _ :: _, [], h, _ => h
  | _ :: _, _ :: _, h, hb => ⟨h.1.more hb, PV.more h.2 hb⟩
theorem PV.one {w : World} {B : Nat} : ∀ {vs : List Value} {ps : List (List Int)}, PV w B vs ps → ∀ u ∈ vs, u.oneCell' = true
  | [], _, _ => by simp
  | _ :: _, [], h => h.elim
  | v :: vs, _ :: _, h => by
    intro u hu
    rcases List.mem_cons.1 hu with rfl | hu
    · obtain ⟨A, m, c, rfl, _⟩ := h.1
      rfl
    · exact PV.one h.2 u hu
theorem PV.get {w : World} {B : Nat} : ∀ {vs : List Value} {ps : List (List Int)}, PV w B vs ps → ∀ i (h : i < ps.length), ∃ v, vs[i]? = some v ∧ Piece w B v ps[i]
  | [], [], _, i, h => by simp at h
  | [], _ :: _, h, _, _ => h.elim
  | _ :: _, [], h, _, _ => h.elim
  | v :: vs, p :: ps, h, 0, _ => ⟨v, rfl, h.1⟩
  | v :: vs, p :: ps, h, i + 1, hi => by
    obtain ⟨u, hu, hp⟩ := PV.get h.2 i (by simpa using hi)
    exact ⟨u, by simpa using hu, by simpa using hp⟩
theorem pieces_of {w : World} {B n : Nat} {A : Option Addr} {vs : List Value} {ps : List (List Int)} (hr : Reads w B A n vs) (hp : PV w B vs ps) (hl : ps.length = n) : Pieces w B A n ps := by
  refine ⟨hl, fun hn => ?_⟩
  obtain ⟨b, o, e, hb, hc⟩ := hr.2 hn
  refine ⟨b, o, e, hb, fun i hi => ?_⟩
  obtain ⟨v, hv, hq⟩ := hp.get i hi
  exact ⟨v, hc i v hv, hq⟩
theorem PV.len {w : World} {B : Nat} : ∀ {vs : List Value} {ps : List (List Int)}, PV w B vs ps → vs.length = ps.length
  | [], [], _ => rfl
  | [], _ :: _, h => h.elim
  | _ :: _, [], h => h.elim
  | _ :: _, _ :: _, h => by simp [PV.len h.2]
theorem Blk.readsAll {w : World} {g B n : Nat} {t : TypeId} {cs : Array Value} {vs : List Value} (h : Blk w g t cs) (hg : g < B) (hv : cs.toList.take n = vs) (hn : n ≤ cs.size) : Reads w B (some ⟨g, 0, none⟩) n vs := by
  refine ⟨by rw [← hv]; simp; omega, fun _ => ⟨g, 0, rfl, hg, fun j u hu => ?_⟩⟩
  rw [Nat.zero_add, h.cell]
  rw [← hv, List.getElem?_take] at hu
  split at hu
  · simpa using hu
  · cases hu

end Go.Proofs.YtialfoccalobpaaDoor
