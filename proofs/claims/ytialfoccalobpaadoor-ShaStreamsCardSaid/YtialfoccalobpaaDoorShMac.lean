/-
  The contract of Mac: a keyed digest.
-/
import Derived.Test.YtialfoccalobpaaDoorShKey
namespace Go.Proofs.YtialfoccalobpaaDoor
open Go.RowKit
/-- Values that read as byte lists, one by one. -/
def PV (w : World) (B : Nat) : List Value → List (List Int) → Prop
  | [], [] => True
  | v :: vs, b :: bs => Piece w B v b ∧ PV w B vs bs
  | _, _ => False
theorem PV.below {w w' : World} {B : Nat} : ∀ {vs : List Value} {ps : List (List Int)}, PV w B vs ps → Below B w w' → PV w' B vs ps
  | [], [], _, _ => trivial
  | [], _ :: _, h, _ => h
  | _ :: _, [], h, _ => h
  | _ :: _, _ :: _, h, hb => ⟨h.1.below hb, PV.below h.2 hb⟩
theorem PV.more {w : World} {B B' : Nat} : ∀ {vs : List Value} {ps : List (List Int)}, PV w B vs ps → B ≤ B' → PV w B' vs ps
  | [], [], _, _ => trivial
  | [], _ :: _, h, _ => h
  | _ :: _, [], h, _ => h
  | _ :: _, _ :: _, h, hb => ⟨h.1.more hb, PV.more h.2 hb⟩
theorem PV.one {w : World} {B : Nat} : ∀ {vs : List Value} {ps : List (List Int)}, PV w B vs ps → ∀ u ∈ vs, u.oneCell' = true
  | [], _, _ => by simp
  | _ :: _, [], h => h.elim
  | v :: vs, _ :: _, h => by
    intro u hu
    rcases List.mem_cons.1 hu with rfl | hu
    · obtain ⟨A, m, c, rfl, _⟩ := h.1
      rfl
    · exact PV.one h.2 u hu
theorem PV.get {w : World} {B : Nat} : ∀ {vs : List Value} {ps : List (List Int)}, PV w B vs ps → ∀ i (h : i < ps.length), ∃ v, vs[i]? = some v ∧ Piece w B v ps[i]
  | [], [], _, i, h => by simp at h
  | [], _ :: _, h, _, _ => h.elim
  | _ :: _, [], h, _, _ => h.elim
  | v :: vs, p :: ps, h, 0, _ => ⟨v, rfl, h.1⟩
  | v :: vs, p :: ps, h, i + 1, hi => by
    obtain ⟨u, hu, hp⟩ := PV.get h.2 i (by simpa using hi)
    exact ⟨u, by simpa using hu, by simpa using hp⟩
theorem PV.of_get {w : World} {B : Nat} : ∀ (vs : List Value) (ps : List (List Int)), vs.length = ps.length → (∀ i (h : i < vs.length) (h' : i < ps.length), Piece w B vs[i] ps[i]) → PV w B vs ps
  | [], [], _, _ => trivial
  | [], _ :: _, h, _ => by simp at h
  | _ :: _, [], h, _ => by simp at h
  | v :: vs, p :: ps, h, hp => ⟨hp 0 (by simp) (by simp), PV.of_get vs ps (by simpa using h) fun i h1 h2 => hp (i + 1) (Nat.succ_lt_succ h1) (Nat.succ_lt_succ h2)⟩
theorem Pieces.values {w : World} {B n : Nat} {A : Option Addr} {ps : List (List Int)} (h : Pieces w B A n ps) : ∃ vs, Reads w B A n vs ∧ PV w B vs ps := by
  rcases Nat.eq_zero_or_pos n with h0 | h0
  · subst h0
    have : ps = [] := List.eq_nil_of_length_eq_zero h.1
    subst this
    exact ⟨[], Reads.nil_, trivial⟩
  · obtain ⟨b, o, rfl, hb, hc⟩ := h.2 h0
    have hl := h.1
    refine ⟨List.ofFn fun i : Fin n => Classical.choose (hc i.val (by rw [hl]; exact i.isLt)), ⟨by simp, fun _ => ⟨b, o, rfl, hb, fun j u hu => ?_⟩⟩, PV.of_get _ _ (by simp [hl]) fun i h1 h2 => ?_⟩
    · obtain ⟨hj, rfl⟩ := List.getElem?_eq_some_iff.1 hu
      rw [List.getElem_ofFn]
      exact (Classical.choose_spec (hc j (by rw [hl]; simpa using hj))).1
    · rw [List.getElem_ofFn]
      exact (Classical.choose_spec (hc i h2)).2
theorem pieces_of {w : World} {B n : Nat} {A : Option Addr} {vs : List Value} {ps : List (List Int)} (hr : Reads w B A n vs) (hp : PV w B vs ps) (hl : ps.length = n) : Pieces w B A n ps := by
  refine ⟨hl, fun hn => ?_⟩
  obtain ⟨b, o, e, hb, hc⟩ := hr.2 hn
  refine ⟨b, o, e, hb, fun i hi => ?_⟩
  obtain ⟨v, hv, hq⟩ := hp.get i hi
  exact ⟨v, hc i v hv, hq⟩
theorem PV.len {w : World} {B : Nat} : ∀ {vs : List Value} {ps : List (List Int)}, PV w B vs ps → vs.length = ps.length
  | [], [], _ => rfl
  | [], _ :: _, h => h.elim
  | _ :: _, [], h => h.elim
  | _ :: _, _ :: _, h => by simp [PV.len h.2]
theorem piece_blk {W : World} {B g n : Nat} {t : TypeId} {bs : List Int} (hB : Blk W g t (agg8 bs)) (hl : bs.length = n) (hg : g < B) : Piece W B (.slice (some ⟨g, 0, none⟩) n n) bs :=
  ⟨_, _, _, rfl, Nat.le_refl _, by simpa using hl, fun _ => ⟨_, _, rfl, hg, fun j u hu => by
    rw [Nat.zero_add, hB.cell, agg8]
    simpa using hu⟩⟩
theorem Blk.readsAll {w : World} {g B n : Nat} {t : TypeId} {cs : Array Value} {vs : List Value} (h : Blk w g t cs) (hg : g < B) (hv : cs.toList.take n = vs) (hn : n ≤ cs.size) : Reads w B (some ⟨g, 0, none⟩) n vs := by
  refine ⟨by rw [← hv]; simp; omega, fun _ => ⟨g, 0, rfl, hg, fun j u hu => ?_⟩⟩
  rw [Nat.zero_add, h.cell]
  rw [← hv, List.getElem?_take] at hu
  split at hu
  · simpa using hu
  · cases hu

def mac (key text : List Int) : List Int := digest (maskL (keyB key) 92 ++ digest (maskL (keyB key) 54 ++ text))
theorem mac_len (key text : List Int) : (mac key text).length = 32 := digest_len _
theorem slice_info : (Tryd.prog.info? 22).map (fun i => (i.zero, i.size, i.bytes)) = some (some (.slice none 0 0), 1, 24) := by kernel_rfl
end Go.Proofs.YtialfoccalobpaaDoor
