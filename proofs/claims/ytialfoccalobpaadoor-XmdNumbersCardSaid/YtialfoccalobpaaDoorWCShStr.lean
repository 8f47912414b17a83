/-
  What a hash is behind the bytes that it took: the state behind all whole blocks, the rest in the block. Plain lists.
-/
import Derived.Test.YtialfoccalobpaaDoorWCShMix
namespace Go.Proofs.YtialfoccalobpaaDoor
open Go.RowKit

def stateAt (L : List Int) : Nat → S8
  | 0 => startS
  | k + 1 => mixF (stateAt L k) ((L.drop (64 * k)).take 64)
theorem stateAt_append (L M : List Int) : ∀ k, 64 * k ≤ L.length → stateAt (L ++ M) k = stateAt L k
  | 0, _ => rfl
  | k + 1, h => by
    have e : ((L ++ M).drop (64 * k)).take 64 = (L.drop (64 * k)).take 64 := by
      rw [List.drop_append_of_le_length (by omega), List.take_append_of_le_length (by simp; omega)]
    rw [stateAt, stateAt, stateAt_append L M k (by omega), e]

structure Inv (S : S8) (blk L : List Int) : Prop where
  len : blk.length = 64
  state : S = stateAt L (L.length / 64)
  rest : blk.take (L.length % 64) = L.drop (64 * (L.length / 64))

theorem Inv.begin_ {blk : List Int} (h : blk.length = 64) : Inv startS blk [] := ⟨h, rfl, by simp⟩

theorem splice_take {α : Type} (B cs : List α) (r : Nat) (h : r + cs.length ≤ B.length) : (splice B r cs).take (r + cs.length) = B.take r ++ cs := by
  unfold splice
  rw [← List.append_assoc, List.take_append_of_le_length (by simp; omega)]
  exact List.take_of_length_le (by simp; omega)

theorem Inv.part {S : S8} {blk L bs : List Int} (h : Inv S blk L) (hq : L.length % 64 + bs.length < 64) : Inv S (splice blk (L.length % 64) bs) (L ++ bs) := by
  have hl := h.len
  have hm : (L ++ bs).length % 64 = L.length % 64 + bs.length := by simp; omega
  have hd : (L ++ bs).length / 64 = L.length / 64 := by simp; omega
  refine ⟨by rw [length_splice _ _ _ (by omega)]; exact hl, ?_, ?_⟩
  · rw [hd, stateAt_append _ _ _ (by omega)]; exact h.state
  · rw [hm, hd, splice_take _ _ _ (by omega), h.rest, List.drop_append_of_le_length (by omega)]
theorem Inv.full {S : S8} {blk L bs : List Int} (h : Inv S blk L) (hq : L.length % 64 + bs.length = 64) :
    Inv (mixF S (splice blk (L.length % 64) bs)) (splice blk (L.length % 64) bs) (L ++ bs) := by
  have hl := h.len
  have hm : (L ++ bs).length % 64 = 0 := by simp; omega
  have hd : (L ++ bs).length / 64 = L.length / 64 + 1 := by simp; omega
  have hB : splice blk (L.length % 64) bs = ((L ++ bs).drop (64 * (L.length / 64))).take 64 := by
    have h1 := splice_take blk bs (L.length % 64) (by omega)
    rw [hq, List.take_of_length_le (by rw [length_splice _ _ _ (by omega)]; omega)] at h1
    rw [h1, h.rest, List.drop_append_of_le_length (by omega), List.take_of_length_le (by simp; omega)]
  refine ⟨by rw [length_splice _ _ _ (by omega)]; exact hl, ?_, ?_⟩
  · rw [hd, stateAt, stateAt_append _ _ _ (by omega), ← hB, ← h.state]
  · rw [hm, hd]; simp; omega

theorem hcells_toList (S : S8) (blk : List Int) (n : Int) : (hcells S blk n).toList = S.cells ++ (blk.map (Value.int .u8) ++ [Value.int .i64 n]) := by simp [hcells]
theorem hcells_splice (S : S8) (blk bs : List Int) (n : Int) (r : Nat) (h : r + bs.length ≤ blk.length) :
    (splice (S.cells ++ (blk.map (Value.int .u8) ++ [Value.int .i64 n])) (8 + r) (bs.map (Value.int .u8))).toArray = hcells S (splice blk r bs) n := by
  have h8 : S.cells.length = 8 := rfl
  unfold splice hcells
  congr 1
  have e1 : 8 + r = S.cells.length + r := by rw [h8]
  have e2 : 8 + r + (bs.map (Value.int .u8)).length = S.cells.length + (r + bs.length) := by rw [h8]; simp; omega
  rw [e2, e1, List.take_length_add_append, List.drop_length_add_append, List.take_append_of_le_length (by simp; omega), List.drop_append_of_le_length (by simp; omega)]
  simp [List.map_take, List.map_drop]
theorem hcells_start (S : S8) (blk : List Int) (n : Int) : (splice (hcells S blk n).toList 0 startS.cells.toArray.toList).toArray = hcells startS blk n := by
  rw [hcells_toList]
  simp [splice, hcells, S8.cells]
theorem hcells_taken (S : S8) (blk : List Int) (n m : Int) (h : blk.length = 64) : (hcells S blk n).setIfInBounds 72 (.int .i64 m) = hcells S blk m := by
  simp only [hcells, List.setIfInBounds_toArray]
  congr 1
  rw [List.set_append_right _ _ (by simp [S8.cells]), List.set_append_right _ _ (by simp [S8.cells, h])]
  simp [S8.cells, h]
theorem hcells_n (S : S8) (blk : List Int) (n : Int) (h : blk.length = 64) : (hcells S blk n)[72]? = some (Value.int .i64 n) := by
  simp [hcells, S8.cells, h]
theorem hcells_size (S : S8) (blk : List Int) (n : Int) (h : blk.length = 64) : (hcells S blk n).size = 73 := by
  simp [hcells, S8.cells, h]

/-- Block g is a hash that took L. -/
def HashIs (w : World) (g : Nat) (L : List Int) : Prop :=
  ∃ S blk, Blk w g 106 (hcells S blk (L.length : Nat)) ∧ blk.length = 64 ∧ (0 < L.length → Inv S blk L)
theorem HashIs.keep {w w' : World} {g : Nat} {L : List Int} (h : HashIs w g L) (hb : ∀ cs, Blk w g 106 cs → Blk w' g 106 cs) : HashIs w' g L := by
  obtain ⟨S, blk, h1, h2, h3⟩ := h
  exact ⟨S, blk, hb _ h1, h2, h3⟩
theorem HashIs.lt {w : World} {g : Nat} {L : List Int} (h : HashIs w g L) : g < w.heap.size := by
  obtain ⟨S, blk, h1, _⟩ := h
  exact h1.lt
theorem HashIs.below {w w' : World} {g : Nat} {L : List Int} {B : Nat} (h : HashIs w g L) (hb : Below B w w') (hg : g < B) : HashIs w' g L := h.keep fun _ k => k.below hb hg
theorem HashIs.only {w w' : World} {g g' : Nat} {L : List Int} (h : HashIs w g L) (hb : w.grownBy w' (some g')) (hg : g ≠ g') : HashIs w' g L :=
  h.keep fun _ k => k.grown hb (fun e => hg (by cases e; rfl))
theorem HashIs.alloc {w : World} {g : Nat} {L : List Int} (h : HashIs w g L) (o : Obj) : HashIs (w.alloc o) g L := h.keep fun _ k => k.alloc o
end Go.Proofs.YtialfoccalobpaaDoor
