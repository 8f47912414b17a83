/-
  An argument that is a slice of slices of bytes, with how long each of them can be.
-/
import Derived.Test.YtialfoccalobpaaDoorA4
import Derived.Test.YtialfoccalobpaaDoorStM
import Derived.Deep.Matrix
import Derived.SizedLaws
namespace Go.Proofs.YtialfoccalobpaaDoor
open Go.ChangeShapes Go.WideShapes Go.ChangeAt Go.RowKit Go.Deep
theorem mem_weightsAll {H : Type} {P : Program} {e : TypeId} {n : Nat} {d : DataW H} : ∀ {l : List (DataW H)}, d ∈ l → n ∈ d.weights P e → n ∈ DataW.weightsAll P e l
  | [], hd, _ => by cases hd
  | x :: l, hd, hn => by
    simp only [DataW.weightsAll, List.mem_append]
    rcases List.mem_cons.1 hd with rfl | hd
    · exact .inl hn
    · exact .inr (mem_weightsAll hd hn)
theorem rowsS_of {H : Type} {enc : TypeId × Value → H} {W : World} {a0 : Option Addr} {len0 cap0 : Nat} {d0 : DataW H} {p0 : List MemPlace}
    (h : ∃ fuel, DataW.trod enc Tryd.prog W 0 (fun _ => true) true fuel 46 (Value.slice a0 len0 cap0).cells.toList = some (d0, p0))
    (hw : ∀ n ∈ d0.weights Tryd.prog 46, n ≤ reachBytes) :
    ∃ ps0 : List (List Int), Pieces W W.heap.size a0 len0 ps0 ∧ len0 ≤ cap0 ∧ ∀ b ∈ ps0, b.length ≤ 140737488351232 := by
  obtain ⟨fuel, hf⟩ := h
  rcases open_int_rows Tryd.underlying46 Tryd.underlying22 Tryd.underlying5 (by kernel_rfl) (by kernel_rfl) hf with ⟨hcs, hx⟩ | ⟨x, l, c, A, L, C, Z, hcs, _, hl, hm, hx, hrow⟩
  · simp [Value.cells] at hcs
    obtain ⟨rfl, rfl, rfl⟩ := hcs
    exact ⟨[], ⟨rfl, fun h => absurd h (by omega)⟩, Nat.le_refl _, fun b hb => by cases hb⟩
  · simp [Value.cells] at hcs
    obtain ⟨rfl, rfl, rfl⟩ := hcs
    have hd0 := congrArg Prod.fst hx
    simp only at hd0
    refine ⟨(List.range len0).map fun r => (Z r).take (L r), ⟨by simp, fun hn => ?_⟩, hl, fun b hb => ?_⟩
    · obtain ⟨b, o, sp⟩ := x
      have hc0 := (hrow 0 (by omega)).1
      have hsp : sp = none := by simpa [Addr.add] using World.cell?_spot hc0
      subst hsp
      refine ⟨b, o, rfl, ?_, fun i hi => ?_⟩
      · have := World.block_lt_of_cell? W _ hc0
        rwa [block_of_add] at this
      · have hi' : i < len0 := by simpa using hi
        obtain ⟨hc, hLC, hCm, hZ, _, hnone, hsome⟩ := hrow i (by omega)
        rw [add_plain] at hc
        refine ⟨_, hc, A i, L i, C i, rfl, hLC, ?_⟩
        have e : ((List.range len0).map fun r => (Z r).take (L r))[i] = (Z i).take (L i) := by simp
        rw [e]
        cases hA : A i with
        | none =>
          have h0 := hnone hA
          have hL0 : L i = 0 := by omega
          rw [hL0, List.take_zero]
          exact Reads.nil_
        | some a' =>
          obtain ⟨_, hcell⟩ := hsome a' hA
          refine reads_of (by omega) (fun hz => ?_) (fun c hcz => hcell c (by omega))
          have h1 := hcell 0 (by omega)
          have := World.block_lt_of_cell? W _ h1
          rwa [block_of_add] at this
    · obtain ⟨r, hr, rfl⟩ := List.mem_map.1 hb
      have hr' : r < len0 := by simpa using hr
      obtain ⟨_, hLC, _, hZ, _, hnone, _⟩ := hrow r (by omega)
      cases hA : A r with
      | none =>
        have h0 := hnone hA
        simp; omega
      | some a' =>
        have hmem : (((Z r).take (L r)).length + ((Z r).drop (L r)).length) * Tryd.prog.bytesOf 5 ∈ (intRow (H := H) .u8 (A r) (L r) (Z r)).weights Tryd.prog 22 := by
          rw [hA, intRow]
          simp [DataW.weights, Tryd.underlying22, lits]
        have := hw _ (by
          rw [hd0, DataW.weights, Tryd.underlying46]
          exact List.mem_cons_of_mem _ (List.mem_append_left _ (mem_weightsAll (List.mem_map.2 ⟨r, hr, rfl⟩) hmem)))
        rw [bytesU8, Nat.mul_one, reachBytes] at this
        have e : (List.take (L r) (Z r)).length ≤ (List.take (L r) (Z r)).length + (List.drop (L r) (Z r)).length := Nat.le_add_right _ _
        exact Nat.le_trans e (by simpa using this)
end Go.Proofs.YtialfoccalobpaaDoor
