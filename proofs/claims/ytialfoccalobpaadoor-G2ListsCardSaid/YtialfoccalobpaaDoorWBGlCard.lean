/-
  An argument that is a slice of slices of bytes, as the walks of the groups' lists want it.
-/
import Derived.Test.YtialfoccalobpaaDoorWBA4
import Derived.Test.YtialfoccalobpaaDoorWBGl
import Derived.Deep.Matrix
namespace Go.Proofs.YtialfoccalobpaaDoor
open Go.ChangeShapes Go.WideShapes Go.ChangeAt Go.RowKit Go.Deep
theorem rowsG_of {H : Type} {enc : TypeId × Value → H} {W : World} {a0 : Option Addr} {len0 cap0 : Nat} {d0 : DataW H} {p0 : List MemPlace}
    (h : ∃ fuel, DataW.trod enc Tryd.prog W 0 (fun _ => true) true fuel 46 (Value.slice a0 len0 cap0).cells.toList = some (d0, p0)) :
    ∃ ps0 : List (List Int), Scls W W.heap.size a0 len0 ps0 ∧ len0 ≤ cap0 := by
  obtain ⟨fuel, hf⟩ := h
  rcases open_int_rows Tryd.underlying46 Tryd.underlying22 Tryd.underlying5 (by kernel_rfl) (by kernel_rfl) hf with ⟨hcs, hx⟩ | ⟨x, l, c, A, L, C, Z, hcs, _, hl, hm, hx, hrow⟩
  · simp [Value.cells] at hcs
    obtain ⟨rfl, rfl, rfl⟩ := hcs
    exact ⟨[], ⟨rfl, fun h => absurd h (by omega)⟩, Nat.le_refl _⟩
  · simp [Value.cells] at hcs
    obtain ⟨rfl, rfl, rfl⟩ := hcs
    refine ⟨(List.range len0).map fun r => (Z r).take (L r), ⟨by simp, fun hn => ?_⟩, hl⟩
    obtain ⟨b, o, sp⟩ := x
    have hc0 := (hrow 0 (by omega)).1
    have hsp : sp = none := by simpa [Addr.add] using World.cell?_spot hc0
    subst hsp
    refine ⟨b, o, rfl, ?_, fun i hi => ?_⟩
    · have := World.block_lt_of_cell? W _ hc0
      rwa [block_of_add] at this
    · obtain ⟨hc, hLC, hCm, hZ, hwf, hnone, hsome⟩ := hrow i (by omega)
      rw [add_plain] at hc
      have e : ((List.range len0).map fun r => (Z r).take (L r)).getD i [] = (Z i).take (L i) := by simp [hi]
      refine ⟨A i, L i, C i, hc, hLC, by simpa only [maxLen] using hCm, ?_, ?_⟩
      · rw [e]
        cases hA : A i with
        | none =>
          have h0 := hnone hA
          have hL0 : L i = 0 := by omega
          rw [hL0, List.take_zero]
          exact Reads.nil_
        | some a' =>
          obtain ⟨_, hcell⟩ := hsome a' hA
          refine reads_of (by omega) (fun hz => ?_) (fun c hcz => hcell c (by omega))
          have h1 := hcell 0 (by omega)
          have := World.block_lt_of_cell? W _ h1
          rwa [block_of_add] at this
      · rw [e]
        exact oct_of_wf hwf (L i)
end Go.Proofs.YtialfoccalobpaaDoor
