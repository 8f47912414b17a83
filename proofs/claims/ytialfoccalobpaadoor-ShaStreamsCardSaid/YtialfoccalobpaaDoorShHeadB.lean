/-
  The contract of the second head: one keyed digest that the document fixes.
-/
import Derived.Test.YtialfoccalobpaaDoorShMac
namespace Go.Proofs.YtialfoccalobpaaDoor
open Go.RowKit
def jefe : List Int := [74, 101, 102, 101]
def want1 : List Int := [119, 104, 97, 116, 32, 100, 111, 32, 121, 97, 32, 119, 97, 110, 116, 32]
def want2 : List Int := [102, 111, 114, 32, 110, 111, 116, 104, 105, 110, 103, 63]
theorem jefe_0 : gt (mac jefe (want1 ++ want2)) 0 = 91 := by decide +kernel
theorem jefe_1 : gt (mac jefe (want1 ++ want2)) 1 = 220 := by decide +kernel
theorem jefe_31 : gt (mac jefe (want1 ++ want2)) 31 = 67 := by decide +kernel
/-- A block whose bytes may not be written reads as well. -/
theorem frozen_reads {w : World} {g B n : Nat} {t : TypeId} {fr : Nat × Nat} {l : List Int} (h : w.heap[g]? = some (.cells (agg8 l) t fr)) (hg : g < B) (hl : l.length = n) : Reads w B (some ⟨g, 0, none⟩) n (l.map (Value.int .u8)) :=
  ⟨by simpa using hl, fun _ => ⟨g, 0, rfl, hg, fun j u hu => by
    rw [Nat.zero_add, cell_of_row w g j _ t fr h, agg8]
    simpa using hu⟩⟩
end Go.Proofs.YtialfoccalobpaaDoor
