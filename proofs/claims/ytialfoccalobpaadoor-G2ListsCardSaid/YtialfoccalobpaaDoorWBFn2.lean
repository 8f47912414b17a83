/-
  Calls that make one or two known blocks; structs of two slices; bytes that an append made.
-/
import Derived.Test.YtialfoccalobpaaDoorWBFn
namespace Go.Proofs.YtialfoccalobpaaDoor
set_option linter.unusedSimpArgs false
set_option linter.unusedVariables false
open Go.RowKit
section
variable {ops : Array Oper} {late : List Nat} {R : Act → World → Prop} {v : World} {L L0 : List (Nat × TypeId × Array Value)} {n : Nat} {sl : List (Nat × Value)}
end
section
variable {S : World → Prop} {l : List (Nat × Value)} {dst : Option Nat} {x y : Operand} {ty : TypeId} {pos : String} {after : Array Edge} {gd : Option (Nat × Bool)}
end
section
variable {P : Program} {fn : Func} {E : Ending → World → Prop} {n : Nat} {sl : List (Nat × Value)} {w : World}
theorem ret_cell_cell {s s' g g' : Nat} {ty ty' t t' : TypeId} {cs cs' : Array Value} {d d' : TypeDesc} (hres : fn.results = #[.cell s ty, .cell s' ty']) (hl : inFr n sl = true) (hs : look sl s = .pointer (some ⟨g, 0, none⟩)) (hs' : look sl s' = .pointer (some ⟨g', 0, none⟩)) (hB : Blk w g t cs) (hB' : Blk w g' t' cs')
    (hu : P.underlying ty = some d) (hd : (match d with | .struct _ | .array _ _ => true | _ => false) = true) (hi : (P.info? ty).map (·.size) = some cs.size)
    (hu' : P.underlying ty' = some d') (hd' : (match d' with | .struct _ | .array _ _ => true | _ => false) = true) (hi' : (P.info? ty').map (·.size) = some cs'.size) (hE : E (.returned (.tuple #[.agg cs, .agg cs'])) w) : bodyPost P fn E .ret (fr n sl) w := by
  refine bodyPost_ret (v := .tuple #[.agg cs, .agg cs']) ?_ (fr_defers n sl) hE
  have h := run_load_cells (P := P) hB hu hd hi
  have h' := run_load_cells (P := P) hB' hu' hd' hi'
  simp [results, hres, fr_at n sl hl, hs, hs', asAddr, h, h']
end
/-- A block's first m cells are bytes. -/
structure BB (cs : Array Value) (cap m : Nat) (l : List Int) : Prop where
  size : cs.size = cap
  le : m ≤ cap
  cap : cap ≤ 9223372036854775807
  len : l.length = m
  bytes : cs.toList.take m = l.map (Value.int .u8)
theorem BB.reads {w : World} {g cap m : Nat} {e : TypeId} {cs : Array Value} {l : List Int} (h : BB cs cap m l) (hB : Blk w g e cs) : Reads w w.heap.size (some ⟨g, 0, none⟩) m (l.map (Value.int .u8)) := by
  have := hB.reads hB.lt 0 m (by rw [h.size, Nat.zero_add]; exact h.le)
  rwa [List.drop_zero, h.bytes] at this
end Go.Proofs.YtialfoccalobpaaDoor
