/-
  Slices of the call's own that hold slices, each in new memory.
-/
import Derived.Test.YtialfoccalobpaaDoorWCShD
namespace Go.Proofs.YtialfoccalobpaaDoor
set_option linter.unusedSimpArgs false
set_option linter.unusedVariables false
open Go.RowKit
theorem slice_sz : (Tryd.prog.info? 22).map (·.size) = some 1 := by kernel_rfl
theorem gives_load_oldS {P : Program} {S : World → Prop} {l : List (Nat × Value)} {dst : Option Nat} {x : Operand} {t ty et : TypeId} {pos : String} {after : Array Edge} {gd : Option (Nat × Bool)} (p : Addr) (u : Value) (hx : rho l x = .pointer (some p)) (hB : ∀ w, S w → w.cell? p = some u) (ht : P.underlying t = some (.slice et)) :
    Gives P S u (execOp (rho l) ⟨dst, .load t x, ty, pos, after, gd⟩) := fun w hS => by
  refine .inl ⟨w, ?_, Below.refl _ _⟩
  simp [execOp, hx, Instr.loadAt, Instr.sureAddr, loadVar, isAgg, run_underlying ht, hB w hS]
section
variable {ops : Array Oper} {R : Act → World → Prop} {v : World} {L L0 : List (Nat × TypeId × Array Value)} {n : Nat} {sl : List (Nat × Value)}
end
theorem flat_next {ps : List (List Int)} {i sn m : Nat} {b : List Int} (htk : ps.take (i + 1) = ps.take i ++ [b]) (hb : b.length = m) (hs : sn = (ps.take i).flatten.length) : sn + m = (ps.take (i + 1)).flatten.length := by
  rw [htk, List.flatten_append]
  simp [hs, hb]
end Go.Proofs.YtialfoccalobpaaDoor
