import Derived.Test.YtialfoccalobpaaDoorWBFr2
namespace Go.Proofs.YtialfoccalobpaaDoor
set_option linter.unusedSimpArgs false
set_option linter.unusedVariables false
open Go.RowKit
section
variable {P : Program} {S : World → Prop} {l : List (Nat × Value)} {dst : Option Nat} {x y : Operand} {t ty : TypeId} {pos : String} {after : Array Edge} {gd : Option (Nat × Bool)}
end
section
variable {P : Program} {ops : Array Oper} {late : List Nat} {R : Act → World → Prop} {v : World} {L L0 : List (Nat × TypeId × Array Value)} {n : Nat} {sl : List (Nat × Value)}
end
/-- Ninety-six bytes of a number of the field above: B first. -/
def b96c (x : F2) : Array Value := ag8 (lo (x.b.val : Int) 48 ++ lo (x.a.val : Int) 48)
theorem b96c_size (x : F2) : (b96c x).size = 96 := by rw [b96c, ag8_size, List.length_append, lo_len, lo_len]
theorem b96c_one (x : F2) : (b96c x).all (·.oneCell') = true := ag8_one _
theorem hi_b96 (x : F2) : (Tryd.prog.info? 126).map (·.size) = some (b96c x).size := by rw [b96c_size]; kernel_rfl
theorem z_b96 : (Tryd.prog.info? 126).map (·.zero) = some (some (.agg (b96c 0))) := by kernel_rfl
theorem und_b96 : Tryd.prog.underlying 126 = some (.array 96 5) := by kernel_rfl
attribute [local irreducible] wpL wpF fr Code.wp bodyPost
end Go.Proofs.YtialfoccalobpaaDoor
