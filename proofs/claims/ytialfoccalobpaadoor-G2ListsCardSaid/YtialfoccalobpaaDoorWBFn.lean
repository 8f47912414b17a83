/-
  Layer 5's reference: a struct of two slices.
-/
import Derived.Test.YtialfoccalobpaaDoorWBFc2
namespace Go.Proofs.YtialfoccalobpaaDoor
set_option linter.unusedSimpArgs false
set_option linter.unusedVariables false
open Go.RowKit
section
variable {S : World → Prop} {l : List (Nat × Value)} {dst : Option Nat} {x y : Operand} {ty : TypeId} {pos : String} {after : Array Edge} {gd : Option (Nat × Bool)}
end
section
variable {P : Program} {ops : Array Oper} {late : List Nat} {R : Act → World → Prop} {v : World} {L L0 : List (Nat × TypeId × Array Value)} {n : Nat} {sl : List (Nat × Value)}
end
end Go.Proofs.YtialfoccalobpaaDoor
