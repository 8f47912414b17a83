/-
  Calls that answer a value of which something is known.
-/
import Derived.Test.YtifnnckbcjafgabGreatDoorUFn2
namespace Go.Proofs.YtifnnckbcjafgabGreatDoor
set_option linter.unusedSimpArgs false
set_option linter.unusedVariables false
open Go.RowKit
section
variable {P : Program} {ops : Array Oper} {R : Act → World → Prop} {v : World} {L : List (Nat × TypeId × Array Value)} {n : Nat} {sl : List (Nat × Value)}
/-- A call whose value is one of two things' making. -/
theorem L_callE {A B : Type} {i d : Nat} {l : List Nat} {f : FuncId} {args : Array Operand} {ats : Array TypeId} {ty : TypeId} {pos : String} {after : Array Edge} {gd : Option (Nat × Bool)} {vl : List Value} (val : A → B → Value) (Q : A → B → Prop)
    (hi : ops[i]? = some ⟨some d, .call { callee := .value (.func f), args := args, argTypes := ats }, ty, pos, after, gd⟩) (hl : inFr n sl = true) (hw : Want ops n sl gd) (hf : (Tryz.prog.funcs[f]?).map (fun fn => (fn.name == "runtime.NumGoroutine", fn.body.isNone)) = some (false, false))
    (ha : args.toList.map (rho sl) = vl) (hc : ∀ w, Hbl v L w → Calls Tryz.prog f vl.toArray w fun e w' => ∃ a b, e = .returned (val a b) ∧ Q a b ∧ Below w.heap.size w w')
    (h : ∀ a b, Q a b → wpL Tryz.prog ops R l (fr n ((d, val a b) :: sl)) (Hbl v L)) : wpL Tryz.prog ops R (i :: l) (fr n sl) (Hbl v L) := fun w hS =>
  wpOp_call hi hl (hw ..) hf ha (hc w hS) fun e w' ⟨a, b, he, hq, hb⟩ => ⟨_, he, Hbl v L, Hbl.stays v _, Hbl.stays v L w w' hS hb, h a b hq⟩
end
end Go.Proofs.YtifnnckbcjafgabGreatDoor
