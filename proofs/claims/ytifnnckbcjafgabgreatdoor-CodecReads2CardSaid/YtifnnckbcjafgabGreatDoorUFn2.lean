/-
  Calls that make one or two known blocks; structs of two slices; bytes that an append made.
-/
import Derived.Test.YtifnnckbcjafgabGreatDoorUFn
namespace Go.Proofs.YtifnnckbcjafgabGreatDoor
set_option linter.unusedSimpArgs false
set_option linter.unusedVariables false
open Go.RowKit
/-- A function returns a value with one block in new memory, of which Q holds. -/
def RetsX (T : TypeId) (u : Nat → Nat → Value) (Q : Nat → Array Value → Prop) (f : FuncId) (args : Array Value) (w : World) : Prop :=
  Calls Tryz.prog f args w fun e w' => ∃ g cap cs, e = .returned (u g cap) ∧ Q cap cs ∧ w.heap.size ≤ g ∧ Blk w' g T cs ∧ Below w.heap.size w w'
section
variable {ops : Array Oper} {late : List Nat} {R : Act → World → Prop} {v : World} {L L0 : List (Nat × TypeId × Array Value)} {n : Nat} {sl : List (Nat × Value)}
theorem L_freshX {i d : Nat} {l : List Nat} {f : FuncId} {args : Array Operand} {ats : Array TypeId} {ty : TypeId} {pos : String} {after : Array Edge} {gd : Option (Nat × Bool)} {vl : List Value} (T : TypeId) (u : Nat → Nat → Value) (Q : Nat → Array Value → Prop)
    (hi : ops[i]? = some ⟨some d, .call { callee := .value (.func f), args := args, argTypes := ats }, ty, pos, after, gd⟩) (hl : inFr n sl = true) (hw : Want ops n sl gd) (hf : (Tryz.prog.funcs[f]?).map (fun fn => (fn.name == "runtime.NumGoroutine", fn.body.isNone)) = some (false, false))
    (ha : args.toList.map (rho sl) = vl) (hc : ∀ w, Hbl v L w → RetsX T u Q f vl.toArray w)
    (h : ∀ g cap cs, Q cap cs → wpL Tryz.prog ops R l (fr n ((d, u g cap) :: sl)) (Hbl v ((g, T, cs) :: L))) : wpL Tryz.prog ops R (i :: l) (fr n sl) (Hbl v L) := fun w hS =>
  wpOp_call hi hl (hw ..) hf ha (hc w hS) fun e w' ⟨g, cap, cs, he, hq, hg, hb, hbel⟩ => ⟨_, he, Hbl v ((g, T, cs) :: L), Hbl.stays v _, hS.fresh hbel hg hb, h g cap cs hq⟩
end
section
variable {S : World → Prop} {l : List (Nat × Value)} {dst : Option Nat} {x y : Operand} {ty : TypeId} {pos : String} {after : Array Edge} {gd : Option (Nat × Bool)}
end
section
variable {P : Program} {fn : Func} {E : Ending → World → Prop} {n : Nat} {sl : List (Nat × Value)} {w : World}
theorem ret_cell_cell {s s' g g' : Nat} {ty ty' t t' : TypeId} {cs cs' : Array Value} {d d' : TypeDesc} (hres : fn.results = #[.cell s ty, .cell s' ty']) (hl : inFr n sl = true) (hs : look sl s = .pointer (some ⟨g, 0, none⟩)) (hs' : look sl s' = .pointer (some ⟨g', 0, none⟩)) (hB : Blk w g t cs) (hB' : Blk w g' t' cs')
    (hu : P.underlying ty = some d) (hd : (match d with | .struct _ | .array _ _ => true | _ => false) = true) (hi : (P.info? ty).map (·.size) = some cs.size)
    (hu' : P.underlying ty' = some d') (hd' : (match d' with | .struct _ | .array _ _ => true | _ => false) = true) (hi' : (P.info? ty').map (·.size) = some cs'.size) (hE : E (.returned (.tuple #[.agg cs, .agg cs'])) w) : bodyPost P fn E .ret (fr n sl) w := by
  refine bodyPost_ret (v := .tuple #[.agg cs, .agg cs']) ?_ (fr_defers n sl) hE
  have h := run_load_cells (P := P) hB hu hd hi
  have h' := run_load_cells (P := P) hB' hu' hd' hi'
  simp [results, hres, fr_at n sl hl, hs, hs', asAddr, h, h']
end
/-- A block's first m cells are bytes. -/
structure BB (cs : Array Value) (cap m : Nat) (l : List Int) : Prop where
  size : cs.size = cap
  le : m ≤ cap
  cap : cap ≤ 9223372036854775807
  len : l.length = m
  bytes : cs.toList.take m = l.map (Value.int .u8)
theorem BB.reads {w : World} {g cap m : Nat} {e : TypeId} {cs : Array Value} {l : List Int} (h : BB cs cap m l) (hB : Blk w g e cs) : Reads w w.heap.size (some ⟨g, 0, none⟩) m (l.map (Value.int .u8)) := by
  have := hB.reads hB.lt 0 m (by rw [h.size, Nat.zero_add]; exact h.le)
  rwa [List.drop_zero, h.bytes] at this
theorem u8_all : (Tryz.prog.info? 5).map (fun i => (i.zero, i.size, i.bytes)) = some (some (.int .u8 0), 1, 1) := by kernel_rfl
end Go.Proofs.YtifnnckbcjafgabGreatDoor
