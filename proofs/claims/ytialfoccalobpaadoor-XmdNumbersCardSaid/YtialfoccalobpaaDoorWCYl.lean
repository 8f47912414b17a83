/-
  A loop over a function's values, in the walks' logic: the body's regions, a call of the round.
-/
import Derived.Test.YtialfoccalobpaaDoorWCA3
import Derived.Test.YtialfoccalobpaaDoorWCR3Z
import Derived.RangeFuncKeeps
import Derived.RangeFuncLeaves
import Derived.RangeFuncFrom
import Derived.RangeFuncCalls
import Derived.OrdersIn
namespace Go.Proofs.YtialfoccalobpaaDoor
set_option linter.unusedSimpArgs false
set_option linter.unusedVariables false
open Go.RowKit
/-- The widest fence, in a round or not. -/
def wideAt (ro : Option Nat) : Fence := { Fence.wide with round := ro }
section
variable {P : Program} {ops : Array Oper} {R : Act → World → Prop} {Q : Exit → Act → World → Prop} {ro : Option Nat} {m : Nat}
theorem callsIn_at {f : FuncId} {args : Array Value} {w : World} {T : Ending → World → Prop} (h : Calls P f args w T) : CallsIn (wideAt ro) m P f args w T := callsIn_wide.2 h
theorem rowsIn_at {row : String} {args : Array Value} {w : World} {T : Value → World → Prop} (h : Rows P row args w T) : RowsIn (wideAt ro) m P row args w T := fun c cs _ => by
  obtain ⟨v, w', r, s⟩ := h c cs
  exact ⟨v, w', r, stepsIn_wide.2 s⟩
theorem operIn_of {o : Oper} {a : Act} {w : World} {K K' : Act → World → Prop} (hd : ∀ c, o.op ≠ .defer c) (h : o.wp P a w K (Nrm R)) (hK : ∀ a w, K a w → K' a w) : o.wpIn (wideAt ro) m P a w K' Q := by
  refine ⟨fun _ _ => trivial, ?_⟩
  unfold Oper.wp at h
  rw [Oper.semAt_eq _ _ _ hd]
  generalize (execOp a.eval o).run P w = r at h ⊢
  cases r with
  | ok x w' =>
    cases x <;> simp only [Oper.upon, Oper.uponIn] at h ⊢ <;> first
      | exact hK _ _ h
      | exact ⟨(fun e => by cases e), callsIn_at (h.mono fun e w'' he => by cases e <;> first | exact hK _ _ he | exact he.elim | simp [LetsOut, Nrm] at he)⟩
      | exact ⟨(fun e => by cases e), rowsIn_at (h.mono fun v w'' he => hK _ _ he)⟩
  | halt x w' => cases x <;> simp only [Oper.upon, Oper.uponIn] at h ⊢ <;> exact h.elim
/-- No operation of a region is put off. -/
def noDefer (ops : Array Oper) : Bool := ops.all fun o => match o.op with | .defer _ => false | _ => true
theorem noDefer_at {i : Nat} {o : Oper} (hn : noDefer ops = true) (ho : ops[i]? = some o) (c : Call) : o.op ≠ .defer c := fun e => by
  unfold noDefer at hn
  rw [Array.all_eq_true_iff_forall_mem] at hn
  have := hn o (Array.mem_of_getElem? ho)
  rw [e] at this
  cases this
theorem opIn_of {i : Nat} {a : Act} {w : World} {K K' : Act → World → Prop} (hn : noDefer ops = true) (h : wpOp P ops (Nrm R) i K a w) (hK : ∀ a w, K a w → K' a w) : wpOpIn (wideAt ro) m P ops Q i K' a w := by
  unfold wpOp at h
  unfold wpOpIn
  cases ho : ops[i]? with
  | none => simp only [ho] at h ⊢; exact hK _ _ h
  | some o =>
    simp only [ho] at h ⊢
    split at h
    · rename_i hw
      rw [if_pos hw]
      rcases h with h | ⟨_, h⟩
      · exact operIn_of (fun c => noDefer_at hn ho c) h hK
      · simp [LetsOut, Nrm] at h
    · rename_i hw
      rw [if_neg hw]
      exact ⟨fun _ _ => trivial, hK _ _ h⟩
theorem opsIn_mid (hn : noDefer ops = true) (l2 : List Nat) (hR : ∀ a w, R a w → wpOpsIn (wideAt ro) m P ops Q l2 a w) : ∀ (l1 : List Nat) (a : Act) (w : World), wpOps P ops (Nrm R) l1 a w → wpOpsIn (wideAt ro) m P ops Q (l1 ++ l2) a w
  | [], a, w, h => hR a w h
  | i :: l1, a, w, h => by
    rw [wpOps_cons] at h
    rw [List.cons_append, wpOpsIn_cons]
    exact opIn_of hn h fun a w h => opsIn_mid hn l2 hR l1 a w h
theorem opsIn_of (hn : noDefer ops = true) (hR : ∀ a w, R a w → Q .normal a w) (l : List Nat) (a : Act) (w : World) (h : wpOps P ops (Nrm R) l a w) : wpOpsIn (wideAt ro) m P ops Q l a w := by
  have := opsIn_mid (ro := ro) (m := m) (Q := Q) hn [] (fun a w h => hR a w h) l a w h
  rwa [List.append_nil] at this
/-- A region that draws, in a round. -/
theorem region_flow_in {id : Nat} {a : Act} {w : World} {late : List Nat} {S0 : World → Prop} (hn : noDefer ops = true) (hm : P.follows .mixedOrders = true) (S : World → Prop) (hS : S w.drew)
    (h : wpF P .any ops late R S0 ops.size (Array.replicate ops.size false) a S) (hR : ∀ a' w', R a' w' → Q .normal a' w') : (Code.region id ops true).wpIn (wideAt ro) m P Q a w :=
  wpIn_region_draw fun t => by
    simp only [Region.schedule, hm, Bool.true_or, if_true]
    exact opsIn_of hn hR _ _ _ (wpAny_sound ops.size t _ a _ (wpAny_of_flow _ _ _ S _ hS h))
/-- A region in the text's order, with one operation that is another matter. -/
theorem seq_yield {id : Nat} {y : Code} {a : Act} {w : World} (hn : noDefer ops = true) (l1 : List Nat) (i : Nat) (l2 : List Nat) (hl : List.range ops.size = l1 ++ i :: l2) (S : World → Prop) (hS : S w)
    (h : wpL P ops (fun a' w' => wpOpIn (wideAt none) m P ops (Exit.then (y.wp P Q) Q) i (wpOps P ops (Nrm (y.wp P Q)) l2) a' w') l1 a S) : (Code.seq (.region id ops false) y).wp P Q a w := by
  refine wp_seq ?_
  refine wpIn_wide.1 (?_ : (Code.region id ops false).wpIn Fence.wide m P _ a w)
  refine wpIn_region ?_
  rw [hl]
  refine opsIn_mid (ro := none) hn (i :: l2) ?_ l1 a w (wpOps_of_flow l1 a S w hS h)
  intro a' w' h'
  rw [wpOpsIn_cons]
  exact wpOpIn_mono (fun a w h => opsIn_of (ro := none) hn (fun a w h => h) l2 a w h) h'
variable {n : Nat} {sl : List (Nat × Value)}
/-- The call of a round. -/
theorem op_yield {i d l0 : Nat} {x y : Operand} {ats : Array TypeId} {ty : TypeId} {pos : String} {after : Array Edge} {u : Value} {w : World} {K : Act → World → Prop} {A B : World → Prop}
    (hi : ops[i]? = some ⟨some d, .call { callee := .value x, args := #[y], argTypes := ats }, ty, pos, after, none⟩) (hl : inFr n sl = true) (hx : rho sl x = .func (.yield l0) #[] #[]) (hy : rho sl y = u)
    (hY : YieldAt (wideAt none) m P l0 #[u] w fun e w' => (e = .returned (.bool true) ∧ A w') ∨ (e = .returned (.bool false) ∧ B w'))
    (h2 : ∀ w', B w' → K (fr n ((d, .bool false) :: sl)) w') (h1 : ∀ w', A w' → K (fr n ((d, .bool true) :: sl)) w') : wpOpIn (wideAt none) (m + 1) P ops Q i K (fr n sl) w := by
  obtain ⟨fn, tmps, assign, body, hrun, hR⟩ := hY
  unfold wpOpIn
  simp only [hi]
  rw [if_pos (Want.none (ops := ops) (n := n) (sl := sl) _ _ _ _ _)]
  refine ⟨fun _ _ => trivial, ?_⟩
  have hr : (Oper.semAt (wideAt none).round (fr n sl).eval ⟨some d, .call { callee := .value x, args := #[y], argTypes := ats }, ty, pos, after, none⟩).run P w = .ok (.round l0 fn tmps assign body) w := by
    rw [show (wideAt none).round = none from rfl, Oper.semAt_none, fr_eval n sl hl]
    simp [execOp, resolve, hx, hy, Deferred.ofValue, invoke, hrun]
  rw [hr]
  refine ⟨(fun e => by cases e), hR.mono fun e w' he => ?_⟩
  rcases he with ⟨rfl, ha⟩ | ⟨rfl, hb⟩
  · exact h1 w' ha
  · exact h2 w' hb
end
theorem below_grown {w w' : World} (h : Below w.heap.size w w') (row : Option Nat) : w.grownBy w' row := ⟨h.os, h.tape, h.output, h.size, fun k hk _ => h.block k hk⟩
end Go.Proofs.YtialfoccalobpaaDoor
