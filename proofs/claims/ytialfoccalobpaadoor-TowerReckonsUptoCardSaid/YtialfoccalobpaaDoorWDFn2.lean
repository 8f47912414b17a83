/-
  Calls that make one or two known blocks; structs of two slices; bytes that an append made.
-/
import Derived.Test.YtialfoccalobpaaDoorWDFn
namespace Go.Proofs.YtialfoccalobpaaDoor
set_option linter.unusedSimpArgs false
set_option linter.unusedVariables false
open Go.RowKit
/-- A function returns a value with one block in new memory, of which Q holds. -/
def RetsX (T : TypeId) (u : Nat → Nat → Value) (Q : Nat → Array Value → Prop) (f : FuncId) (args : Array Value) (w : World) : Prop :=
  Calls Tryd.prog f args w fun e w' => ∃ g cap cs, e = .returned (u g cap) ∧ Q cap cs ∧ w.heap.size ≤ g ∧ Blk w' g T cs ∧ Below w.heap.size w w'
/-- The same with two blocks. -/
def RetsY (T T2 : TypeId) (u : Nat → Nat → Nat → Nat → Value) (Q : Nat → Array Value → Nat → Array Value → Prop) (f : FuncId) (args : Array Value) (w : World) : Prop :=
  Calls Tryd.prog f args w fun e w' => ∃ g cap cs g2 cap2 cs2, e = .returned (u g cap g2 cap2) ∧ Q cap cs cap2 cs2 ∧ Hbl w [(g, T, cs), (g2, T2, cs2)] w'
theorem Hbl.pick2 {v w : World} {L : List (Nat × TypeId × Array Value)} (h : Hbl v L w) (k k2 : Nat) {g g2 : Nat} {t t2 : TypeId} {cs cs2 : Array Value} (hk : L[k]? = some (g, t, cs)) (hk2 : L[k2]? = some (g2, t2, cs2)) (hn : Nat.beq k k2 = false) :
    Hbl v [(g, t, cs), (g2, t2, cs2)] w := by
  have m1 := List.mem_of_getElem? hk
  have m2 := List.mem_of_getElem? hk2
  refine ⟨h.1, fun q hq => ?_, ?_⟩
  · simp only [List.mem_cons, List.not_mem_nil, or_false] at hq
    rcases hq with rfl | rfl
    · exact h.2.1 _ m1
    · exact h.2.1 _ m2
  · simp only [List.map_cons, List.map_nil, List.nodup_cons, List.mem_cons, List.not_mem_nil, or_false, not_false_eq_true, List.nodup_nil, and_true]
    intro e
    have e1 : (L.map (·.1))[k]? = (L.map (·.1))[k2]? := by rw [List.getElem?_map, List.getElem?_map, hk, hk2]; simp [e]
    have hl : k < (L.map (·.1)).length := by
      rw [List.length_map]
      exact (List.getElem?_eq_some_iff.1 hk).1
    have := (List.getElem?_inj hl h.2.2).1 e1
    subst this
    simp at hn
section
variable {ops : Array Oper} {late : List Nat} {R : Act → World → Prop} {v : World} {L L0 : List (Nat × TypeId × Array Value)} {n : Nat} {sl : List (Nat × Value)}
theorem L_freshX {i d : Nat} {l : List Nat} {f : FuncId} {args : Array Operand} {ats : Array TypeId} {ty : TypeId} {pos : String} {after : Array Edge} {gd : Option (Nat × Bool)} {vl : List Value} (T : TypeId) (u : Nat → Nat → Value) (Q : Nat → Array Value → Prop)
    (hi : ops[i]? = some ⟨some d, .call { callee := .value (.func f), args := args, argTypes := ats }, ty, pos, after, gd⟩) (hl : inFr n sl = true) (hw : Want ops n sl gd) (hf : (Tryd.prog.funcs[f]?).map (fun fn => (fn.name == "runtime.NumGoroutine", fn.body.isNone)) = some (false, false))
    (ha : args.toList.map (rho sl) = vl) (hc : ∀ w, Hbl v L w → RetsX T u Q f vl.toArray w)
    (h : ∀ g cap cs, Q cap cs → wpL Tryd.prog ops R l (fr n ((d, u g cap) :: sl)) (Hbl v ((g, T, cs) :: L))) : wpL Tryd.prog ops R (i :: l) (fr n sl) (Hbl v L) := fun w hS =>
  wpOp_call hi hl (hw ..) hf ha (hc w hS) fun e w' ⟨g, cap, cs, he, hq, hg, hb, hbel⟩ => ⟨_, he, Hbl v ((g, T, cs) :: L), Hbl.stays v _, hS.fresh hbel hg hb, h g cap cs hq⟩
theorem L_freshY {i d : Nat} {l : List Nat} {f : FuncId} {args : Array Operand} {ats : Array TypeId} {ty : TypeId} {pos : String} {after : Array Edge} {gd : Option (Nat × Bool)} {vl : List Value} (T T2 : TypeId) (u : Nat → Nat → Nat → Nat → Value) (Q : Nat → Array Value → Nat → Array Value → Prop)
    (hi : ops[i]? = some ⟨some d, .call { callee := .value (.func f), args := args, argTypes := ats }, ty, pos, after, gd⟩) (hl : inFr n sl = true) (hw : Want ops n sl gd) (hf : (Tryd.prog.funcs[f]?).map (fun fn => (fn.name == "runtime.NumGoroutine", fn.body.isNone)) = some (false, false))
    (ha : args.toList.map (rho sl) = vl) (hc : ∀ w, Hbl v L w → RetsY T T2 u Q f vl.toArray w)
    (h : ∀ g cap cs g2 cap2 cs2, Q cap cs cap2 cs2 → wpL Tryd.prog ops R l (fr n ((d, u g cap g2 cap2) :: sl)) (Hbl v ((g, T, cs) :: (g2, T2, cs2) :: L))) : wpL Tryd.prog ops R (i :: l) (fr n sl) (Hbl v L) := fun w hS =>
  wpOp_call hi hl (hw ..) hf ha (hc w hS) fun e w' ⟨g, cap, cs, g2, cap2, cs2, he, hq, hb⟩ => ⟨_, he, Hbl v ((g, T, cs) :: (g2, T2, cs2) :: L), Hbl.stays v _, hS.join hb, h g cap cs g2 cap2 cs2 hq⟩
theorem F_freshX {i d fuel : Nat} {listed : Array Bool} {f : FuncId} {args : Array Operand} {ats : Array TypeId} {ty : TypeId} {pos : String} {after : Array Edge} {gd : Option (Nat × Bool)} {vl : List Value} (T : TypeId) (u : Nat → Nat → Value) (Q : Nat → Array Value → Prop)
    (hi : ops[i]? = some ⟨some d, .call { callee := .value (.func f), args := args, argTypes := ats }, ty, pos, after, gd⟩) (hl : inFr n sl = true) (hw : Want ops n sl gd) (hf : (Tryd.prog.funcs[f]?).map (fun fn => (fn.name == "runtime.NumGoroutine", fn.body.isNone)) = some (false, false))
    (ha : args.toList.map (rho sl) = vl) (hs : L0.Sublist L) (hc : ∀ w, Hbl v L w → RetsX T u Q f vl.toArray w)
    (h : ∀ g cap cs, Q cap cs → wpF Tryd.prog .any ops late R (Hbl v L0) fuel (listed.setIfInBounds i true) (fr n ((d, u g cap) :: sl)) (Hbl v ((g, T, cs) :: L))) :
    ∀ w, Hbl v L w → wpOp Tryd.prog ops (Nrm R) i (fun a' w' => ∃ S', (i ∈ late ∨ Ext (Hbl v L0) S') ∧ S' w' ∧ wpF Tryd.prog .any ops late R (Hbl v L0) fuel (listed.setIfInBounds i true) a' S') (fr n sl) w := fun w hS =>
  wpOp_call hi hl (hw ..) hf ha (hc w hS) fun e w' ⟨g, cap, cs, he, hq, hg, hb, hbel⟩ => ⟨_, he, _, .inr (Ext.of_sub (.cons _ hs)), hS.fresh hbel hg hb, h g cap cs hq⟩
end
section
variable {S : World → Prop} {l : List (Nat × Value)} {dst : Option Nat} {x y : Operand} {ty : TypeId} {pos : String} {after : Array Edge} {gd : Option (Nat × Bool)}
end
section
variable {P : Program} {fn : Func} {E : Ending → World → Prop} {n : Nat} {sl : List (Nat × Value)} {w : World}
theorem ret_cell_cell {s s' g g' : Nat} {ty ty' t t' : TypeId} {cs cs' : Array Value} {d d' : TypeDesc} (hres : fn.results = #[.cell s ty, .cell s' ty']) (hl : inFr n sl = true) (hs : look sl s = .pointer (some ⟨g, 0, none⟩)) (hs' : look sl s' = .pointer (some ⟨g', 0, none⟩)) (hB : Blk w g t cs) (hB' : Blk w g' t' cs')
    (hu : P.underlying ty = some d) (hd : (match d with | .struct _ | .array _ _ => true | _ => false) = true) (hi : (P.info? ty).map (·.size) = some cs.size)
    (hu' : P.underlying ty' = some d') (hd' : (match d' with | .struct _ | .array _ _ => true | _ => false) = true) (hi' : (P.info? ty').map (·.size) = some cs'.size) (hE : E (.returned (.tuple #[.agg cs, .agg cs'])) w) : bodyPost P fn E .ret (fr n sl) w := by
  refine bodyPost_ret (v := .tuple #[.agg cs, .agg cs']) ?_ (fr_defers n sl) hE
  have h := run_load_cells (P := P) hB hu hd hi
  have h' := run_load_cells (P := P) hB' hu' hd' hi'
  simp [results, hres, fr_at n sl hl, hs, hs', asAddr, h, h']
end
/-- A block's first m cells are bytes. -/
structure BB (cs : Array Value) (cap m : Nat) (l : List Int) : Prop where
  size : cs.size = cap
  le : m ≤ cap
  cap : cap ≤ 9223372036854775807
  len : l.length = m
  bytes : cs.toList.take m = l.map (Value.int .u8)
theorem BB.reads {w : World} {g cap m : Nat} {e : TypeId} {cs : Array Value} {l : List Int} (h : BB cs cap m l) (hB : Blk w g e cs) : Reads w w.heap.size (some ⟨g, 0, none⟩) m (l.map (Value.int .u8)) := by
  have := hB.reads hB.lt 0 m (by rw [h.size, Nat.zero_add]; exact h.le)
  rwa [List.drop_zero, h.bytes] at this
theorem ag8_take (l : List Int) (m : Nat) (h : l.length = m) : (ag8 l).toList.take m = l.map (Value.int .u8) := by
  subst h
  have e : (l.map (Value.int .u8)).length = l.length := by simp
  simp only [ag8]
  rw [← e, List.take_length]
theorem u8_all : (Tryd.prog.info? 5).map (fun i => (i.zero, i.size, i.bytes)) = some (some (.int .u8 0), 1, 1) := by kernel_rfl
theorem u8s_one (l : List Int) : ∀ u ∈ l.map (Value.int .u8), u.oneCell' = true := fun u hu => by
  obtain ⟨x, -, rfl⟩ := List.mem_map.1 hu
  rfl
end Go.Proofs.YtialfoccalobpaaDoor
