/-
  Arrays of six: of elements, of structs of two slices; loops whose rounds are walked one by one.
-/
import Derived.Test.YtialfoccalobpaaDoorWDFn3
import Derived.LoopN
namespace Go.Proofs.YtialfoccalobpaaDoor
set_option linter.unusedSimpArgs false
set_option linter.unusedVariables false
open Go.RowKit
theorem joinC_size (s : Nat) : ∀ (ch : List (Array Value)), (∀ a ∈ ch, a.size = s) → (joinA ch).size = ch.length * s
  | [], _ => by simp [joinA]
  | a :: l, h => by
    rw [joinA_cons, Array.size_append, joinC_size s l (fun b hb => h b (List.mem_cons_of_mem _ hb)), h a (List.mem_cons_self ..), List.length_cons, Nat.succ_mul, Nat.add_comm]
theorem sl_joinC (s : Nat) : ∀ (ch : List (Array Value)) (hs : ∀ a ∈ ch, a.size = s) (i : Nat) (a : Array Value), ch[i]? = some a → ∀ o, i * s = o → Sl (joinA ch) o a
  | [], _, i, a, h, o, _ => by simp at h
  | b :: l, hs, 0, a, h, o, ho => by
    simp at h ho
    subst h ho
    rw [joinA_cons]
    exact Sl.left (Sl.refl _)
  | b :: l, hs, i + 1, a, h, o, ho => by
    have ih := sl_joinC s l (fun b hb => hs b (List.mem_cons_of_mem _ hb)) i a (by simpa using h) (i * s) rfl
    rw [joinA_cons]
    intro j v hv
    have := ih j v hv
    rw [Array.getElem?_append_right (by rw [hs b (List.mem_cons_self ..)]; rw [← ho, Nat.succ_mul]; omega), hs b (List.mem_cons_self ..), ← ho, Nat.succ_mul, show i * s + s + j - s = i * s + j by omega]
    exact this
theorem spliceC (s : Nat) : ∀ (ch : List (Array Value)) (hs : ∀ a ∈ ch, a.size = s) (i : Nat) (vs : Array Value), vs.size = s → i < ch.length → ∀ o, i * s = o → splice (joinA ch).toList o vs.toList = (joinA (ch.set i vs)).toList
  | [], _, i, vs, _, h, o, _ => by simp at h
  | b :: l, hs, 0, vs, hv, h, o, ho => by
    simp only [Nat.zero_mul] at ho
    subst ho
    have hb := hs b (List.mem_cons_self ..)
    rw [List.set_cons_zero, joinA_cons, joinA_cons]
    simp only [splice, List.take_zero, List.nil_append, Array.toList_append, Nat.zero_add]
    congr 1
    rw [List.drop_append_of_le_length (by simp [hv, hb]), List.drop_eq_nil_of_le (by simp [hv, hb]), List.nil_append]
  | b :: l, hs, i + 1, vs, hv, h, o, ho => by
    have hb := hs b (List.mem_cons_self ..)
    have ih := spliceC s l (fun b hb => hs b (List.mem_cons_of_mem _ hb)) i vs hv (by simpa using h) (i * s) rfl
    rw [List.set_cons_succ, joinA_cons, joinA_cons, Array.toList_append, Array.toList_append, ← ih]
    have e : o = b.toList.length + i * s := by rw [← ho, Nat.succ_mul, Array.length_toList, hb, Nat.add_comm]
    subst e
    simp only [splice]
    rw [List.take_append, List.take_of_length_le (Nat.le_add_right _ _), Nat.add_sub_cancel_left]
    simp only [List.append_assoc]
    congr 3
    rw [Nat.add_assoc, List.drop_append, List.drop_eq_nil_of_le (Nat.le_add_right _ _), List.nil_append, Nat.add_sub_cancel_left]
theorem spliceC' (s : Nat) (ch : List (Array Value)) (hs : ∀ a ∈ ch, a.size = s) (i : Nat) (vs : Array Value) (hv : vs.size = s) (hi : i < ch.length) (o : Nat) (ho : i * s = o) (ch' : List (Array Value)) (hc : ch.set i vs = ch') :
    (splice (joinA ch).toList o vs.toList).toArray = joinA ch' := by rw [spliceC s ch hs i vs hv hi o ho, hc, Array.toArray_toList]
theorem one_join : ∀ (ch : List (Array Value)), (∀ a ∈ ch, a.all (·.oneCell') = true) → (joinA ch).all (·.oneCell') = true
  | [], _ => by simp [joinA]
  | a :: l, h => by
    rw [joinA_cons, Array.all_append, h a (List.mem_cons_self ..), one_join l (fun b hb => h b (List.mem_cons_of_mem _ hb))]
    rfl
theorem sz_aa (s : Nat) (ch ch' : List (Array Value)) (hs : ∀ a ∈ ch, a.size = s) (hs' : ∀ a ∈ ch', a.size = s) (hl : ch.length = ch'.length) : (joinA ch).size = (joinA ch').size := by
  rw [joinC_size s ch hs, joinC_size s ch' hs', hl]
section
variable {P : Program} {ops : Array Oper} {late : List Nat} {R : Act → World → Prop} {v : World} {L L0 : List (Nat × TypeId × Array Value)} {n : Nat} {sl : List (Nat × Value)}
/-- A part of a block of one's own is written. -/
theorem L_storeA {i : Nat} {l : List Nat} {t ty ty' : TypeId} {x y : Operand} {pos : String} {after : Array Edge} (k g o : Nat) (old cs new : Array Value) (hi : ops[i]? = some ⟨none, .store ty x y, ty', pos, after, none⟩) (hl : inFr n sl = true)
    (hx : rho sl x = .pointer (some ⟨g, o, none⟩)) (hy : rho sl y = .agg cs) (hk : L[k]? = some (g, t, old)) (hz : (P.info? ty).map (·.size) = some cs.size) (ho : o + cs.size ≤ old.size) (h1 : cs.all (·.oneCell') = true) (hn : (splice old.toList o cs.toList).toArray = new)
    (h : wpL P ops R l (fr n sl) (Hbl v (L.set k (g, t, new)))) : wpL P ops R (i :: l) (fr n sl) (Hbl v L) := fun w hS => by
  have hB := hS.blk k hk
  have hr := run_storeVar_only (P := P) w g o t ty old cs hB hz ho h1
  rw [hn] at hr
  refine wpOp_run (w' := w.setRow g new) (u := undef) hi rfl (.inr (by rw [fr_eval n sl hl]; simp [execOp, hx, hy, Instr.storeAt, Instr.sureAddr, hr])) ⟨_, Hbl.stays v _, hS.store k hk _ (setRow_heap w g _ _ t _ hB) (setRow_only _), ?_⟩
  exact h
end
section
variable {P : Program} {S : World → Prop} {l : List (Nat × Value)} {dst : Option Tmp} {ty : TypeId} {pos : String} {after : Array Edge} {gd : Option (Nat × Bool)}
theorem gives_buildA {t e : TypeId} {parts : Array (Nat × Operand)} (m s : Nat) (z : Value) (hu : P.underlying t = some (.array m e)) (hz : (P.info? t).map (·.zero) = some (some z)) (hsz : (P.info? e).map (·.size) = some s)
    (ch : List (Array Value)) (hc : ∀ a ∈ ch, a.size = s) (hzc : z.cells = joinA ch) (ps : List (Nat × Array Value)) (hf : fits (List.replicate ch.length s) ps)
    (he : (parts.toList.map fun x => (x.1, rho l x.2)) = ps.map fun p => (p.1, Value.agg p.2)) (out : Array Value) (ho : joinA (putsA ch ps) = out) :
    Gives P S (.agg out) (execOp (rho l) ⟨dst, .build t parts, ty, pos, after, gd⟩) := gives_value _ fun w => by
  have hm : ch.map (·.size) = List.replicate ch.length s := List.eq_replicate_iff.2 ⟨by simp, fun b hb => by
    obtain ⟨a, ha, rfl⟩ := List.mem_map.1 hb
    exact hc a ha⟩
  have h := fill_puts (fun i => some (i * s, s)) (List.replicate ch.length s) (fun i hi => by
    simp only [List.take_replicate, List.sum_replicate_nat, List.getElem_replicate]
    rw [Nat.min_eq_left (by simpa using Nat.le_of_lt hi)]) ps ch hm hf
  have he : (parts.map fun (i, x) => (i, rho l x)).toList = ps.map fun p => (p.1, Value.agg p.2) := by rw [← he]; simp
  rw [← hzc, ← he, ho] at h
  obtain ⟨i, hi, hzz⟩ := Option.map_eq_some_iff.1 hz
  obtain ⟨ie, hie, hsz⟩ := Option.map_eq_some_iff.1 hsz
  have hzr : (zeroValue t).run P w = .ok z w := by simp [zeroValue, typeInfo, hi, hzz]
  have hrun : (Instr.build t (parts.map fun (i, x) => (i, rho l x))).run P w = .ok (.agg out) w := by
    unfold Instr.build
    rw [Sem.run_bind, hzr, Result.andThen_ok, Sem.run_bind, run_underlying hu, Result.andThen_ok]
    have hsr : (sizeOf e).run P w = .ok s w := by simp [sizeOf, typeInfo, hie, hsz]
    simp only [Sem.run_bind]
    rw [hsr, Result.andThen_ok, h]
    rfl
  simp only [execOp, Sem.run_bind, hrun, Result.andThen_ok, Sem.run_pure]
end
section
variable {P : Program} {c : Code} {Q : Exit → Act → World → Prop} {n : Nat} {a : Act} {w : World}
theorem rounds_first (n : Nat) (h : c.wp P (Exit.then (Code.rounds P c Q n) Q) a w) : (Code.loop c).wp P Q a w := wp_loop_rounds (n + 1) h
theorem rounds_next (h : c.wp P (Exit.then (Code.rounds P c Q n) Q) a w) : Exit.then (Code.rounds P c Q (n + 1)) Q .normal a w := h
end
end Go.Proofs.YtialfoccalobpaaDoor
