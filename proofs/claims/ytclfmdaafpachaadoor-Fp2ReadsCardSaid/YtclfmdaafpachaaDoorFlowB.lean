/-
  Flow, on: the frame as a list of slots, the function's own blocks as a list; each kind of operation.
-/
import Derived.Test.YtclfmdaafpachaaDoorFlow
namespace Go.Proofs.YtclfmdaafpachaaDoor
set_option linter.unusedSimpArgs false
set_option linter.unusedVariables false
open Go.RowKit

def look : List (Nat × Value) → Nat → Value
  | [], _ => undef
  | (d, v) :: l, t => bif Nat.beq d t then v else look l t
/-- A frame of n slots; the newest first. -/
def fr (n : Nat) : List (Nat × Value) → Act
  | [] => { tmps := Array.replicate n undef, defers := [] }
  | (d, v) :: l => (fr n l).put (some d) v
theorem fr_put (n d : Nat) (v : Value) (l : List (Nat × Value)) : (fr n l).put (some d) v = fr n ((d, v) :: l) := rfl
theorem fr_size (n : Nat) (l : List (Nat × Value)) : (fr n l).tmps.size = n := by
  induction l with
  | nil => simp [fr]
  | cons x l ih => obtain ⟨d, v⟩ := x; simp [fr, Act.put, ih]
theorem fr_defers (n : Nat) (l : List (Nat × Value)) : (fr n l).defers = [] := by
  induction l with
  | nil => rfl
  | cons x l ih => obtain ⟨d, v⟩ := x; simp [fr, Act.put, ih]
def inFr (n : Nat) : List (Nat × Value) → Bool
  | [] => true
  | (d, _) :: l => Nat.blt d n && inFr n l
theorem blt_iff {a b : Nat} : Nat.blt a b = true ↔ a < b := by simp [Nat.blt, Nat.ble_eq]; omega
theorem fr_at (n : Nat) (l : List (Nat × Value)) (h : inFr n l = true) (t : Nat) : (fr n l).tmps.getD t undef = look l t := by
  induction l with
  | nil =>
    simp only [fr, look]
    by_cases ht : t < n <;> simp [Array.getElem?_replicate, ht]
  | cons x l ih =>
    obtain ⟨d, v⟩ := x
    simp only [inFr, Bool.and_eq_true] at h
    have hd := blt_iff.1 h.1
    simp only [fr, Act.put, look]
    by_cases e : d = t
    · subst e
      have : Nat.beq d d = true := by simp
      rw [this]
      simp [fr_size, hd]
    · have : Nat.beq d t = false := by
        cases hb : Nat.beq d t with
        | false => rfl
        | true => exact absurd (Nat.eq_of_beq_eq_true hb) e
      rw [this]
      simp only [cond_false]
      rw [← ih h.2]
      simp [Array.getElem?_setIfInBounds_ne e]
/-- What an operand is. -/
def rho (l : List (Nat × Value)) : Operand → Value
  | .tmp t => look l t
  | .const v => v
  | .global g => .pointer (some ⟨g, 0, none⟩)
  | .func f => .func (.func f) #[] #[]
theorem fr_eval (n : Nat) (l : List (Nat × Value)) (h : inFr n l = true) : (fr n l).eval = rho l := by
  funext x
  cases x <;> first | exact fr_at n l h _ | rfl
theorem fr_comm (n : Nat) (l : List (Nat × Value)) {d e : Nat} (u v : Value) (h : d ≠ e) : fr n ((d, u) :: (e, v) :: l) = fr n ((e, v) :: (d, u) :: l) := by
  show ((fr n l).put (some e) v).put (some d) u = ((fr n l).put (some d) u).put (some e) v
  exact Act.put_comm _ _ _ (by rintro _ ⟨rfl⟩ he; cases he; exact h rfl)
theorem fr_cong (n : Nat) {l l' : List (Nat × Value)} (d : Nat) (v : Value) (h : fr n l = fr n l') : fr n ((d, v) :: l) = fr n ((d, v) :: l') := by
  show (fr n l).put _ _ = (fr n l').put _ _
  rw [h]
/-- The blocks of the function's own: nothing older has turned. -/
def Hbl (v : World) (L : List (Nat × TypeId × Array Value)) (w : World) : Prop :=
  Below v.heap.size v w ∧ (∀ x ∈ L, Blk w x.1 x.2.1 x.2.2 ∧ v.heap.size ≤ x.1) ∧ (L.map (·.1)).Nodup
section
variable {v : World} {L L' : List (Nat × TypeId × Array Value)} {w : World}
theorem Hbl.below (h : Hbl v L w) : Below v.heap.size v w := h.1
theorem Hbl.nil (v : World) : Hbl v [] v := ⟨Below.refl _ _, by simp, by simp⟩
theorem Hbl.stays (v : World) (L : List (Nat × TypeId × Array Value)) : Stays (Hbl v L) := fun w w' h hb =>
  ⟨h.1.trans (hb.mono h.1.size), fun x hx => ⟨(h.2.1 x hx).1.keep hb, (h.2.1 x hx).2⟩, h.2.2⟩
theorem Hbl.drew (h : Hbl v L w) : Hbl v L w.drew := ⟨h.1.drew, fun x hx => ⟨(h.2.1 x hx).1.drew, (h.2.1 x hx).2⟩, h.2.2⟩
theorem Hbl.blk (h : Hbl v L w) (k : Nat) {g : Nat} {t : TypeId} {cs : Array Value} (hk : L[k]? = some (g, t, cs)) : Blk w g t cs := (h.2.1 (g, t, cs) (List.mem_of_getElem? hk)).1
theorem Hbl.sub (h : Hbl v L w) (hs : L'.Sublist L) : Hbl v L' w := ⟨h.1, fun x hx => h.2.1 x (hs.subset hx), (hs.map _).nodup h.2.2⟩
theorem Hbl.perm (h : Hbl v L w) (hs : L.Perm L') : Hbl v L' w := ⟨h.1, fun x hx => h.2.1 x (hs.mem_iff.2 hx), (hs.map _).nodup_iff.1 h.2.2⟩
theorem Hbl.alloc (h : Hbl v L w) (t : TypeId) (cs : Array Value) : Hbl v ((w.heap.size, t, cs) :: L) (w.alloc (.cells cs t)) := by
  refine ⟨h.1.alloc h.1.size _, fun x hx => ?_, ?_⟩
  · rcases List.mem_cons.1 hx with rfl | hx
    · exact ⟨Blk.new _ _ _, h.1.size⟩
    · exact ⟨(h.2.1 x hx).1.alloc _, (h.2.1 x hx).2⟩
  · simp only [List.map_cons, List.nodup_cons]
    refine ⟨fun hm => ?_, h.2.2⟩
    obtain ⟨x, hx, he⟩ := List.mem_map.1 hm
    have := (h.2.1 x hx).1.lt
    omega
theorem Hbl.fresh (h : Hbl v L w) {w' : World} {g : Nat} {t : TypeId} {cs : Array Value} (hb : Below w.heap.size w w') (hg : w.heap.size ≤ g) (hB : Blk w' g t cs) : Hbl v ((g, t, cs) :: L) w' := by
  refine ⟨h.1.trans (hb.mono h.1.size), fun x hx => ?_, ?_⟩
  · rcases List.mem_cons.1 hx with rfl | hx
    · exact ⟨hB, by have := h.1.size; simp only; omega⟩
    · exact ⟨(h.2.1 x hx).1.keep hb, (h.2.1 x hx).2⟩
  · simp only [List.map_cons, List.nodup_cons]
    refine ⟨fun hm => ?_, h.2.2⟩
    obtain ⟨x, hx, he⟩ := List.mem_map.1 hm
    have := (h.2.1 x hx).1.lt
    omega
theorem Hbl.store (h : Hbl v L w) (k : Nat) {g : Nat} {t : TypeId} {old : Array Value} (hk : L[k]? = some (g, t, old)) (cs : Array Value) {w' : World}
    (hb : Blk w' g t cs) (ho : w.grownBy w' (some g)) : Hbl v (L.set k (g, t, cs)) w' := by
  have hkl : k < L.length := (List.getElem?_eq_some_iff.1 hk).1
  have hg := (h.2.1 (g, t, old) (List.mem_of_getElem? hk)).2
  have hkeys : (L.set k (g, t, cs)).map (·.1) = L.map (·.1) := by
    rw [List.map_set]
    apply List.ext_getElem?
    intro i
    rw [List.getElem?_set]
    split
    · rename_i e; subst e
      simp only [List.length_map, hkl, if_true, List.getElem?_map, hk, Option.map_some]
    · rfl
  refine ⟨h.1.grown ho h.1.size (fun i hi => by cases hi; exact hg), fun x hx => ?_, by rw [hkeys]; exact h.2.2⟩
  rcases List.getElem?_of_mem hx with ⟨i, hi⟩
  rw [List.getElem?_set] at hi
  split at hi
  · simp only [hkl, if_true, Option.some.injEq] at hi
    subst hi
    exact ⟨hb, hg⟩
  · rename_i hne
    have hm := h.2.1 x (List.mem_of_getElem? hi)
    refine ⟨hm.1.grown ho ?_, hm.2⟩
    rintro e
    cases e
    have hil : i < L.length := (List.getElem?_eq_some_iff.1 hi).1
    have h1 : (L.map (·.1))[k]? = (L.map (·.1))[i]? := by rw [List.getElem?_map, List.getElem?_map, hk, hi]; rfl
    exact hne ((List.getElem?_inj (by simpa using hkl) h.2.2).1 h1)
theorem Ext.of_sub {L0 : List (Nat × TypeId × Array Value)} (hs : L0.Sublist L) : Ext (Hbl v L0) (Hbl v L) := ⟨fun _ h => h.sub hs, Hbl.stays v L⟩
theorem Ext.of_in {L0 : List (Nat × TypeId × Array Value)} (hs : ∀ x ∈ L0, x ∈ L) (hn : (L0.map (·.1)).Nodup) : Ext (Hbl v L0) (Hbl v L) :=
  ⟨fun _ h => ⟨h.1, fun x hx => h.2.1 x (hs x hx), hn⟩, Hbl.stays v L⟩
end
/-- sub stands in cs from o on. -/
def Sl (cs : Array Value) (o : Nat) (sub : Array Value) : Prop := ∀ (j : Nat) v, sub[j]? = some v → cs[o + j]? = some v
theorem Sl.refl (cs : Array Value) : Sl cs 0 cs := fun j v h => by rw [Nat.zero_add]; exact h
theorem Sl.left {cs a b : Array Value} {o : Nat} (h : Sl cs o (a ++ b)) : Sl cs o a := fun j v hv => h j v (by
  rw [Array.getElem?_append_left (Array.getElem?_eq_some_iff.1 hv).1]; exact hv)
theorem Sl.right {cs a b : Array Value} {o : Nat} (h : Sl cs o (a ++ b)) (n : Nat) (hn : a.size = n) (m : Nat) (hm : o + n = m) : Sl cs m b := fun j v hv => by
  subst hm hn
  rw [Nat.add_assoc]
  refine h _ v ?_
  rw [Array.getElem?_append_right (by omega), Nat.add_sub_cancel_left]
  exact hv
section
variable {P : Program} {ops : Array Oper} {md : Region.Mode} {late : List Nat} {R : Act → World → Prop} {v : World} {L L0 : List (Nat × TypeId × Array Value)} {S : World → Prop}
theorem gives_value {S : World → Prop} {x : Sem Next} (u : Value) (h : ∀ w, x.run P w = .ok (.value u) w) : Gives P S u x := fun w _ => .inl ⟨w, h w, Below.refl _ _⟩
theorem gives_call {S : World → Prop} {l : List (Nat × Value)} {dst : Option Tmp} {f : FuncId} {args : Array Operand} {ats : Array TypeId} {ty : TypeId} {pos : String} {after : Array Edge} {g : Option (Nat × Bool)} {vl : List Value} {u : Value}
    (hf : (P.funcs[f]?).map (fun fn => (fn.name == "runtime.NumGoroutine", fn.body.isNone)) = some (false, false)) (ha : args.toList.map (rho l) = vl) (h : ∀ w, S w → Calls P f vl.toArray w fun e w' => e = .returned u ∧ Below w.heap.size w w') :
    Gives P S u (execOp (rho l) ⟨dst, .call { callee := .value (.func f), args := args, argTypes := ats }, ty, pos, after, g⟩) := fun w hS =>
  .inr ⟨f, vl.toArray, by
    have ha : args.map (rho l) = vl.toArray := by rw [← ha, ← Array.toList_map, Array.toArray_toList]
    obtain ⟨fn, h1, h2⟩ := Option.map_eq_some_iff.1 hf
    simp only [Prod.mk.injEq, beq_eq_false_iff_ne, ne_eq, Option.isNone_eq_false_iff] at h2
    have h3 : fn.body ≠ none := by intro e; simp [e] at h2
    simp [execOp, resolve, rho, Deferred.ofValue, invoke, ha, callFunc, h1, h2.1, h3], h w hS⟩
theorem gives_load {S : World → Prop} {l : List (Nat × Value)} {dst : Option Tmp} {x : Operand} {ty ty' : TypeId} {pos : String} {after : Array Edge} {gd : Option (Nat × Bool)}
    (g o : Nat) (t : TypeId) (cs sub : Array Value) (d : TypeDesc) (hx : rho l x = .pointer (some ⟨g, o, none⟩)) (hB : ∀ w, S w → Blk w g t cs) (hs : Sl cs o sub)
    (hu : P.underlying ty = some d) (hd : (match d with | .struct _ | .array _ _ => true | _ => false) = true) (hi : (P.info? ty).map (·.size) = some sub.size) :
    Gives P S (.agg sub) (execOp (rho l) ⟨dst, .load ty x, ty', pos, after, gd⟩) := fun w hS => by
  refine .inl ⟨w, ?_, Below.refl _ _⟩
  have hb := hB w hS
  have hl : (loadCells ⟨g, o, none⟩ sub.toList.length).run P w = .ok sub.toList.toArray w :=
    run_loadCells_list (P := P) w ⟨g, o, none⟩ sub.toList (fun j u hv => by
      rw [add_plain, hb.cell]
      exact hs j u (by simpa using hv))
  have hrun : (loadVar ty ⟨g, o, none⟩).run P w = .ok (.agg sub) w := by
    cases hq : P.info? ty with
    | none => simp [hq] at hi
    | some i =>
      have hsz : i.size = sub.size := by simpa [hq] using hi
      have hagg : (isAgg ty).run P w = .ok true w := by
        unfold isAgg
        rw [Sem.run_bind, run_underlying hu w]
        cases d <;> simp_all
      simp only [Array.length_toList, Array.toArray_toList] at hl
      simp [loadVar, Sem.run_bind, hagg, sizeOf, typeInfo, hq, hsz, hl]
  simp [execOp, hx, Instr.loadAt, Instr.sureAddr, hrun]
/-- Take number i first, from a frame. -/
theorem flow_take {n : Nat} {l : List (Nat × Value)} {i d : Nat} {op : Op} {ty : TypeId} {pos : String} {after : Array Edge} {fuel : Nat} {listed : Array Bool} (u : Value) (hi : ops[i]? = some ⟨some d, op, ty, pos, after, none⟩)
    (hs : Region.noSelect ops = true) (hf : Region.free md ops listed i = true) (hr : (Region.ready md ops listed).contains i = true) (hl : inFr n l = true) (hlt : lateOk md ops late i = true) (hE : L0.Sublist L)
    (hy : Gives P (Hbl v L0) u (execOp (rho l) ⟨some d, op, ty, pos, after, none⟩))
    (h : wpF P md ops late R (Hbl v L0) fuel (listed.setIfInBounds i true) (fr n ((d, u) :: l)) (Hbl v L)) : wpF P md ops late R (Hbl v L0) (fuel + 1) listed (fr n l) (Hbl v L) :=
  wpF_first hi (Region.noSelect_spec hs) fuel listed _ _ hlt (Ext.of_sub hE) (Region.free_spec hi hf) (by simpa using hr) (.inl ⟨rfl, by rw [fr_eval n l hl]; exact hy⟩) h
theorem flow_all {rs : List Nat} {fuel : Nat} {listed : Array Bool} {a : Act} {S0 : World → Prop} (hr : Region.ready md ops listed = rs) (hne : rs ≠ [])
    (h : ∀ i ∈ rs, ∀ w, S w → wpOp P ops (Nrm R) i (fun a' w' => ∃ S', (i ∈ late ∨ Ext S0 S') ∧ S' w' ∧ wpF P md ops late R S0 fuel (listed.setIfInBounds i true) a' S') a w) : wpF P md ops late R S0 (fuel + 1) listed a S :=
  ⟨fun h0 => absurd (hr ▸ h0) hne, hr ▸ h⟩
theorem flow_done {fuel : Nat} {listed : Array Bool} {a : Act} {S0 : World → Prop} (hr : Region.ready md ops listed = []) (h : ∀ w, S w → R a w) : wpF P md ops late R S0 fuel listed a S := by
  cases fuel with
  | zero => exact ⟨hr, h⟩
  | succ n => exact ⟨fun _ => h, fun i hi => by rw [hr] at hi; cases hi⟩
theorem wpOp_run {Q : Exit → Act → World → Prop} {i : Nat} {o : Oper} {a : Act} {w w' : World} {u : Value} {K : Act → World → Prop} (hi : ops[i]? = some o) (hg : o.guard = none)
    (hrun : (execOp a.eval o).run P w = .ok (.value u) w' ∨ (u = undef ∧ (execOp a.eval o).run P w = .ok .skip w')) (hK : K (a.put o.dst u) w') : Go.wpOp P ops Q i K a w := by
  unfold Go.wpOp
  simp only [hi]
  have hw : Region.wanted o (yielded ops a.tmps) = true := by simp [Region.wanted, hg]
  simp only [hw, if_true]
  refine .inl ?_
  unfold Oper.wp
  rcases hrun with hr | ⟨rfl, hr⟩ <;> rw [hr] <;> exact hK
theorem run_alloc_exec {l : List (Nat × Value)} {dst : Option Tmp} {t ty : TypeId} {pos : String} {after : Array Edge} {gd : Option (Nat × Bool)} (z : Value) (hz : (P.info? t).map (·.zero) = some (some z)) (w : World) :
    (execOp (rho l) ⟨dst, .alloc t, ty, pos, after, gd⟩).run P w = .ok (.value (.pointer (some ⟨w.heap.size, 0, none⟩))) (w.alloc (.cells z.cells t)) := by
  obtain ⟨i, hi, hzz⟩ := Option.map_eq_some_iff.1 hz
  simp [execOp, Instr.alloc, zeroValue, typeInfo, hi, hzz, newVar, newRow, newObj]
  rfl
theorem run_box_exec {l : List (Nat × Value)} {dst : Option Tmp} {t ty : TypeId} {x : Operand} {pos : String} {after : Array Edge} {gd : Option (Nat × Bool)} (u : Value) (hx : rho l x = u) (w : World) :
    (execOp (rho l) ⟨dst, .box t x, ty, pos, after, gd⟩).run P w = .ok (.value (.pointer (some ⟨w.heap.size, 0, none⟩))) (w.alloc (.cells u.cells t)) := by
  simp [execOp, Instr.box, hx, newVar, newRow, newObj]
  rfl
theorem run_store_exec {l : List (Nat × Value)} {dst : Option Tmp} {ty ty' : TypeId} {x y : Operand} {pos : String} {after : Array Edge} {gd : Option (Nat × Bool)} {w : World}
    (g : Nat) (t : TypeId) (old cs : Array Value) (hx : rho l x = .pointer (some ⟨g, 0, none⟩)) (hy : rho l y = .agg cs) (hb : Blk w g t old) (hi : (P.info? ty).map (·.size) = some cs.size) (ho : old.size = cs.size) (h1 : cs.all (·.oneCell') = true) :
    ∃ w', (execOp (rho l) ⟨dst, .store ty x y, ty', pos, after, gd⟩).run P w = .ok .skip w' ∧ Blk w' g t cs ∧ w.grownBy w' (some g) := by
  have h := run_storeVar_only (P := P) w g 0 t ty old cs hb hi (by omega) h1
  refine ⟨_, by simp [execOp, hx, hy, Instr.storeAt, Instr.sureAddr, h]; rfl, ?_, setRow_only _⟩
  have hs : (splice old.toList 0 cs.toList).toArray = cs := by rw [splice_all]; simp; simp [ho]
  rw [hs]
  exact setRow_heap w g _ _ t _ hb
end
end Go.Proofs.YtclfmdaafpachaaDoor
