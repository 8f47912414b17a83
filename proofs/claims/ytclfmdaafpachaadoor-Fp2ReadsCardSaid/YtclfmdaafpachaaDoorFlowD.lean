/-
  Flow, on: the steps of a walk.
-/
import Derived.Test.YtclfmdaafpachaaDoorFlowC
namespace Go.Proofs.YtclfmdaafpachaaDoor
set_option linter.unusedSimpArgs false
set_option linter.unusedVariables false
open Go.RowKit
theorem ent_put (n : Nat) (args : List Value) (b : Value) (h : args.length < n) :
    ({ tmps := (args.toArray ++ Array.replicate (n - args.length) undef), defers := [] } : Act).put (some args.length) b = { tmps := ((args ++ [b]).toArray ++ Array.replicate (n - (args.length + 1)) undef), defers := [] } := by
  obtain ⟨m, hm⟩ : ∃ m, n = args.length + (m + 1) := ⟨n - args.length - 1, by omega⟩
  subst hm
  have e1 : args.length + (m + 1) - args.length = m + 1 := by omega
  have e2 : args.length + (m + 1) - (args.length + 1) = m := by omega
  simp only [Act.put, e1, e2]
  congr 1
  have e3 : ∀ k, Array.replicate k undef = (List.replicate k undef).toArray := fun k => by simp
  rw [e3, e3, List.append_toArray, List.append_toArray, List.setIfInBounds_toArray]
  congr 1
  rw [List.set_append_right _ _ (Nat.le_refl _), Nat.sub_self, List.replicate_succ, List.set_cons_zero]
  simp
theorem ent_nil (n : Nat) : ({ tmps := ([] : List Value).toArray ++ Array.replicate (n - 0) undef, defers := [] } : Act) = fr n [] := by simp [fr]
section
variable {P : Program} {f : FuncId} {fn : Func} {c : Code} {w : World} {R : Ending → World → Prop} {n : Nat}
theorem calls_fr0 (hf : P.funcs[f]? = some fn) (hb : fn.body = some c) (hn : fn.ntmps = n) (h : c.wp P (bodyPost P fn R) (fr n []) w) : Calls P f #[] w R := by
  refine calls_of_wp hf hb ?_
  rw [hn]
  have := ent_nil n
  simp only [List.size_toArray, List.length_nil] at this ⊢
  rw [this]; exact h
theorem calls_fr1 (hf : P.funcs[f]? = some fn) (hb : fn.body = some c) (hn : fn.ntmps = n) (h1 : Nat.ble 1 n = true) {a : Value} (h : c.wp P (bodyPost P fn R) (fr n [(0, a)]) w) : Calls P f #[a] w R := by
  have hle := Nat.le_of_ble_eq_true h1
  refine calls_of_wp hf hb ?_
  rw [hn]
  have e := ent_put n [] a (by simp; omega)
  rw [List.length_nil, ent_nil] at e
  have e2 : fr n [(0, a)] = { tmps := #[a] ++ Array.replicate (n - (#[a] : Array Value).size) undef, defers := [] } := e
  rw [← e2]; exact h
theorem calls_fr2 (hf : P.funcs[f]? = some fn) (hb : fn.body = some c) (hn : fn.ntmps = n) (h1 : Nat.ble 2 n = true) {a b : Value} (h : c.wp P (bodyPost P fn R) (fr n [(1, b), (0, a)]) w) : Calls P f #[a, b] w R := by
  have hle := Nat.le_of_ble_eq_true h1
  refine calls_of_wp hf hb ?_
  rw [hn]
  have e := ent_put n [] a (by simp; omega)
  rw [List.length_nil, ent_nil] at e
  have e2 := ent_put n [a] b (by simp; omega)
  have e3 : fr n [(1, b), (0, a)] = { tmps := #[a, b] ++ Array.replicate (n - (#[a, b] : Array Value).size) undef, defers := [] } := by
    show (fr n [(0, a)]).put (some 1) b = _
    rw [show fr n [(0, a)] = (fr n []).put (some 0) a from rfl, e]
    exact e2
  rw [← e3]; exact h
theorem calls_fr3 (hf : P.funcs[f]? = some fn) (hb : fn.body = some c) (hn : fn.ntmps = n) (h1 : Nat.ble 3 n = true) {a b d : Value} (h : c.wp P (bodyPost P fn R) (fr n [(2, d), (1, b), (0, a)]) w) : Calls P f #[a, b, d] w R := by
  have hle := Nat.le_of_ble_eq_true h1
  refine calls_of_wp hf hb ?_
  rw [hn]
  have e := ent_put n [] a (by simp; omega)
  rw [List.length_nil, ent_nil] at e
  have e2 := ent_put n [a] b (by simp; omega)
  have e3 := ent_put n [a, b] d (by simp; omega)
  have e4 : fr n [(2, d), (1, b), (0, a)] = { tmps := #[a, b, d] ++ Array.replicate (n - (#[a, b, d] : Array Value).size) undef, defers := [] } := by
    show ((fr n [(0, a)]).put (some 1) b).put (some 2) d = _
    rw [show fr n [(0, a)] = (fr n []).put (some 0) a from rfl, e]
    refine (congrArg (fun x : Act => x.put (some 2) d) e2).trans e3
  rw [← e4]; exact h
theorem calls_fr4 (hf : P.funcs[f]? = some fn) (hb : fn.body = some c) (hn : fn.ntmps = n) (h1 : Nat.ble 4 n = true) {a b d e' : Value} (h : c.wp P (bodyPost P fn R) (fr n [(3, e'), (2, d), (1, b), (0, a)]) w) : Calls P f #[a, b, d, e'] w R := by
  have hle := Nat.le_of_ble_eq_true h1
  refine calls_of_wp hf hb ?_
  rw [hn]
  have e := ent_put n [] a (by simp; omega)
  rw [List.length_nil, ent_nil] at e
  have e2 := ent_put n [a] b (by simp; omega)
  have e3 := ent_put n [a, b] d (by simp; omega)
  have e4 := ent_put n [a, b, d] e' (by simp; omega)
  have e5 : fr n [(3, e'), (2, d), (1, b), (0, a)] = { tmps := #[a, b, d, e'] ++ Array.replicate (n - (#[a, b, d, e'] : Array Value).size) undef, defers := [] } := by
    show (((fr n [(0, a)]).put (some 1) b).put (some 2) d).put (some 3) e' = _
    rw [show fr n [(0, a)] = (fr n []).put (some 0) a from rfl, e]
    refine (congrArg (fun x : Act => (x.put (some 2) d).put (some 3) e') e2).trans ((congrArg (fun x : Act => x.put (some 3) e') e3).trans e4)
  rw [← e5]; exact h
end
section
variable {P : Program} {ops : Array Oper} {late : List Nat} {R : Act → World → Prop} {v : World} {L L0 : List (Nat × TypeId × Array Value)} {n : Nat} {sl : List (Nat × Value)}
theorem seq_plain {id : Nat} {y : Code} {a : Act} {w : World} {Q : Exit → Act → World → Prop} (hS : Hbl v L w) (idx : List Nat) (hx : List.range ops.size = idx) (h : wpL P ops (y.wp P Q) idx a (Hbl v L)) : (Code.seq (.region id ops false) y).wp P Q a w :=
  wp_seq (region_plain (Hbl v L) hS (hx ▸ h) fun _ _ h => h)
theorem one_plain {id : Nat} {a : Act} {w : World} {Q : Exit → Act → World → Prop} (hS : Hbl v L w) (idx : List Nat) (hx : List.range ops.size = idx) (h : wpL P ops (Q .normal) idx a (Hbl v L)) : (Code.region id ops false).wp P Q a w :=
  region_plain (Hbl v L) hS (hx ▸ h) fun _ _ h => h
theorem seq_flow {id : Nat} {y : Code} {a : Act} {w : World} {Q : Exit → Act → World → Prop} (hm : P.follows .mixedOrders = true) (hS : Hbl v L w) (late : List Nat) (L0 : List (Nat × TypeId × Array Value))
    (N : Nat) (hN : ops.size = N) (h : wpF P .any ops late (y.wp P Q) (Hbl v L0) N (Array.replicate N false) a (Hbl v L)) : (Code.seq (.region id ops true) y).wp P Q a w :=
  wp_seq (region_flow hm (Hbl v L) hS.drew (by rw [hN]; exact h) fun _ _ h => h)
theorem one_flow {id : Nat} {a : Act} {w : World} {Q : Exit → Act → World → Prop} (hm : P.follows .mixedOrders = true) (hS : Hbl v L w) (late : List Nat) (L0 : List (Nat × TypeId × Array Value))
    (N : Nat) (hN : ops.size = N) (h : wpF P .any ops late (Q .normal) (Hbl v L0) N (Array.replicate N false) a (Hbl v L)) : (Code.region id ops true).wp P Q a w :=
  region_flow hm (Hbl v L) hS.drew (by rw [hN]; exact h) fun _ _ h => h
theorem seq_flow_to {id : Nat} {y : Code} {a : Act} {w : World} {Q : Exit → Act → World → Prop} (R : Act → World → Prop) (hm : P.follows .mixedOrders = true) (hS : Hbl v L w) (late : List Nat) (L0 : List (Nat × TypeId × Array Value))
    (N : Nat) (hN : ops.size = N) (h : wpF P .any ops late R (Hbl v L0) N (Array.replicate N false) a (Hbl v L)) (hR : ∀ a w, R a w → y.wp P Q a w) : (Code.seq (.region id ops true) y).wp P Q a w :=
  wp_seq (region_flow hm (Hbl v L) hS.drew (by rw [hN]; exact h) hR)
theorem L_val {i d : Nat} {l : List Nat} {op : Op} {ty : TypeId} {pos : String} {after : Array Edge} (u : Value) (hi : ops[i]? = some ⟨some d, op, ty, pos, after, none⟩) (hl : inFr n sl = true)
    (hy : Gives P (Hbl v L) u (execOp (rho sl) ⟨some d, op, ty, pos, after, none⟩)) (h : wpL P ops R l (fr n ((d, u) :: sl)) (Hbl v L)) : wpL P ops R (i :: l) (fr n sl) (Hbl v L) :=
  wpL_take hi (.inl ⟨rfl, by rw [fr_eval n sl hl]; exact hy⟩) (Hbl.stays v L) h
theorem L_alloc {i d : Nat} {l : List Nat} {t ty : TypeId} {pos : String} {after : Array Edge} (z : Value) (hi : ops[i]? = some ⟨some d, .alloc t, ty, pos, after, none⟩) (hl : inFr n sl = true) (hz : (P.info? t).map (·.zero) = some (some z))
    (cs : Array Value) (hc : z.cells = cs) (h : ∀ g, wpL P ops R l (fr n ((d, .pointer (some ⟨g, 0, none⟩)) :: sl)) (Hbl v ((g, t, cs) :: L))) : wpL P ops R (i :: l) (fr n sl) (Hbl v L) := fun w hS => by
  refine wpOp_run hi rfl (.inl (by rw [fr_eval n sl hl]; exact run_alloc_exec z hz w)) ⟨_, Hbl.stays v _, ?_, h _⟩
  rw [hc]; exact hS.alloc _ _
theorem L_box {i d : Nat} {l : List Nat} {t ty : TypeId} {x : Operand} {pos : String} {after : Array Edge} (u : Value) (hi : ops[i]? = some ⟨some d, .box t x, ty, pos, after, none⟩) (hl : inFr n sl = true) (hx : rho sl x = u)
    (cs : Array Value) (hc : u.cells = cs) (h : ∀ g, wpL P ops R l (fr n ((d, .pointer (some ⟨g, 0, none⟩)) :: sl)) (Hbl v ((g, t, cs) :: L))) : wpL P ops R (i :: l) (fr n sl) (Hbl v L) := fun w hS => by
  refine wpOp_run hi rfl (.inl (by rw [fr_eval n sl hl]; exact run_box_exec u hx w)) ⟨_, Hbl.stays v _, ?_, h _⟩
  rw [hc]; exact hS.alloc _ _
theorem L_store {i : Nat} {l : List Nat} {t ty ty' : TypeId} {x y : Operand} {pos : String} {after : Array Edge} (k g : Nat) (old cs : Array Value) (hi : ops[i]? = some ⟨none, .store ty x y, ty', pos, after, none⟩) (hl : inFr n sl = true)
    (hx : rho sl x = .pointer (some ⟨g, 0, none⟩)) (hy : rho sl y = .agg cs) (hk : L[k]? = some (g, t, old)) (hsz : (P.info? ty).map (·.size) = some cs.size) (ho : old.size = cs.size) (h1 : cs.all (·.oneCell') = true)
    (h : wpL P ops R l (fr n sl) (Hbl v (L.set k (g, t, cs)))) : wpL P ops R (i :: l) (fr n sl) (Hbl v L) := fun w hS => by
  obtain ⟨w', hr, hb, hg⟩ := run_store_exec (P := P) (dst := none) (ty' := ty') (pos := pos) (after := after) (gd := none) g t old cs hx hy (hS.blk k hk) hsz ho h1
  exact wpOp_run hi rfl (.inr ⟨rfl, by rw [fr_eval n sl hl]; exact hr⟩) ⟨_, Hbl.stays v _, hS.store k hk cs hb hg, h⟩
theorem fr_yield {j d : Nat} {b : Bool} (hl : inFr n sl = true) (hd : Nat.blt d n = true) (hj : (ops[j]?).bind (·.dst) = some d) (hv : look sl d = .bool b) : yielded ops (fr n sl).tmps j = some b := by
  have h := fr_at n sl hl d
  rw [hv] at h
  have hlt : d < (fr n sl).tmps.size := by rw [fr_size]; exact blt_iff.1 hd
  unfold yielded
  rw [hj]
  simp only [Option.bind_some]
  have e : (fr n sl).tmps[d]? = some (.bool b) := by
    rw [Array.getElem?_eq_getElem hlt]
    simp only [Array.getD, hlt, dif_pos] at h
    exact congrArg some h
  rw [e]
/-- A guarded operation that is wanted. -/
theorem flow_take_g {i d j dj : Nat} {want : Bool} {op : Op} {ty : TypeId} {pos : String} {after : Array Edge} {fuel : Nat} {listed : Array Bool} (u : Value) (hi : ops[i]? = some ⟨some d, op, ty, pos, after, some (j, want)⟩)
    (hs : Region.noSelect ops = true) (hf : Region.free .any ops listed i = true) (hr : (Region.ready .any ops listed).contains i = true) (hl : inFr n sl = true) (hlt : lateOk .any ops late i = true) (hE : L0.Sublist L)
    (hd : Nat.blt dj n = true) (hj : (ops[j]?).bind (·.dst) = some dj) (hv : look sl dj = .bool want)
    (hy : Gives P (Hbl v L0) u (execOp (rho sl) ⟨some d, op, ty, pos, after, some (j, want)⟩))
    (h : wpF P .any ops late R (Hbl v L0) fuel (listed.setIfInBounds i true) (fr n ((d, u) :: sl)) (Hbl v L)) : wpF P .any ops late R (Hbl v L0) (fuel + 1) listed (fr n sl) (Hbl v L) :=
  wpF_first hi (Region.noSelect_spec hs) fuel listed _ _ hlt (Ext.of_sub hE) (Region.free_spec hi hf) (by simpa using hr) (.inl ⟨by simp [Region.wanted, fr_yield hl hd hj hv], by rw [fr_eval n sl hl]; exact hy⟩) h
/-- A guarded operation that is not wanted. -/
theorem flow_skip {i d j dj : Nat} {want : Bool} {op : Op} {ty : TypeId} {pos : String} {after : Array Edge} {fuel : Nat} {listed : Array Bool} (hi : ops[i]? = some ⟨some d, op, ty, pos, after, some (j, want)⟩)
    (hs : Region.noSelect ops = true) (hf : Region.free .any ops listed i = true) (hr : (Region.ready .any ops listed).contains i = true) (hl : inFr n sl = true) (hlt : lateOk .any ops late i = true) (hE : L0.Sublist L)
    (hd : Nat.blt dj n = true) (hj : (ops[j]?).bind (·.dst) = some dj) (hv : look sl dj = .bool (!want))
    (h : wpF P .any ops late R (Hbl v L0) fuel (listed.setIfInBounds i true) (fr n ((d, undef) :: sl)) (Hbl v L)) : wpF P .any ops late R (Hbl v L0) (fuel + 1) listed (fr n sl) (Hbl v L) :=
  wpF_first hi (Region.noSelect_spec hs) fuel listed _ _ hlt (Ext.of_sub hE) (Region.free_spec hi hf) (by simpa using hr) (.inr ⟨by simp [Region.wanted, fr_yield hl hd hj hv], rfl⟩) h
theorem L_val_g {i d j dj : Nat} {l : List Nat} {want : Bool} {op : Op} {ty : TypeId} {pos : String} {after : Array Edge} (u : Value) (hi : ops[i]? = some ⟨some d, op, ty, pos, after, some (j, want)⟩) (hl : inFr n sl = true)
    (hd : Nat.blt dj n = true) (hj : (ops[j]?).bind (·.dst) = some dj) (hv : look sl dj = .bool want)
    (hy : Gives P (Hbl v L) u (execOp (rho sl) ⟨some d, op, ty, pos, after, some (j, want)⟩)) (h : wpL P ops R l (fr n ((d, u) :: sl)) (Hbl v L)) : wpL P ops R (i :: l) (fr n sl) (Hbl v L) :=
  wpL_take hi (.inl ⟨by simp [Region.wanted, fr_yield hl hd hj hv], by rw [fr_eval n sl hl]; exact hy⟩) (Hbl.stays v L) h
theorem L_skip {i d j dj : Nat} {l : List Nat} {want : Bool} {op : Op} {ty : TypeId} {pos : String} {after : Array Edge} (hi : ops[i]? = some ⟨some d, op, ty, pos, after, some (j, want)⟩) (hl : inFr n sl = true)
    (hd : Nat.blt dj n = true) (hj : (ops[j]?).bind (·.dst) = some dj) (hv : look sl dj = .bool (!want))
    (h : wpL P ops R l (fr n ((d, undef) :: sl)) (Hbl v L)) : wpL P ops R (i :: l) (fr n sl) (Hbl v L) :=
  wpL_take hi (.inr ⟨by simp [Region.wanted, fr_yield hl hd hj hv], rfl⟩) (Hbl.stays v L) h
/-- A call that makes a block. -/
theorem L_fresh {i d : Nat} {l : List Nat} {f : FuncId} {args : Array Operand} {ats : Array TypeId} {ty : TypeId} {pos : String} {after : Array Edge} {vl : List Value} (t : TypeId) (cs : Array Value) (val : Nat → Value)
    (hi : ops[i]? = some ⟨some d, .call { callee := .value (.func f), args := args, argTypes := ats }, ty, pos, after, none⟩) (hl : inFr n sl = true) (hf : (P.funcs[f]?).map (fun fn => (fn.name == "runtime.NumGoroutine", fn.body.isNone)) = some (false, false))
    (ha : args.toList.map (rho sl) = vl) (hc : ∀ w, Hbl v L w → Calls P f vl.toArray w fun e w' => ∃ g, e = .returned (val g) ∧ w.heap.size ≤ g ∧ Blk w' g t cs ∧ Below w.heap.size w w')
    (h : ∀ g, wpL P ops R l (fr n ((d, val g) :: sl)) (Hbl v ((g, t, cs) :: L))) : wpL P ops R (i :: l) (fr n sl) (Hbl v L) := fun w hS => by
  unfold Go.wpOp
  simp only [hi]
  have hw : Region.wanted ⟨some d, .call { callee := .value (.func f), args := args, argTypes := ats }, ty, pos, after, none⟩ (yielded ops (fr n sl).tmps) = true := rfl
  simp only [hw, if_true]
  refine .inl ?_
  unfold Oper.wp
  have hrun : (execOp (fr n sl).eval ⟨some d, .call { callee := .value (.func f), args := args, argTypes := ats }, ty, pos, after, none⟩).run P w = .ok (.enter f vl.toArray) w := by
    rw [fr_eval n sl hl]
    obtain ⟨fn, h1, h2⟩ := Option.map_eq_some_iff.1 hf
    simp only [Prod.mk.injEq, beq_eq_false_iff_ne, ne_eq, Option.isNone_eq_false_iff] at h2
    have h3 : fn.body ≠ none := by intro e; simp [e] at h2
    have ha : args.map (rho sl) = vl.toArray := by rw [← ha, ← Array.toList_map, Array.toArray_toList]
    simp [execOp, resolve, rho, Deferred.ofValue, invoke, ha, callFunc, h1, h2.1, h3]
  rw [hrun]
  refine Calls.mono (hc w hS) fun e w' he => ?_
  obtain ⟨g, rfl, hg, hb, hbel⟩ := he
  exact ⟨_, Hbl.stays v _, hS.fresh hbel hg hb, h g⟩
theorem L_end {L : List (Nat × TypeId × Array Value)} {a : Act} (h : ∀ w, Hbl v L w → R a w) : wpL P ops R [] a (Hbl v L) := h
theorem F_alloc {i d fuel : Nat} {listed : Array Bool} {t ty : TypeId} {pos : String} {after : Array Edge} (z : Value) (hi : ops[i]? = some ⟨some d, .alloc t, ty, pos, after, none⟩) (hl : inFr n sl = true) (hz : (P.info? t).map (·.zero) = some (some z))
    (cs : Array Value) (hc : z.cells = cs) (hs : L0.Sublist L) (h : ∀ g, wpF P .any ops late R (Hbl v L0) fuel (listed.setIfInBounds i true) (fr n ((d, .pointer (some ⟨g, 0, none⟩)) :: sl)) (Hbl v ((g, t, cs) :: L))) :
    ∀ w, Hbl v L w → wpOp P ops (Nrm R) i (fun a' w' => ∃ S', (i ∈ late ∨ Ext (Hbl v L0) S') ∧ S' w' ∧ wpF P .any ops late R (Hbl v L0) fuel (listed.setIfInBounds i true) a' S') (fr n sl) w := fun w hS => by
  refine wpOp_run hi rfl (.inl (by rw [fr_eval n sl hl]; exact run_alloc_exec z hz w)) ⟨_, .inr (Ext.of_sub (.cons _ hs)), ?_, h _⟩
  rw [hc]; exact hS.alloc _ _
theorem F_store {i fuel : Nat} {listed : Array Bool} {t ty ty' : TypeId} {x y : Operand} {pos : String} {after : Array Edge} (k g : Nat) (old cs : Array Value) (hi : ops[i]? = some ⟨none, .store ty x y, ty', pos, after, none⟩) (hl : inFr n sl = true)
    (hx : rho sl x = .pointer (some ⟨g, 0, none⟩)) (hy : rho sl y = .agg cs) (hk : L[k]? = some (g, t, old)) (hsz : (P.info? ty).map (·.size) = some cs.size) (ho : old.size = cs.size) (h1 : cs.all (·.oneCell') = true)
    (hs : i ∈ late ∨ L0.Sublist (L.set k (g, t, cs))) (h : wpF P .any ops late R (Hbl v L0) fuel (listed.setIfInBounds i true) (fr n sl) (Hbl v (L.set k (g, t, cs)))) :
    ∀ w, Hbl v L w → wpOp P ops (Nrm R) i (fun a' w' => ∃ S', (i ∈ late ∨ Ext (Hbl v L0) S') ∧ S' w' ∧ wpF P .any ops late R (Hbl v L0) fuel (listed.setIfInBounds i true) a' S') (fr n sl) w := fun w hS => by
  obtain ⟨w', hr, hb, hg⟩ := run_store_exec (P := P) (dst := none) (ty' := ty') (pos := pos) (after := after) (gd := none) g t old cs hx hy (hS.blk k hk) hsz ho h1
  exact wpOp_run hi rfl (.inr ⟨rfl, by rw [fr_eval n sl hl]; exact hr⟩) ⟨_, hs.imp id Ext.of_sub, hS.store k hk cs hb hg, h⟩
section
variable {fuel : Nat} {listed : Array Bool} {a : Act} {S0 S : World → Prop}
theorem flow_one (i : Nat) (hr : Region.ready .any ops listed = [i]) (h : ∀ w, S w → wpOp P ops (Nrm R) i (fun a' w' => ∃ S', (i ∈ late ∨ Ext S0 S') ∧ S' w' ∧ wpF P .any ops late R S0 fuel (listed.setIfInBounds i true) a' S') a w) : wpF P .any ops late R S0 (fuel + 1) listed a S :=
  flow_all hr (by simp) fun j hj => by simp at hj; subst hj; exact h
theorem flow_two (i i2 : Nat) (hr : Region.ready .any ops listed = [i, i2]) (h : ∀ w, S w → wpOp P ops (Nrm R) i (fun a' w' => ∃ S', (i ∈ late ∨ Ext S0 S') ∧ S' w' ∧ wpF P .any ops late R S0 fuel (listed.setIfInBounds i true) a' S') a w)
    (h2 : ∀ w, S w → wpOp P ops (Nrm R) i2 (fun a' w' => ∃ S', (i2 ∈ late ∨ Ext S0 S') ∧ S' w' ∧ wpF P .any ops late R S0 fuel (listed.setIfInBounds i2 true) a' S') a w) : wpF P .any ops late R S0 (fuel + 1) listed a S :=
  flow_all hr (by simp) fun j hj => by
    simp at hj
    rcases hj with rfl | rfl
    · exact h
    · exact h2
theorem flow_three (i i2 i3 : Nat) (hr : Region.ready .any ops listed = [i, i2, i3]) (h : ∀ w, S w → wpOp P ops (Nrm R) i (fun a' w' => ∃ S', (i ∈ late ∨ Ext S0 S') ∧ S' w' ∧ wpF P .any ops late R S0 fuel (listed.setIfInBounds i true) a' S') a w)
    (h2 : ∀ w, S w → wpOp P ops (Nrm R) i2 (fun a' w' => ∃ S', (i2 ∈ late ∨ Ext S0 S') ∧ S' w' ∧ wpF P .any ops late R S0 fuel (listed.setIfInBounds i2 true) a' S') a w)
    (h3 : ∀ w, S w → wpOp P ops (Nrm R) i3 (fun a' w' => ∃ S', (i3 ∈ late ∨ Ext S0 S') ∧ S' w' ∧ wpF P .any ops late R S0 fuel (listed.setIfInBounds i3 true) a' S') a w) : wpF P .any ops late R S0 (fuel + 1) listed a S :=
  flow_all hr (by simp) fun j hj => by
    simp at hj
    rcases hj with rfl | rfl | rfl
    · exact h
    · exact h2
    · exact h3
end
theorem run_load_cells {w : World} {ty t : TypeId} {g : Nat} {cs : Array Value} {d : TypeDesc} (hB : Blk w g t cs) (hu : P.underlying ty = some d) (hd : (match d with | .struct _ | .array _ _ => true | _ => false) = true) (hi : (P.info? ty).map (·.size) = some cs.size) :
    (loadVar ty ⟨g, 0, none⟩).run P w = .ok (.agg cs) w := by
  have hl : (loadCells ⟨g, 0, none⟩ cs.toList.length).run P w = .ok cs.toList.toArray w :=
    run_loadCells_list (P := P) w ⟨g, 0, none⟩ cs.toList (fun j u hv => by
      rw [add_plain, hB.cell, Nat.zero_add]
      simpa using hv)
  cases hq : P.info? ty with
  | none => simp [hq] at hi
  | some i =>
    have hsz : i.size = cs.size := by simpa [hq] using hi
    have hagg : (isAgg ty).run P w = .ok true w := by
      unfold isAgg
      rw [Sem.run_bind, run_underlying hu w]
      cases d <;> simp_all
    simp only [Array.length_toList, Array.toArray_toList] at hl
    simp [loadVar, Sem.run_bind, hagg, sizeOf, typeInfo, hq, hsz, hl]
section
variable {fn : Func} {E : Ending → World → Prop} {w : World}
theorem ret_cell {s g : Nat} {ty t : TypeId} {cs : Array Value} {d : TypeDesc} (hres : fn.results = #[.cell s ty]) (hl : inFr n sl = true) (hs : look sl s = .pointer (some ⟨g, 0, none⟩)) (hB : Blk w g t cs)
    (hu : P.underlying ty = some d) (hd : (match d with | .struct _ | .array _ _ => true | _ => false) = true) (hi : (P.info? ty).map (·.size) = some cs.size) (hE : E (.returned (.agg cs)) w) : bodyPost P fn E .ret (fr n sl) w := by
  refine bodyPost_ret (v := .agg cs) ?_ (fr_defers n sl) hE
  have h := run_load_cells (P := P) hB hu hd hi
  simp [results, hres, fr_at n sl hl, hs, asAddr, h]
theorem ret_tmp {s : Nat} {u : Value} (hres : fn.results = #[.tmp s]) (hl : inFr n sl = true) (hs : look sl s = u) (hE : E (.returned u) w) : bodyPost P fn E .ret (fr n sl) w := by
  refine bodyPost_ret (v := u) ?_ (fr_defers n sl) hE
  simp [results, hres, fr_at n sl hl, hs]
theorem ret_cell_tmp {s s' g : Nat} {ty t : TypeId} {cs : Array Value} {d : TypeDesc} {u : Value} (hres : fn.results = #[.cell s ty, .tmp s']) (hl : inFr n sl = true) (hs : look sl s = .pointer (some ⟨g, 0, none⟩)) (hs' : look sl s' = u) (hB : Blk w g t cs)
    (hu : P.underlying ty = some d) (hd : (match d with | .struct _ | .array _ _ => true | _ => false) = true) (hi : (P.info? ty).map (·.size) = some cs.size) (hE : E (.returned (.tuple #[.agg cs, u])) w) : bodyPost P fn E .ret (fr n sl) w := by
  refine bodyPost_ret (v := .tuple #[.agg cs, u]) ?_ (fr_defers n sl) hE
  have h := run_load_cells (P := P) hB hu hd hi
  simp [results, hres, fr_at n sl hl, hs, hs', asAddr, h]
end
end
end Go.Proofs.YtclfmdaafpachaaDoor
