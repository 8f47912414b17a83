/-
  Slices of the call's own that hold one-cell numbers: what they hold, and how they grow.
-/
import Derived.Test.YtialfoccalobpaaDoorWCFpErr
import Derived.Laws.Entries
namespace Go.Proofs.YtialfoccalobpaaDoor
set_option linter.unusedSimpArgs false
set_option linter.unusedVariables false
open Go.RowKit
/-- The first n cells of a block of cap cells are the numbers l. -/
structure Nms (k : IntKind) (cs : Array Value) (cap n : Nat) (l : List Int) : Prop where
  size : cs.size = cap
  le : n ≤ cap
  cap : cap ≤ 9223372036854775807
  len : l.length = n
  words : cs.toList.take n = l.map (Value.int k)
theorem Nms.nil (k : IntKind) : Nms k #[] 0 0 [] := ⟨rfl, Nat.le_refl _, by omega, rfl, rfl⟩
theorem Nms.all {k : IntKind} {cs : Array Value} {n : Nat} {l : List Int} (h : cs = (l.map (Value.int k)).toArray) (hl : l.length = n) (hn : n ≤ 9223372036854775807) : Nms k cs n n l :=
  ⟨by rw [h]; simpa using hl, Nat.le_refl _, hn, hl, by rw [h, ← hl]; exact List.take_of_length_le (by simp)⟩
theorem Nms.get {k : IntKind} {cs : Array Value} {cap n : Nat} {l : List Int} (h : Nms k cs cap n l) {j : Nat} (hj : j < n) : cs[0 + j]? = some (.int k (gt l j)) := by
  have h1 : (cs.toList.take n)[j]? = (l.map (Value.int k))[j]? := by rw [h.words]
  have hl : j < l.length := by rw [h.len]; exact hj
  rw [List.getElem?_take, if_pos hj, List.getElem?_map, List.getElem?_eq_getElem hl] at h1
  rw [Nat.zero_add, gt_eq hl]
  simpa using h1
theorem Nms.set {k : IntKind} {cs : Array Value} {cap n : Nat} {l : List Int} (h : Nms k cs cap n l) (j : Nat) (x : Int) : Nms k (cs.setIfInBounds (0 + j) (.int k x)) cap n (l.set j x) :=
  ⟨by simpa using h.size, h.le, h.cap, by simpa using h.len, by
    rw [Nat.zero_add, Array.toList_setIfInBounds, List.take_set, h.words, List.map_set]⟩
theorem Nms.list {k : IntKind} {cs : Array Value} {cap n n' : Nat} {l l' : List Int} (h : Nms k cs cap n l) (e : l = l') (en : n = n') : Nms k cs cap n' l' := en ▸ e ▸ h
theorem Nms.reads {k : IntKind} {w : World} {g cap n : Nat} {e : TypeId} {cs : Array Value} {l : List Int} (h : Nms k cs cap n l) (hB : Blk w g e cs) : Reads w w.heap.size (some ⟨g, 0, none⟩) n (l.map (Value.int k)) := by
  have := hB.reads hB.lt 0 n (by rw [h.size, Nat.zero_add]; exact h.le)
  rwa [List.drop_zero, h.words] at this
theorem Nms.front {k : IntKind} {w : World} {g cap n : Nat} {e : TypeId} {cs : Array Value} {l : List Int} (h : Nms k cs cap n l) (hB : Blk w g e cs) {m : Nat} (hm : m ≤ n) : Reads w w.heap.size (some ⟨g, 0, none⟩) m ((l.take m).map (Value.int k)) := by
  have := (h.reads hB).front hm
  rwa [List.map_take]
/-- Cells that are just these numbers, read as a slice. -/
theorem lit_reads {k : IntKind} {w : World} {g : Nat} {e : TypeId} {l : List Int} {cs : Array Value} (hB : Blk w g e cs) (h : cs = (l.map (Value.int k)).toArray) {n : Nat} (hn : l.length = n) : Reads w w.heap.size (some ⟨g, 0, none⟩) n (l.map (Value.int k)) := by
  have := hB.reads hB.lt 0 n (by rw [h]; simp; omega)
  rw [h] at this
  subst hn
  have e : ((((l.map (Value.int k)).toArray.toList).drop 0).take l.length) = l.map (Value.int k) := by exact List.take_of_length_le (by simp)
  rwa [e] at this
theorem one_map {k : IntKind} (l : List Int) : ∀ u ∈ l.map (Value.int k), u.oneCell' = true := by
  intro u hu
  obtain ⟨x, _, rfl⟩ := List.mem_map.1 hu
  rfl
/-- A function returns a slice of its own of these numbers. -/
def RetsP (f : FuncId) (args : Array Value) (w : World) (e : TypeId) (k : IntKind) (n : Nat) (l : List Int) : Prop :=
  Calls Tryd.prog f args w fun r w' => ∃ g cap cs, r = .returned (.slice (some ⟨g, 0, none⟩) n cap) ∧ Nms k cs cap n l ∧ w.heap.size ≤ g ∧ Blk w' g e cs ∧ Below w.heap.size w w'
theorem Nms.cutTo {k : IntKind} {cs : Array Value} {cap n : Nat} {l : List Int} (h : Nms k cs cap n l) {m : Nat} (hm : m ≤ n) : Nms k cs cap m (l.take m) :=
  ⟨h.size, Nat.le_trans hm h.le, h.cap, by rw [List.length_take, h.len]; omega, by
    have := h.words
    have e : cs.toList.take m = (cs.toList.take n).take m := by rw [List.take_take]; congr 1; omega
    rw [e, this, List.map_take]⟩
theorem owns_blk0 {w : World} {base n : Nat} {e : TypeId} {v : Value} {xs : List Value} (h : w.ownsRow base e 1 v n xs) (hn : v ≠ .slice none 0 0) :
    ∃ g cap cs, v = .slice (some ⟨g, 0, none⟩) n cap ∧ base ≤ g ∧ Blk w g e cs ∧ n ≤ cap ∧ cs.size = cap ∧ cs.toList.take n = xs ∧ cap ≤ 9223372036854775807 := by
  rcases h.2 with ⟨h0, _⟩ | ⟨g, cap, cur, hv, hb, hg, hnc, hm, hs, ht⟩
  · exact absurd h0 hn
  · exact ⟨g, cap, cur, hv, hb, hg, hnc, by simpa using hs, by simpa using ht, by simpa only [maxLen] using hm⟩
theorem fill_ones (z : Value) : ∀ (vs done : List Value), (∀ v ∈ vs, v.cells = #[v]) → Instr.fill (fun i => some (i * 1, 1)) (done ++ List.replicate vs.length z).toArray ((vs.zipIdx done.length).map fun p => (p.2, p.1)) = some (done ++ vs).toArray := by
  intro vs
  induction vs with
  | nil => intro done _; simp [Instr.fill]
  | cons x vs ih =>
    intro done hv
    have hx := hv x (List.mem_cons_self ..)
    have h := ih (done ++ [x]) (fun v hm => hv v (List.mem_cons_of_mem _ hm))
    simp only [List.zipIdx_cons, List.map_cons, Instr.fill, hx]
    rw [if_neg (by simp)]
    have e : (#[x] : Array Value).zipIdx.foldl (fun cs (p : Value × Nat) => cs.setIfInBounds (done.length * 1 + p.2) p.1) (done ++ List.replicate (x :: vs).length z).toArray = (done ++ [x] ++ List.replicate vs.length z).toArray := by
      simp [List.replicate_succ]
    have e2 : (done ++ [x]).length = done.length + 1 := by simp
    rw [e2] at h
    simp only [e]
    rw [h]
    simp
theorem range_ones (z : Value) (hz : z.cells = #[z]) (m : Nat) : (Array.range (m * 1)).map (fun x => z.cells[x % z.cells.size]!) = (List.replicate m z).toArray := by
  apply Array.ext
  · simp
  · intro i h1 h2
    simp [hz, Nat.mod_one]
section
variable {ops : Array Oper} {late : List Nat} {R : Act → World → Prop} {v : World} {L L0 : List (Nat × TypeId × Array Value)} {n : Nat} {sl : List (Nat × Value)}
/-- append of what can be read, to a slice of the call's own. -/
theorem push_run {x y : Operand} {t ty e : TypeId} {w : World} (k g m cap q c2 bytes : Nat) (A2 : Option Addr) (kd : IntKind) (z : Value) (l news : List Int) (cs : Array Value)
    (ht : Tryd.prog.underlying t = some (.slice e)) (hinfo : (Tryd.prog.info? e).map (fun i => (i.zero, i.size, i.bytes)) = some (some z, 1, bytes)) (hzs : z.cells.size = 1)
    (hk : L[k]? = some (g, e, cs)) (hp : Nms kd cs cap m l) (hr : Reads w w.heap.size A2 q (news.map (Value.int kd)))
    (h63 : m + q ≤ 1000000000000) (hb8 : bytes ≤ 8) (hS : Hbl v L w) :
    ∃ w' g' cap' cs', (Builtin.append_ #[t, t] ty #[.slice (some ⟨g, 0, none⟩) m cap, .slice A2 q c2]).run Tryd.prog w = .ok (.slice (some ⟨g', 0, none⟩) (m + q) cap') w' ∧
      Nms kd cs' cap' (m + q) (l ++ news) ∧ Hbl v ((g', e, cs') :: L.eraseIdx k) w' := by
  have hB := hS.blk k hk
  have hown : w.ownsRow v.heap.size e 1 (.slice (some ⟨g, 0, none⟩) m cap) m (cs.toList.take m) := hB.owns ((hS.2.1 _ (List.mem_of_getElem? hk)).2) hp.le hp.size hp.cap
  have hby : (m + q) * bytes ≤ 140737488355328 := Nat.le_trans (Nat.mul_le_mul h63 hb8) (by omega)
  obtain ⟨v', w', hrun, h2, h3, h4⟩ := run_append_reads (P := Tryd.prog) w v.heap.size t ty e z bytes ht hinfo hzs _ m _ hown w.heap.size A2 q c2 _ hr (one_map news) (by omega) hby hS.1.size
  obtain ⟨g', cap', cs', rfl, hg', hb', hc1, hc2, hc3, hc4⟩ := owns_blk0 h2 (fun e0 => by rw [e0] at h4; rcases h4 with h | h <;> simp [Value.ownBlock] at h)
  have hnd := hS.2.2
  have hmem : ∀ p ∈ L.eraseIdx k, p ∈ L ∧ p.1 ≠ g := fun p hp => by
    obtain ⟨j, hj, hjk, hjq⟩ := List.mem_eraseIdx_iff_getElem.1 hp
    refine ⟨hjq ▸ List.getElem_mem hj, fun e => hjk ?_⟩
    have e1 : (L.map (·.1))[j]? = (L.map (·.1))[k]? := by
      rw [List.getElem?_map, List.getElem?_map, hk, List.getElem?_eq_getElem hj, hjq]; simp [e]
    exact (List.getElem?_inj (by simpa using hj) hnd).1 e1
  have hnew : g' = g ∨ g' = w.heap.size := by
    rcases h4 with e | e
    · left; simpa [Value.ownBlock] using e
    · right; simpa [Value.ownBlock] using e
  refine ⟨w', g', cap', cs', hrun, ⟨hc2, hc1, hc4, ?_, by rw [hc3, hp.words, List.map_append]⟩, ?_⟩
  · have := hr.1
    rw [List.length_map] at this
    rw [List.length_append, hp.len, this]
  refine ⟨hS.1.grown h3 hS.1.size (fun i hi => by cases hi; exact (hS.2.1 _ (List.mem_of_getElem? hk)).2), fun p hp => ?_, ?_⟩
  · rcases List.mem_cons.1 hp with rfl | hp
    · exact ⟨hb', hg'⟩
    · obtain ⟨h6, h7⟩ := hmem p hp
      exact ⟨(hS.2.1 p h6).1.grown h3 (by simp [Value.ownBlock]; exact h7), (hS.2.1 p h6).2⟩
  · simp only [List.map_cons, List.nodup_cons]
    refine ⟨fun hm => ?_, ((List.eraseIdx_sublist L k).map _).nodup hnd⟩
    obtain ⟨p, hp, he⟩ := List.mem_map.1 hm
    obtain ⟨h5, h6⟩ := hmem p hp
    rcases hnew with e | e
    · exact h6 (he.trans e)
    · have := (hS.2.1 p h5).1.lt
      omega
theorem build_run {t e ty : TypeId} {w : World} {parts : Array (Nat × Operand)} (m : Nat) (z : Value) (vs : List Value)
    (ht : Tryd.prog.underlying t = some (.slice e)) (hinfo : (Tryd.prog.info? e).map (fun i => (i.zero, i.size)) = some (some z, 1)) (hz1 : z.cells = #[z])
    (ha : (parts.toList.map fun x => (x.1, rho sl x.2)) = vs.zipIdx.map fun p => (p.2, p.1)) (hm : vs.length = m) (hv : ∀ v ∈ vs, v.cells = #[v]) (h0 : Nat.blt 0 m = true) (hb : Nat.ble m 16777216 = true) :
    (Instr.buildSlice t m (parts.map fun x => (x.1, rho sl x.2))).run Tryd.prog w = .ok (.slice (some ⟨w.heap.size, 0, none⟩) m m) (w.alloc (.cells vs.toArray e)) := by
  obtain ⟨ie, he, hz⟩ := Option.map_eq_some_iff.1 hinfo
  simp only [Prod.mk.injEq] at hz
  have h0' : 0 < m := blt_iff.1 h0
  have hb' : m ≤ 16777216 := Nat.le_of_ble_eq_true hb
  refine run_buildSlice w t e m _ vs.toArray ie z ht he hz.1 (by rw [hz.2]; omega) (by rw [hz.2]; omega) ?_
  rw [hz.2, range_ones z hz1]
  have e2 : (parts.map fun x => (x.1, rho sl x.2)).toList = vs.zipIdx.map fun p => (p.2, p.1) := by rw [← ha]; simp
  rw [e2]
  have h := fill_ones z vs [] hv
  rw [hm] at h
  simpa using h
theorem L_freshP {i d : Nat} {l : List Nat} {f : FuncId} {args : Array Operand} {ats : Array TypeId} {ty : TypeId} {pos : String} {after : Array Edge} {gd : Option (Nat × Bool)} {vl : List Value} (e : TypeId) (kd : IntKind) (m : Nat) (xs : List Int)
    (hi : ops[i]? = some ⟨some d, .call { callee := .value (.func f), args := args, argTypes := ats }, ty, pos, after, gd⟩) (hl : inFr n sl = true) (hw : Want ops n sl gd) (hf : (Tryd.prog.funcs[f]?).map (fun fn => (fn.name == "runtime.NumGoroutine", fn.body.isNone)) = some (false, false))
    (ha : args.toList.map (rho sl) = vl) (hc : ∀ w, Hbl v L w → RetsP f vl.toArray w e kd m xs)
    (h : ∀ g cap cs, Nms kd cs cap m xs → wpL Tryd.prog ops R l (fr n ((d, .slice (some ⟨g, 0, none⟩) m cap) :: sl)) (Hbl v ((g, e, cs) :: L))) : wpL Tryd.prog ops R (i :: l) (fr n sl) (Hbl v L) := fun w hS =>
  wpOp_call hi hl (hw ..) hf ha (hc w hS) fun r w' ⟨g, cap, cs, he, hq, hg, hb, hbel⟩ => ⟨_, he, Hbl v ((g, e, cs) :: L), Hbl.stays v _, hS.fresh hbel hg hb, h g cap cs hq⟩
/-- '[]T{..}' of one-cell values. -/
theorem L_buildV {i d : Nat} {il : List Nat} {t ty e : TypeId} {pos : String} {after : Array Edge} {gd : Option (Nat × Bool)} {parts : Array (Nat × Operand)} (m : Nat) (z : Value) (vs : List Value)
    (hi : ops[i]? = some ⟨some d, .buildSlice t m parts, ty, pos, after, gd⟩) (hl : inFr n sl = true) (hw : Want ops n sl gd) (ht : Tryd.prog.underlying t = some (.slice e)) (hinfo : (Tryd.prog.info? e).map (fun i => (i.zero, i.size)) = some (some z, 1)) (hz1 : z.cells = #[z])
    (ha : (parts.toList.map fun x => (x.1, rho sl x.2)) = vs.zipIdx.map fun p => (p.2, p.1)) (hm : vs.length = m) (hv : ∀ v ∈ vs, v.cells = #[v]) (h0 : Nat.blt 0 m = true) (hb : Nat.ble m 16777216 = true)
    (h : ∀ g, wpL Tryd.prog ops R il (fr n ((d, .slice (some ⟨g, 0, none⟩) m m) :: sl)) (Hbl v ((g, e, vs.toArray) :: L))) : wpL Tryd.prog ops R (i :: il) (fr n sl) (Hbl v L) := fun w hS =>
  wpOp_runG (w' := w.alloc (.cells vs.toArray e)) hi (hw ..) (by rw [fr_eval n sl hl]; simp only [execOp, Sem.run_bind]; rw [build_run (ty := ty) m z vs ht hinfo hz1 ha hm hv h0 hb]; rfl) ⟨_, Hbl.stays v _, hS.alloc e vs.toArray, h _⟩
theorem F_buildV {i d fuel : Nat} {listed : Array Bool} {t ty e : TypeId} {pos : String} {after : Array Edge} {gd : Option (Nat × Bool)} {parts : Array (Nat × Operand)} (m : Nat) (z : Value) (vs : List Value)
    (hi : ops[i]? = some ⟨some d, .buildSlice t m parts, ty, pos, after, gd⟩) (hl : inFr n sl = true) (hw : Want ops n sl gd) (ht : Tryd.prog.underlying t = some (.slice e)) (hinfo : (Tryd.prog.info? e).map (fun i => (i.zero, i.size)) = some (some z, 1)) (hz1 : z.cells = #[z])
    (ha : (parts.toList.map fun x => (x.1, rho sl x.2)) = vs.zipIdx.map fun p => (p.2, p.1)) (hm : vs.length = m) (hv : ∀ v ∈ vs, v.cells = #[v]) (h0 : Nat.blt 0 m = true) (hb : Nat.ble m 16777216 = true) (hs : L0.Sublist L)
    (h : ∀ g, wpF Tryd.prog .any ops late R (Hbl v L0) fuel (listed.setIfInBounds i true) (fr n ((d, .slice (some ⟨g, 0, none⟩) m m) :: sl)) (Hbl v ((g, e, vs.toArray) :: L))) :
    ∀ w, Hbl v L w → wpOp Tryd.prog ops (Nrm R) i (fun a' w' => ∃ S', (i ∈ late ∨ Ext (Hbl v L0) S') ∧ S' w' ∧ wpF Tryd.prog .any ops late R (Hbl v L0) fuel (listed.setIfInBounds i true) a' S') (fr n sl) w := fun w hS =>
  wpOp_runG (w' := w.alloc (.cells vs.toArray e)) hi (hw ..) (by rw [fr_eval n sl hl]; simp only [execOp, Sem.run_bind]; rw [build_run (ty := ty) m z vs ht hinfo hz1 ha hm hv h0 hb]; rfl) ⟨_, .inr (Ext.of_sub (.cons _ hs)), hS.alloc e vs.toArray, h _⟩
theorem L_push {i d : Nat} {il : List Nat} {x y : Operand} {t ty e : TypeId} {pos : String} {after : Array Edge} {gd : Option (Nat × Bool)} (k g m cap q c2 bytes : Nat) (A2 : Option Addr) (kd : IntKind) (z : Value) (l news : List Int) (cs : Array Value)
    (hi : ops[i]? = some ⟨some d, .call { callee := .builtin .append, args := #[x, y], argTypes := #[t, t] }, ty, pos, after, gd⟩) (hl : inFr n sl = true) (hw : Want ops n sl gd)
    (ht : Tryd.prog.underlying t = some (.slice e)) (hinfo : (Tryd.prog.info? e).map (fun i => (i.zero, i.size, i.bytes)) = some (some z, 1, bytes)) (hzs : z.cells.size = 1)
    (hx : rho sl x = .slice (some ⟨g, 0, none⟩) m cap) (hy : rho sl y = .slice A2 q c2)
    (hk : L[k]? = some (g, e, cs)) (hp : Nms kd cs cap m l) (hr : ∀ w, Hbl v L w → Reads w w.heap.size A2 q (news.map (Value.int kd)))
    (h63 : m + q ≤ 1000000000000) (hb8 : Nat.ble bytes 8 = true) (L' : List (Nat × TypeId × Array Value)) (hL : L.eraseIdx k = L')
    (h : ∀ g' cap' cs', Nms kd cs' cap' (m + q) (l ++ news) → wpL Tryd.prog ops R il (fr n ((d, .slice (some ⟨g', 0, none⟩) (m + q) cap') :: sl)) (Hbl v ((g', e, cs') :: L'))) :
    wpL Tryd.prog ops R (i :: il) (fr n sl) (Hbl v L) := fun w hS => by
  subst hL
  obtain ⟨w', g', cap', cs', hrun, h2, h6⟩ := push_run (ty := ty) (x := x) (y := y) k g m cap q c2 bytes A2 kd z l news cs ht hinfo hzs hk hp (hr w hS) h63 (Nat.le_of_ble_eq_true hb8) hS
  exact wpOp_runG (w' := w') hi (hw ..) (by rw [fr_eval n sl hl]; simp [execOp, resolve, invoke, builtin, hx, hy, hrun]) ⟨_, Hbl.stays v _, h6, h g' cap' cs' h2⟩
/-- An operation behind a late one. -/
theorem F_give {i d fuel : Nat} {listed : Array Bool} {op : Op} {ty : TypeId} {pos : String} {after : Array Edge} (u : Value) (hi : ops[i]? = some ⟨some d, op, ty, pos, after, none⟩) (hl : inFr n sl = true) (hm : i ∈ late)
    (hy : Gives Tryd.prog (Hbl v L) u (execOp (rho sl) ⟨some d, op, ty, pos, after, none⟩))
    (h : wpF Tryd.prog .any ops late R (Hbl v L0) fuel (listed.setIfInBounds i true) (fr n ((d, u) :: sl)) (Hbl v L)) :
    ∀ w, Hbl v L w → wpOp Tryd.prog ops (Nrm R) i (fun a' w' => ∃ S', (i ∈ late ∨ Ext (Hbl v L0) S') ∧ S' w' ∧ wpF Tryd.prog .any ops late R (Hbl v L0) fuel (listed.setIfInBounds i true) a' S') (fr n sl) w := fun w hS =>
  Tame.wpOp hi (.inl ⟨rfl, by rw [fr_eval n sl hl]; exact hy⟩) hS fun w' hb => ⟨Hbl v L, .inl hm, Hbl.stays v L w w' hS hb, h⟩
theorem F_push {i d fuel : Nat} {listed : Array Bool} {x y : Operand} {t ty e : TypeId} {pos : String} {after : Array Edge} {gd : Option (Nat × Bool)} (k g m cap q c2 bytes : Nat) (A2 : Option Addr) (kd : IntKind) (z : Value) (l news : List Int) (cs : Array Value)
    (hi : ops[i]? = some ⟨some d, .call { callee := .builtin .append, args := #[x, y], argTypes := #[t, t] }, ty, pos, after, gd⟩) (hl : inFr n sl = true) (hw : Want ops n sl gd)
    (ht : Tryd.prog.underlying t = some (.slice e)) (hinfo : (Tryd.prog.info? e).map (fun i => (i.zero, i.size, i.bytes)) = some (some z, 1, bytes)) (hzs : z.cells.size = 1)
    (hx : rho sl x = .slice (some ⟨g, 0, none⟩) m cap) (hy : rho sl y = .slice A2 q c2)
    (hk : L[k]? = some (g, e, cs)) (hp : Nms kd cs cap m l) (hr : ∀ w, Hbl v L w → Reads w w.heap.size A2 q (news.map (Value.int kd)))
    (h63 : m + q ≤ 1000000000000) (hb8 : Nat.ble bytes 8 = true) (L' : List (Nat × TypeId × Array Value)) (hL : L.eraseIdx k = L') (hs : i ∈ late ∨ L0.Sublist L')
    (h : ∀ g' cap' cs', Nms kd cs' cap' (m + q) (l ++ news) → wpF Tryd.prog .any ops late R (Hbl v L0) fuel (listed.setIfInBounds i true) (fr n ((d, .slice (some ⟨g', 0, none⟩) (m + q) cap') :: sl)) (Hbl v ((g', e, cs') :: L'))) :
    ∀ w, Hbl v L w → wpOp Tryd.prog ops (Nrm R) i (fun a' w' => ∃ S', (i ∈ late ∨ Ext (Hbl v L0) S') ∧ S' w' ∧ wpF Tryd.prog .any ops late R (Hbl v L0) fuel (listed.setIfInBounds i true) a' S') (fr n sl) w := fun w hS => by
  subst hL
  obtain ⟨w', g', cap', cs', hrun, h2, h6⟩ := push_run (ty := ty) (x := x) (y := y) k g m cap q c2 bytes A2 kd z l news cs ht hinfo hzs hk hp (hr w hS) h63 (Nat.le_of_ble_eq_true hb8) hS
  exact wpOp_runG (w' := w') hi (hw ..) (by rw [fr_eval n sl hl]; simp [execOp, resolve, invoke, builtin, hx, hy, hrun]) ⟨_, hs.imp id (fun q => Ext.of_sub (.cons _ q)), h6, h g' cap' cs' h2⟩
end
section
variable {P : Program} {S : World → Prop} {l : List (Nat × Value)} {dst : Option Nat} {x y : Operand} {t ty ct : TypeId} {pos : String} {after : Array Edge} {gd : Option (Nat × Bool)}
theorem gives_xorB {k : IntKind} (a b : Int) (hx : rho l x = .int k a) (hy : rho l y = .int k b) : Gives P S (.int k (bits .xor k a b)) (execOp (rho l) ⟨dst, .binOp .xor t x y ct, ty, pos, after, gd⟩) := gives_value _ fun w => by
  simp [execOp, hx, hy, eqGuard, binOp, Op.intBits, bits]
theorem gives_andB {k : IntKind} (a b : Int) (hx : rho l x = .int k a) (hy : rho l y = .int k b) : Gives P S (.int k (bits .and k a b)) (execOp (rho l) ⟨dst, .binOp .and t x y ct, ty, pos, after, gd⟩) := gives_value _ fun w => by
  simp [execOp, hx, hy, eqGuard, binOp, Op.intBits, bits]
theorem gives_orB {k : IntKind} (a b : Int) (hx : rho l x = .int k a) (hy : rho l y = .int k b) : Gives P S (.int k (bits .or k a b)) (execOp (rho l) ⟨dst, .binOp .or t x y ct, ty, pos, after, gd⟩) := gives_value _ fun w => by
  simp [execOp, hx, hy, eqGuard, binOp, Op.intBits, bits]
end
/-- The operations of D wait, one by another, for number i, and none is listed. -/
def dOk (ops : Array Oper) (D : List Nat) (i : Nat) (listed : Array Bool) : Bool :=
  D.all fun p => !(listed.getD p true) && match ops[p]? with
    | some o => o.after.any fun e => Region.binds .any e && (Nat.beq e.on i || D.any (Nat.beq e.on ·))
    | none => false
section
variable {P : Program} {ops : Array Oper} {late : List Nat} {R : Act → World → Prop} {v : World} {L L0 : List (Nat × TypeId × Array Value)} {n : Nat} {sl : List (Nat × Value)}
theorem dOk_not {D : List Nat} {i j : Nat} {listed : Array Bool} (hD : dOk ops D i listed = true) (hi : listed.getD i true = false) (hj : j ∈ Region.ready .any ops listed) : j ∉ D := fun hm => by
  have h1 := List.all_eq_true.1 hD j hm
  obtain ⟨hjun, oj, hoj, hall⟩ := mem_ready.1 hj
  rw [hoj] at h1
  simp only [Bool.and_eq_true, Bool.not_eq_true'] at h1
  obtain ⟨e, he, hb⟩ := Array.any_eq_true'.1 h1.2
  simp only [Bool.and_eq_true, Bool.or_eq_true, List.any_eq_true] at hb
  have h2 := hall e he hb.1
  have key : ∀ k : Nat, listed.getD k true = false → listed.getD k false = true → False := fun k a b => by
    rcases Nat.lt_or_ge k listed.size with h' | h'
    · simp [h'] at a b; rw [a] at b; cases b
    · simp [Array.getElem?_eq_none h'] at b
  rcases hb.2 with h3 | ⟨p, hp, h3⟩
  · rw [Nat.eq_of_beq_eq_true h3] at h2
    exact key i hi h2
  · rw [Nat.eq_of_beq_eq_true h3] at h2
    have h4 := List.all_eq_true.1 hD p hp
    simp only [Bool.and_eq_true, Bool.not_eq_true'] at h4
    exact key p h4.1 h2
theorem dOk_next {D : List Nat} {i j : Nat} {listed : Array Bool} (hD : dOk ops D i listed = true) (hj : j ∉ D) : dOk ops D i (listed.setIfInBounds j true) = true := by
  refine List.all_eq_true.2 fun p hp => ?_
  have h1 := List.all_eq_true.1 hD p hp
  rw [getD_set_ne true (fun (e : j = p) => hj (by rw [e]; exact hp))]
  exact h1
theorem wpF_firstD {S0 : World → Prop} {i : Nat} {oi : Oper} {v : Value} (D : List Nat) (hi : ops[i]? = some oi) (hsel : ∀ (j : Nat) (o : Oper) cs b, ops[j]? = some o → o.op ≠ .select cs b) (hL : late.all (fun j => D.any (Nat.beq j ·)) = true) :
    ∀ (fuel : Nat) (listed : Array Bool) (a : Act) (S : World → Prop), dOk ops D i listed = true → Ext S0 S →
      (∀ j oj, ops[j]? = some oj → j ≠ i → listed.getD j true = false → (∀ e ∈ oj.after, Region.binds .any e = true → e.on ≠ i) → oi.apart ops oj = true) →
      i ∈ Region.ready .any ops listed → Tame P ops S0 oi v a →
      wpF P .any ops late R S0 fuel (listed.setIfInBounds i true) (a.put oi.dst v) S → wpF P .any ops late R S0 (fuel + 1) listed a S := by
  have hlate : ∀ j, j ∈ late → j ∈ D := fun j hj => by
    obtain ⟨p, hp, he⟩ := List.any_eq_true.1 (List.all_eq_true.1 hL j hj)
    rw [Nat.eq_of_beq_eq_true he]; exact hp
  intro fuel
  induction fuel with
  | zero =>
    intro listed a S hD hE _ hr hy H
    refine ⟨fun h => (by rw [h] at hr; cases hr), fun j hj w hS => ?_⟩
    by_cases hji : j = i
    · subst hji; exact hy.wpOp hi (hE.1 w hS) fun w' hb => ⟨S, .inr hE, hE.2 w w' hS hb, H⟩
    · have := ready_mono hj hji
      rw [H.1] at this
      cases this
  | succ fuel ih =>
    intro listed a S hD hE hfree hr hy H
    refine ⟨fun h => (by rw [h] at hr; cases hr), fun j hj w hS => ?_⟩
    by_cases hji : j = i
    · subst hji; exact hy.wpOp hi (hE.1 w hS) fun w' hb => ⟨S, .inr hE, hE.2 w w' hS hb, H⟩
    · have h1 := H.2 j (ready_mono hj hji) w hS
      obtain ⟨hjun, oj, hoj, hall⟩ := mem_ready.1 hj
      have hnot : ∀ e ∈ oj.after, Region.binds .any e = true → e.on ≠ i := fun e he hb heq => by
        have h1 := hall e he hb
        have h0 := (mem_ready.1 hr).1
        rw [heq] at h1
        rcases Nat.lt_or_ge i listed.size with h' | h'
        · simp [h'] at h0 h1; rw [h0] at h1; cases h1
        · simp [Array.getElem?_eq_none h'] at h1
      have hjD : j ∉ D := dOk_not hD (mem_ready.1 hr).1 hj
      have hjl : j ∉ late := fun hm => hjD (hlate j hm)
      have h2 := wpOp_putT hoj (hfree j oj hoj hji hjun hnot) (fun cs b => hsel i oi cs b hi) (fun cs b => hsel j oj cs b hoj) hy h1
      have hfree' : ∀ k ok, ops[k]? = some ok → k ≠ i → (listed.setIfInBounds j true).getD k true = false →
          (∀ e ∈ ok.after, Region.binds .any e = true → e.on ≠ i) → oi.apart ops ok = true := fun k ok hk hki hun hno => by
        refine hfree k ok hk hki ?_ hno
        by_cases hjk : j = k
        · subst hjk; exact hjun
        · rw [getD_set_ne true hjk] at hun; exact hun
      refine wpOp_mono (fun a' w' ⟨h3, S', hE', hS', h4⟩ => ⟨S', .inr (hE'.resolve_left hjl), hS', ih (listed.setIfInBounds j true) a' S' (dOk_next hD hjD) (hE'.resolve_left hjl) hfree' (ready_mono hr (Ne.symm hji)) h3 ?_⟩) h2
      rw [Array.setIfInBounds_comm _ _ hji]
      exact h4
theorem flow_takeD {i d : Nat} {op : Op} {ty : TypeId} {pos : String} {after : Array Edge} {fuel : Nat} {listed : Array Bool} (D : List Nat) (u : Value) (hi : ops[i]? = some ⟨some d, op, ty, pos, after, none⟩)
    (hs : Region.noSelect ops = true) (hf : Region.free .any ops listed i = true) (hr : (Region.ready .any ops listed).contains i = true) (hl : inFr n sl = true) (hL : late.all (fun j => D.any (Nat.beq j ·)) = true) (hlt : dOk ops D i listed = true) (hE : L0.Sublist L)
    (hy : Gives P (Hbl v L0) u (execOp (rho sl) ⟨some d, op, ty, pos, after, none⟩))
    (h : wpF P .any ops late R (Hbl v L0) fuel (listed.setIfInBounds i true) (fr n ((d, u) :: sl)) (Hbl v L)) : wpF P .any ops late R (Hbl v L0) (fuel + 1) listed (fr n sl) (Hbl v L) :=
  wpF_firstD D hi (Region.noSelect_spec hs) hL fuel listed _ _ hlt (Ext.of_sub hE) (Region.free_spec hi hf) (by simpa using hr) (.inl ⟨rfl, by rw [fr_eval n sl hl]; exact hy⟩) h
end
end Go.Proofs.YtialfoccalobpaaDoor
