/-
  The walk of numbers made of a text: what it wants.
-/
import Derived.Test.YtialfoccalobpaaDoorWCNb
namespace Go.Proofs.YtialfoccalobpaaDoor
set_option linter.unusedSimpArgs false
set_option linter.unusedVariables false
open Go.RowKit
theorem calls_frM3 {P : Program} {f : FuncId} {fn : Func} {c : Code} {w : World} {R : Ending → World → Prop} {n m : Nat} (hf : P.funcs[f]? = some fn) (hb : fn.body = some c) (hn : fn.ntmps = n) (h1 : Nat.ble 3 n = true) {a b d : Value} (h : c.wp P (bodyPostM Fence.wide m P fn R) (fr n [(2, d), (1, b), (0, a)]) w) : Calls P f #[a, b, d] w R := by
  have hle := Nat.le_of_ble_eq_true h1
  refine callsIn_wide.1 (callsIn_of_wp_marks (F := Fence.wide) (n := m) hf hb trivial (wpIn_wide.2 ?_) rfl)
  rw [hn]
  have e := ent_put n [] a (by simp; omega)
  rw [List.length_nil, ent_nil] at e
  have e2 := ent_put n [a] b (by simp; omega)
  have e3 := ent_put n [a, b] d (by simp; omega)
  have e4 : fr n [(2, d), (1, b), (0, a)] = { tmps := #[a, b, d] ++ Array.replicate (n - (#[a, b, d] : Array Value).size) undef, defers := [] } := by
    show ((fr n [(0, a)]).put (some 1) b).put (some 2) d = _
    rw [show fr n [(0, a)] = (fr n []).put (some 0) a from rfl, e]
    refine (congrArg (fun x : Act => x.put (some 2) d) e2).trans e3
  rw [← e4]; exact h
section
variable {P : Program} {ops : Array Oper} {R : Act → World → Prop} {Q : Exit → Act → World → Prop} {ro : Option Nat} {m : Nat}
end
/-- What is known of the call's own blocks abides what is done to no cells. -/
theorem Hbl.own {v W W' : World} {L : List (Nat × TypeId × Array Value)} {row : Option Nat} {B : Nat} (h : Hbl v L W) (hv : v.heap.size ≤ B) (hg : W.grownBy W' row) (hr : ∀ r, row = some r → B ≤ r ∧ ∃ o : Obj, W.heap[r]? = some o ∧ o.isCells = false) : Hbl v L W' := by
  refine ⟨h.1.grown hg h.1.size (fun k e => Nat.le_trans hv (hr k e).1), fun p hp => ?_, h.2.2⟩
  obtain ⟨hb, hp2⟩ := h.2.1 p hp
  refine ⟨hb.grown hg (fun e => ?_), hp2⟩
  obtain ⟨_, o, ho, hc⟩ := hr _ e.symm
  have h1 : W.heap[p.1]? = some (.cells p.2.2 p.2.1 (0, 0)) := hb
  rw [h1] at ho
  cases ho
  cases hc
/-- A block of cap places of n cells begins with these. -/
structure Rso (n : Nat) {E : Type} (c : E → Array Value) (cs : Array Value) (cap m : Nat) (qs : List E) : Prop where
  size : cs.size = cap * n
  le : m ≤ cap
  max : cap ≤ 9223372036854775807
  len : qs.length = m
  tk : cs.toList.take (m * n) = (joinA (qs.map c)).toList
theorem joinR_append : ∀ (a b : List (Array Value)), joinA (a ++ b) = joinA a ++ joinA b
  | [], b => by simp [joinA]
  | x :: a, b => by rw [List.cons_append, joinA_cons, joinR_append a b, joinA_cons, Array.append_assoc]
theorem sl_joinR (s : Nat) : ∀ (ch : List (Array Value)) (hs : ∀ a ∈ ch, a.size = s) (i : Nat) (a : Array Value), ch[i]? = some a → ∀ o, i * s = o → Sl (joinA ch) o a
  | [], _, i, a, h, o, _ => by simp at h
  | b :: l, hs, 0, a, h, o, ho => by
    simp at h ho
    subst h ho
    rw [joinA_cons]
    exact Sl.left (Sl.refl _)
  | b :: l, hs, i + 1, a, h, o, ho => by
    have ih := sl_joinR s l (fun b hb => hs b (List.mem_cons_of_mem _ hb)) i a (by simpa using h) (i * s) rfl
    rw [joinA_cons]
    intro j v hv
    have := ih j v hv
    rw [Array.getElem?_append_right (by rw [hs b (List.mem_cons_self ..)]; rw [← ho, Nat.succ_mul]; omega), hs b (List.mem_cons_self ..), ← ho, Nat.succ_mul, show i * s + s + j - s = i * s + j by omega]
    exact this
section
variable {n : Nat} {E : Type} {c : E → Array Value} {cs cs' : Array Value} {cap cap' m m2 : Nat} {qs rs : List E}
theorem Rso.push (h : Rso n c cs cap m qs) (hr : rs.length = m2) (h1 : m + m2 ≤ cap') (h2 : cs'.size = cap' * n) (h3 : cap' ≤ 9223372036854775807)
    (h4 : cs'.toList.take ((m + m2) * n) = cs.toList.take (m * n) ++ (joinA (rs.map c)).toList) : Rso n c cs' cap' (m + m2) (qs ++ rs) :=
  ⟨h2, h1, h3, by rw [List.length_append, h.len, hr], by rw [h4, h.tk, List.map_append, joinR_append, Array.toList_append]⟩
theorem Rso.sl (h : Rso n c cs cap m qs) (hc : ∀ p, (c p).size = n) {j : Nat} {q : E} (hj : qs[j]? = some q) : Sl cs (j * n) (c q) := fun k v hv => by
  have hs := sl_joinR n (qs.map c) (fun a ha => by
    obtain ⟨p, -, rfl⟩ := List.mem_map.1 ha
    exact hc p) j (c q) (by rw [List.getElem?_map, hj]; rfl) (j * n) rfl k v hv
  rw [← Array.getElem?_toList, ← h.tk, List.getElem?_take] at hs
  split at hs
  · rw [← Array.getElem?_toList]; exact hs
  · cases hs
theorem Rso.empty (hs : cs.size = cap * n) (hm : cap ≤ 9223372036854775807) : Rso n c cs cap 0 [] := ⟨hs, Nat.zero_le _, hm, rfl, by simp [joinA]⟩
end
/-- A part of what numbers a block holds. -/
theorem Nms.part {k : IntKind} {w : World} {g cap n : Nat} {e : TypeId} {cs : Array Value} {l : List Int} (h : Nms k cs cap n l) (hB : Blk w g e cs) (o m : Nat) (hm : o + m ≤ n) : Reads w w.heap.size (some ⟨g, o, none⟩) m (((l.drop o).take m).map (Value.int k)) := by
  have h1 := hB.reads hB.lt o m (by have := h.le; rw [h.size]; omega)
  have e : (cs.toList.drop o).take m = ((l.drop o).take m).map (Value.int k) := by
    have hw := h.words
    have e1 : (cs.toList.drop o).take m = ((cs.toList.take n).drop o).take m := by
      rw [List.drop_take, List.take_take, Nat.min_eq_left (by omega)]
    rw [e1, hw, List.map_take, List.map_drop]
  rwa [e] at h1
theorem oct_part {l : List Int} (h : Oct l) (o m : Nat) : Oct ((l.drop o).take m) := fun b hb => h b (List.mem_of_mem_drop (List.mem_of_mem_take hb))
theorem oct_app {a b : List Int} (h : Oct a) (k : Oct b) : Oct (a ++ b) := fun x hx => (List.mem_append.1 hx).elim (h x) (k x)
theorem wb_oct (x : Int) : ∀ k, Oct (wb x k)
  | 0 => fun b hb => by simp [wb] at hb
  | k + 1 => by
    unfold wb
    refine oct_app (wb_oct x k) (fun b hb => ?_)
    simp only [List.mem_singleton] at hb
    subst hb
    omega
theorem bw4_oct (d : List Int) : ∀ k, Oct (bw4 d k)
  | 0 => fun b hb => by simp [bw4] at hb
  | k + 1 => oct_app (bw4_oct d k) (wb_oct _ 8)
theorem outW_oct (W T : List Int) : ∀ k, Oct (outW W T k)
  | 0 => fun b hb => by simp [outW] at hb
  | k + 1 => oct_app (outW_oct W T k) (bw4_oct _ 4)
theorem expandL_oct (msg tag : List Int) (n : Nat) : Oct (expandL msg tag n) := fun b hb => outW_oct _ _ _ b (List.mem_of_mem_take hb)
/-- The number that 128 bytes make. -/
def elN (l : List Int) (k : Nat) : F2 := ⟨Fp.n (num ((l.drop (128 * k)).take 64)), Fp.n (num ((l.drop (128 * k + 64)).take 64))⟩
def numsL (msg tag : List Int) (cn : Nat) : List F2 := (List.range cn).map (elN (expandL msg tag (128 * cn)))
section
variable {ops : Array Oper} {late : List Nat} {R : Act → World → Prop} {v : World} {L L0 : List (Nat × TypeId × Array Value)} {n : Nat} {sl : List (Nat × Value)} {P : Program}
theorem F_buildE {i d : Nat} {fuel : Nat} {listed : Array Bool} {gd : Option (Nat × Bool)} {t ty e : TypeId} {pos : String} {after : Array Edge} {parts : Array (Nat × Operand)} (m s : Nat) (z : Array Value) (ps : List (Nat × Array Value)) (out : Array Value)
    (hi : ops[i]? = some ⟨some d, .buildSlice t m parts, ty, pos, after, gd⟩) (hl : inFr n sl = true) (hw : Want ops n sl gd) (ht : P.underlying t = some (.slice e)) (hinfo : (P.info? e).map (fun i => (i.zero, i.size)) = some (some (.agg z), s))
    (hzz : (Array.range (m * s)).map (z[· % z.size]!) = joinA (List.replicate m z)) (hzs : z.size = s) (hb : m * s ≤ 16777216) (h0 : 0 < m * s) (hf : fits (List.replicate m s) ps)
    (he : (parts.toList.map fun x => (x.1, rho sl x.2)) = ps.map fun p => (p.1, Value.agg p.2)) (ho : joinA (putsA (List.replicate m z) ps) = out)
    (hs : L0.Sublist L) (h : ∀ g, wpF P .any ops late R (Hbl v L0) fuel (listed.setIfInBounds i true) (fr n ((d, .slice (some ⟨g, 0, none⟩) m m) :: sl)) (Hbl v ((g, e, out) :: L))) :
    ∀ w, Hbl v L w → wpOp P ops (Nrm R) i (fun a' w' => ∃ S', (i ∈ late ∨ Ext (Hbl v L0) S') ∧ S' w' ∧ wpF P .any ops late R (Hbl v L0) fuel (listed.setIfInBounds i true) a' S') (fr n sl) w := fun w hS => by
  obtain ⟨ie, hie, hz⟩ := Option.map_eq_some_iff.1 hinfo
  simp only [Prod.mk.injEq] at hz
  have hfill := fill_puts (fun i => some (i * s, s)) (List.replicate m s) (fun i hi => by
    simp only [List.take_replicate, List.sum_replicate_nat, List.getElem_replicate]
    rw [Nat.min_eq_left (by simpa using Nat.le_of_lt hi)]) ps (List.replicate m z) (by simp [hzs]) hf
  have he' : (parts.map fun x => (x.1, rho sl x.2)).toList = ps.map fun p => (p.1, Value.agg p.2) := by rw [← he]; simp
  rw [← hzz, ← he', ho] at hfill
  have hrun : (Instr.buildSlice t m (parts.map fun x => (x.1, rho sl x.2))).run P w = .ok (.slice (some ⟨w.heap.size, 0, none⟩) m m) (w.alloc (.cells out e)) := by
    refine run_buildSlice w t e m _ out ie (.agg z) ht hie hz.1 (by rw [hz.2]; omega) (by rw [hz.2]; omega) ?_
    rw [hz.2]
    exact hfill
  exact wpOp_runG (w' := w.alloc (.cells out e)) hi (hw ..) (by rw [fr_eval n sl hl]; simp only [execOp, Sem.run_bind]; rw [hrun]; rfl) ⟨_, .inr (Ext.of_sub (.cons _ hs)), hS.alloc e out, h _⟩
/-- What an append leaves: the run, the block with the row, and that the others stay. -/
theorem append_run2 {x y : Operand} {t ty e : TypeId} {w : World} (k k2 g g2 m cap q c2 s bytes : Nat) (z : Value) (cs cs2 : Array Value) (news : List Value)
    (ht : P.underlying t = some (.slice e)) (hinfo : (P.info? e).map (fun i => (i.zero, i.size, i.bytes)) = some (some z, s, bytes)) (hzs : z.cells.size = s) (hs0 : 0 < s)
    (hk : L[k]? = some (g, e, cs)) (hk2 : L[k2]? = some (g2, e, cs2)) (hn2 : cs2.toList.take (q * s) = news) (hq : q * s ≤ cs2.size) (h1 : ∀ u ∈ news, u.oneCell' = true)
    (hm : m ≤ cap) (hcs : cs.size = cap * s) (hcap : cap ≤ 9223372036854775807) (h63 : m + q ≤ 9223372036854775807) (hbytes : (m + q) * bytes ≤ 140737488355328) (hS : Hbl v L w) :
    ∃ w' g' cap' cs', (Builtin.append_ #[t, t] ty #[.slice (some ⟨g, 0, none⟩) m cap, .slice (some ⟨g2, 0, none⟩) q c2]).run P w = .ok (.slice (some ⟨g', 0, none⟩) (m + q) cap') w' ∧
      m + q ≤ cap' ∧ cs'.size = cap' * s ∧ cap' ≤ 9223372036854775807 ∧ cs'.toList.take ((m + q) * s) = cs.toList.take (m * s) ++ news ∧ Hbl v ((g', e, cs') :: L.eraseIdx k) w' ∧ w.grownBy w' (some g) := by
  obtain ⟨i, hi, hz⟩ := Option.map_eq_some_iff.1 hinfo
  simp only [Prod.mk.injEq] at hz
  obtain ⟨hz0, hz1, hz2⟩ := hz
  have hB := hS.blk k hk
  have hB2 := hS.blk k2 hk2
  have hown : w.ownsRow v.heap.size e s (.slice (some ⟨g, 0, none⟩) m cap) m (cs.toList.take (m * s)) := hB.ownsN ((hS.2.1 _ (List.mem_of_getElem? hk)).2) hm hcs hcap
  have hcells : ∀ (j : Nat) u, news[j]? = some u → w.cell? ((⟨g2, 0, none⟩ : Addr).add j) = some u := fun j u hu => by
    rw [add_plain, Nat.zero_add, hB2.cell j]
    rw [← hn2, List.getElem?_take] at hu
    split at hu
    · simpa using hu
    · cases hu
  have hlen : news.length = q * s := by rw [← hn2]; simp; omega
  obtain ⟨v', w', hrun, h2, h3, h4, h5⟩ := run_append_own_at (P := P) w v.heap.size t ty e i z s bytes ht hi hz0 hz1 hz2 hzs hs0 _ m _ hown ⟨g2, 0, none⟩ q c2 news hlen hcells h1 (by simp only [maxLen]; omega) hbytes hS.1.size
  obtain ⟨g', cap', cs', rfl, hg', hb', hc1, hc2, hc3, hc4⟩ := owns_blkN h2 (fun e => by
    have := (h4.1 e).1
    cases this)
  have hnd := hS.2.2
  have hmem : ∀ p ∈ L.eraseIdx k, p ∈ L ∧ p.1 ≠ g := fun p hp => by
    obtain ⟨j, hj, hjk, hjq⟩ := List.mem_eraseIdx_iff_getElem.1 hp
    refine ⟨hjq ▸ List.getElem_mem hj, fun e => hjk ?_⟩
    have e1 : (L.map (·.1))[j]? = (L.map (·.1))[k]? := by
      rw [List.getElem?_map, List.getElem?_map, hk, List.getElem?_eq_getElem hj, hjq]; simp [e]
    exact (List.getElem?_inj (by simpa using hj) hnd).1 e1
  have hnew : g' = g ∨ g' = w.heap.size := by
    rcases h5 with e | e
    · left; simpa [Value.ownBlock] using e
    · right; simpa [Value.ownBlock] using e
  refine ⟨w', g', cap', cs', hrun, hc1, hc2, hc4, hc3, ⟨hS.1.grown h3 hS.1.size (fun i hi => by cases hi; exact (hS.2.1 _ (List.mem_of_getElem? hk)).2), fun p hp => ?_, ?_⟩, h3⟩
  · rcases List.mem_cons.1 hp with rfl | hp
    · exact ⟨hb', hg'⟩
    · obtain ⟨h6, h7⟩ := hmem p hp
      exact ⟨(hS.2.1 p h6).1.grown h3 (by simp [Value.ownBlock]; exact h7), (hS.2.1 p h6).2⟩
  · simp only [List.map_cons, List.nodup_cons]
    refine ⟨fun hm => ?_, ((List.eraseIdx_sublist L k).map _).nodup hnd⟩
    obtain ⟨p, hp, he⟩ := List.mem_map.1 hm
    obtain ⟨h6, h7⟩ := hmem p hp
    rcases hnew with e | e
    · exact h7 (he.trans e)
    · have := (hS.2.1 p h6).1.lt
      omega

theorem L_makeE {i d : Nat} {il : List Nat} {x y : Operand} {t ty e : TypeId} {pos : String} {after : Array Edge} {k1 k2 : IntKind} (c s : Nat) (z : Value) (bytes : Nat)
    (hi : ops[i]? = some ⟨some d, .makeSlice t x y, ty, pos, after, none⟩) (hl : inFr n sl = true) (ht : P.underlying t = some (.slice e)) (hinfo : (P.info? e).map (fun i => (i.zero, i.size, i.bytes)) = some (some z, s, bytes)) (hb : bytes ≤ 1000)
    (hx : rho sl x = .int k1 0) (hy : rho sl y = .int k2 (c : Int)) (hc : c ≤ 1000000000)
    (h : ∀ g cs, cs.size = c * s → wpL P ops R il (fr n ((d, .slice (some ⟨g, 0, none⟩) 0 c) :: sl)) (Hbl v ((g, e, cs) :: L))) : wpL P ops R (i :: il) (fr n sl) (Hbl v L) := fun w hS => by
  obtain ⟨ie, hie, hz⟩ := Option.map_eq_some_iff.1 hinfo
  simp only [Prod.mk.injEq] at hz
  obtain ⟨hz0, hz1, hz2⟩ := hz
  have hbb : (ie.bytes : Int) * (c : Int) ≤ 281474976710656 := by
    rw [hz2]
    have h1 : bytes * c ≤ 1000 * 1000000000 := Nat.mul_le_mul hb hc
    have h2 : ((bytes * c : Nat) : Int) ≤ ((1000 * 1000000000 : Nat) : Int) := Int.ofNat_le.2 h1
    rw [Int.natCast_mul] at h2
    omega
  have hrun := run_make (P := P) w t e ie z ht hie hz0 k1 k2 0 (c : Int) (by omega) (by omega) hbb (by omega)
  simp only [Int.toNat_natCast, hz1] at hrun
  refine wpOp_run (w' := w.alloc (.cells (madeCells z.cells (c * s)) e)) hi rfl (.inl (by rw [fr_eval n sl hl]; simp only [execOp, hx, hy, Sem.run_bind]; rw [hrun]; rfl)) ⟨_, Hbl.stays v _, hS.alloc e _, h _ _ (by simp [madeCells])⟩
end
theorem zs_e2 : (Tryd.prog.info? 37).map (fun i => (i.zero, i.size)) = some (some (.agg (c2 0)), 12) := by rw [c2_zero]; kernel_rfl
theorem info_e2 : (Tryd.prog.info? 37).map (fun i => (i.zero, i.size, i.bytes)) = some (some (.agg (c2 0)), 12, 96) := by rw [c2_zero]; kernel_rfl
theorem zr_e2_1 : (Array.range (1 * 12)).map ((c2 0)[· % (c2 0).size]!) = joinA (List.replicate 1 (c2 0)) := by rw [c2_zero]; kernel_rfl
theorem z_es : (Tryd.prog.info? 24).map (·.zero) = some (some (.slice none 0 0)) := by kernel_rfl
theorem sz_es : (Tryd.prog.info? 24).map (·.size) = some 1 := by kernel_rfl
theorem c2_ones (p : F2) : ∀ u ∈ (joinA [c2 p]).toList, u.oneCell' = true := fun u hu => by
  have := c2_one p
  refine Array.all_eq_true_iff_forall_mem.1 this u ?_
  simpa [joinA] using hu
theorem gives_slice_hi {P : Program} {S : World → Prop} {l : List (Nat × Value)} {dst : Option Nat} {x y : Operand} {t ty : TypeId} {pos : String} {after : Array Edge} {gd : Option (Nat × Bool)} {e : TypeId} {k : IntKind} (g o m c j : Nat) (i : Int) (hx : rho l x = .slice (some ⟨g, o, none⟩) m c) (hy : rho l y = .int k i) (ht : P.underlying t = some (.slice e)) (hs : (P.info? e).map (·.size) = some 1) (h0 : i = (j : Int)) (h1 : j ≤ c) :
    Gives P S (.slice (some ⟨g, o, none⟩) j c) (execOp (rho l) ⟨dst, .slice t x none (some y) none, ty, pos, after, gd⟩) := gives_value _ fun w => by
  subst h0
  obtain ⟨ie, he, hz⟩ := Option.map_eq_some_iff.1 hs
  simp [execOp, hx, hy, Instr.sliceAt, Instr.slice, Instr.sliceBounds, Instr.sliceBound, run_underlying ht, asIntOf, sizeOf, typeInfo, he, hz, h1, add_plain]
/-- What the iterator does, round by round. -/
theorem chunk_stops (m N gS gN gA cap : Nat) (w : World) (hcap : 128 * N ≤ cap) (hN : N ≤ 1000) (hgS : gS < w.heap.size) (hgN : gN < w.heap.size) (hcS : w.cell? ⟨gS, 0, none⟩ = some (.slice (some ⟨gA, 0, none⟩) (128 * N) cap)) (hcN : w.cell? ⟨gN, 0, none⟩ = some (.int .i64 128)) :
    SeqStopsK Fence.wide (m + 1) Tryd.prog 110 #[.pointer (some ⟨gS, 0, none⟩), .pointer (some ⟨gN, 0, none⟩)] (fun x : Fin N => #[.slice (some ⟨gA, 128 * x.1, none⟩) 128 128]) (KpB gS gN) (fun xs => xs.map (·.1) = List.range N) (fun _ => True) N w :=
  fun l J Jx W hW hJ hJx hY h0 => callsIn_at (ro := none) ((chunk_walk m l N gS gN gA cap W.heap.size (fun ks W => ∃ xs : List (Fin N), xs.map (·.1) = ks ∧ J xs W) (fun ks W => ∃ xs : List (Fin N), xs.map (·.1) = ks ∧ Jx xs W)
      (fun ks A B row hs hg hr => by obtain ⟨xs, e, hj⟩ := hs; exact ⟨xs, e, hJ xs A B row hj hg hr⟩) (fun ks A B row hs hg hr => by obtain ⟨xs, e, hj⟩ := hs; exact ⟨xs, e, hJx xs A B row hj hg hr⟩) hcap hN
      (fun pre x W1 hs hlt hx => by
        obtain ⟨xs, e, hj⟩ := hs
        have hxl : xs.length < N := by rw [← e] at hlt; simpa using hlt
        obtain ⟨fn, tmps, assign, body, hrun, hR⟩ := hY xs ⟨x, by rw [hx]; exact hlt⟩ W1 hj hxl
        refine ⟨fn, tmps, assign, body, hrun, hR.mono fun e' W' h => ?_⟩
        rcases h with ⟨h1, h2, h3⟩ | ⟨h1, h2⟩
        · exact .inl ⟨h1, ⟨_, by simp [e], h2⟩, h3⟩
        · exact .inr ⟨h1, ⟨_, by simp [e], h2⟩⟩)
      W (Nat.lt_of_lt_of_le hgS hW.size) (Nat.lt_of_lt_of_le hgN hW.size) ((hW.cell (p := ⟨gS, 0, none⟩) hgS).trans hcS) ((hW.cell (p := ⟨gN, 0, none⟩) hgN).trans hcN) ⟨[], rfl, h0⟩).mono fun e W' ⟨h1, h2⟩ => ⟨h1, by
        rcases h2 with ⟨ks, hk, xs, e, hj⟩ | ⟨ks, _, xs, e, hj⟩
        · exact .inl ⟨xs, e.trans hk, hj⟩
        · exact .inr ⟨xs, trivial, hj⟩⟩)
theorem kpB_put {gS gN : Nat} {w : World} (hgS : gS < w.heap.size) (hgN : gN < w.heap.size) (W : World) (l : Nat) (o o' : Obj) (hl : w.heap.size ≤ l) (h : W.heap[l]? = some o) (_ : o.isCells = false) (_ : o.isWalk = false) : KpB gS gN W (W.putObj l o') :=
  have hg := grownBy_putObj' W l o'
  ⟨hg.size, World.cell?_of_block (hg.block gS (by have := (Array.getElem?_eq_some_iff.1 h).1; omega) (fun e => by cases e; omega)), World.cell?_of_block (hg.block gN (by have := (Array.getElem?_eq_some_iff.1 h).1; omega) (fun e => by cases e; omega))⟩
/-- Two blocks were written: what is no cells lies as it lay. -/
theorem keeps_two {v1 w w' w3 : World} {gp g3 : Nat} {tp t3 : TypeId} {cp c3 : Array Value} (hb : Below v1.heap.size v1 w) (h7 : w.grownBy w' (some gp)) (h8 : w'.grownBy w3 (some g3)) (hp : Blk v1 gp tp cp) (h3 : Blk v1 g3 t3 c3) :
    KeepsOthers v1 w3 ∧ ∀ g, g < v1.heap.size → g ≠ gp → g ≠ g3 → w3.cell? ⟨g, 0, none⟩ = v1.cell? ⟨g, 0, none⟩ := by
  have key : ∀ k, k < v1.heap.size → k ≠ gp → k ≠ g3 → w3.heap[k]? = v1.heap[k]? := fun k hk h1 h2 =>
    (h8.block k (by have := hb.size; have := h7.size; omega) (fun e => h2 (Option.some.inj e))).trans ((h7.block k (by have := hb.size; omega) (fun e => h1 (Option.some.inj e))).trans (hb.block k hk))
  refine ⟨⟨Nat.le_trans hb.size (Nat.le_trans h7.size h8.size), fun k o hk ho => ?_⟩, fun g hg h1 h2 => World.cell?_of_block (key g hg h1 h2)⟩
  have hlt := (Array.getElem?_eq_some_iff.1 hk).1
  rw [key k hlt ?_ ?_]
  · exact hk
  · rintro rfl
    rw [show v1.heap[k]? = _ from hp] at hk
    cases hk
    cases ho
  · rintro rfl
    rw [show v1.heap[k]? = _ from h3] at hk
    cases hk
    cases ho
section
variable {P : Program} {ops : Array Oper} {R : Act → World → Prop} {n : Nat} {sl : List (Nat × Value)} {K : Act → World → Prop} {w : World}
theorem op_store1 {i : Nat} {x y : Operand} {t ty : TypeId} {pos : String} {after : Array Edge} (g o : Nat) (e : TypeId) (old : Array Value) (u : Value) (hi : ops[i]? = some ⟨none, .store t x y, ty, pos, after, none⟩) (hl : inFr n sl = true)
    (hx : rho sl x = .pointer (some ⟨g, o, none⟩)) (hy : rho sl y = u) (h1 : u.oneCell' = true) (hB : Blk w g e old) (hsz : (P.info? t).map (·.size) = some 1) (ho : o < old.size)
    (h : ∀ w', Blk w' g e (old.setIfInBounds o u) → w.grownBy w' (some g) → K (fr n sl) w') : wpOp P ops (Nrm R) i K (fr n sl) w := by
  obtain ⟨w', hr, hb, hg⟩ := run_store1_exec (P := P) (dst := none) (ty := ty) (pos := pos) (after := after) (gd := none) g o e old u hx hy h1 hB hsz ho
  exact wpOp_run hi rfl (.inr ⟨rfl, by rw [fr_eval n sl hl]; exact hr⟩) (h w' hb hg)
theorem op_append {i d : Nat} {x y : Operand} {t ty : TypeId} {pos : String} {after : Array Edge} {v1 v2 u : Value} {w' : World} (hi : ops[i]? = some ⟨some d, .call { callee := .builtin .append, args := #[x, y], argTypes := #[t, t] }, ty, pos, after, none⟩) (hl : inFr n sl = true)
    (hx : rho sl x = v1) (hy : rho sl y = v2) (hrun : (Builtin.append_ #[t, t] ty #[v1, v2]).run P w = .ok u w') (h : K (fr n ((d, u) :: sl)) w') : wpOp P ops (Nrm R) i K (fr n sl) w :=
  wpOp_run (w' := w') hi rfl (.inl (by rw [fr_eval n sl hl]; simp [execOp, resolve, invoke, builtin, hx, hy, hrun])) h
theorem op_any {i : Nat} {o : Oper} {a : Act} {u : Value} (ds : List Deferred) (ha : a = { fr n sl with defers := ds }) (hi : ops[i]? = some o) (hg : o.guard = none) (hl : inFr n sl = true) {Q : Exit → Act → World → Prop}
    (hrun : (execOp (rho sl) o).run P w = .ok (.value u) w) (h : K (a.put o.dst u) w) : wpOp P ops Q i K a w := by
  refine wpOp_runG hi ?_ ?_ h
  · unfold Region.wanted; rw [hg]
  · rw [ha, show ({ fr n sl with defers := ds } : Act).eval = (fr n sl).eval from rfl, fr_eval n sl hl]; exact hrun
end
section
variable {P : Program} {ops : Array Oper} {R : Act → World → Prop} {n : Nat} {sl : List (Nat × Value)} {K : Act → World → Prop} {w : World}
theorem op_any0 {i : Nat} {o : Oper} {u : Value} (n : Nat) (sl : List (Nat × Value)) (hi : ops[i]? = some o) (hg : o.guard = none) (hl : inFr n sl = true) {Q : Exit → Act → World → Prop}
    (hrun : (execOp (rho sl) o).run P w = .ok (.value u) w) (h : K ((fr n sl).put o.dst u) w) : wpOp P ops Q i K (fr n sl) w := by
  refine wpOp_runG hi ?_ ?_ h
  · unfold Region.wanted; rw [hg]
  · rw [fr_eval n sl hl]; exact hrun
theorem op_anyD {i d : Nat} {op : Op} {ty : TypeId} {pos : String} {after : Array Edge} {u : Value} (n : Nat) (sl : List (Nat × Value)) (ds : List Deferred) (hi : ops[i]? = some ⟨some d, op, ty, pos, after, none⟩) (hl : inFr n sl = true) {Q : Exit → Act → World → Prop}
    (hrun : (execOp (rho sl) ⟨some d, op, ty, pos, after, none⟩).run P w = .ok (.value u) w) (h : K { fr n ((d, u) :: sl) with defers := ds } w) : wpOp P ops Q i K { fr n sl with defers := ds } w :=
  op_any ds rfl hi rfl hl hrun h
end
theorem round_act (n d : Nat) (e : Value) (sl : List (Nat × Value)) : ({ tmps := ((#[d] : Array Nat).zip #[e]).foldl (fun t (p, v) => t.setIfInBounds p v) (fr n sl).tmps, defers := [] } : Act) = fr n ((d, e) :: sl) := by
  show _ = (fr n sl).put (some d) e
  simp [Act.put, fr_defers]
theorem load_run {P : Program} {w : World} {l : List (Nat × Value)} {dst : Option Nat} {x : Operand} {t et ty : TypeId} {pos : String} {after : Array Edge} {gd : Option (Nat × Bool)} (p : Addr) (u : Value) (hx : rho l x = .pointer (some p)) (hB : w.cell? p = some u) (ht : P.underlying t = some (.slice et)) :
    (execOp (rho l) ⟨dst, .load t x, ty, pos, after, gd⟩).run P w = .ok (.value u) w := by
  simp [execOp, hx, Instr.loadAt, Instr.sureAddr, loadVar, isAgg, run_underlying ht, hB]
end Go.Proofs.YtialfoccalobpaaDoor
