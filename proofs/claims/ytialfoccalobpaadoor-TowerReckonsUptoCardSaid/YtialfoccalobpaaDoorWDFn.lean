/-
  Layer 5's reference: a struct of two slices.
-/
import Derived.Test.YtialfoccalobpaaDoorWDFc2
namespace Go.Proofs.YtialfoccalobpaaDoor
set_option linter.unusedSimpArgs false
set_option linter.unusedVariables false
open Go.RowKit
theorem oneCell_cells {u : Value} (h : u.oneCell' = true) : u.cells = #[u] := by cases u <;> first | rfl | cases h
theorem z_N : (Tryd.prog.info? 77).map (·.zero) = some (some (.agg #[.slice none 0 0, .slice none 0 0])) := by kernel_rfl
theorem hi_N : (Tryd.prog.info? 77).map (·.size) = some 2 := by kernel_rfl
section
variable {S : World → Prop} {l : List (Nat × Value)} {dst : Option Nat} {x y : Operand} {ty : TypeId} {pos : String} {after : Array Edge} {gd : Option (Nat × Bool)}
theorem gives_buildN (u u2 : Value) (hx : rho l x = u) (hy : rho l y = u2) (h1 : u.oneCell' = true) (h2 : u2.oneCell' = true) :
    Gives Tryd.prog S (.agg #[u, u2]) (execOp (rho l) ⟨dst, .build 77 #[(0, x), (1, y)], ty, pos, after, gd⟩) := gives_value _ fun w => by
  have e1 := oneCell_cells h1
  have e2 := oneCell_cells h2
  have h : Instr.fill ((#[(0, 1), (1, 1)] : Array (Nat × Nat))[·]?) (Value.agg #[.slice none 0 0, .slice none 0 0]).cells [(0, u), (1, u2)] = some #[u, u2] := by
    rw [show (Value.agg #[.slice none 0 0, .slice none 0 0]).cells = #[.slice none 0 0, .slice none 0 0] from rfl]
    simp [Instr.fill, e1, e2]
  have hrun := run_build_parts (P := Tryd.prog) 77 _ #[(0, 1), (1, 1)] _ Tryd.underlying77 z_N (fun _ => by kernel_rfl) #[(0, u), (1, u2)] #[u, u2] h w
  simp [execOp, hx, hy, hrun]
theorem gives_build0N : Gives Tryd.prog S (.agg #[.slice none 0 0, .slice none 0 0]) (execOp (rho l) ⟨dst, .build 77 #[], ty, pos, after, gd⟩) := gives_value _ fun w => by
  have h : (Instr.build 77 #[]).run Tryd.prog w = .ok (.agg #[.slice none 0 0, .slice none 0 0]) w := by kernel_rfl
  simp [execOp, h]
/-- A field that is a slice. -/
theorem gives_loadS {P : Program} {t e et : TypeId} (g o : Nat) (cs : Array Value) (u : Value) (hx : rho l x = .pointer (some ⟨g, o, none⟩)) (hB : ∀ w, S w → Blk w g e cs) (hu : cs[o]? = some u) (ht : P.underlying t = some (.slice et)) :
    Gives P S u (execOp (rho l) ⟨dst, .load t x, ty, pos, after, gd⟩) := fun w hS => by
  refine .inl ⟨w, ?_, Below.refl _ _⟩
  have hb := (hB w hS).cell o
  rw [hu] at hb
  simp [execOp, hx, Instr.loadAt, Instr.sureAddr, loadVar, isAgg, run_underlying ht, hb]
end
section
variable {P : Program} {ops : Array Oper} {late : List Nat} {R : Act → World → Prop} {v : World} {L L0 : List (Nat × TypeId × Array Value)} {n : Nat} {sl : List (Nat × Value)}
/-- append of a slice to one of one's own, of one-cell elements, as a step of a region that draws. -/
theorem F_append {i d fuel : Nat} {listed : Array Bool} {x y : Operand} {t ty e : TypeId} {pos : String} {after : Array Edge} (k g m cap m2 c2 bytes : Nat) (A2 : Option Addr) (z : Value) (news : List Value) (cs : Array Value)
    (hi : ops[i]? = some ⟨some d, .call { callee := .builtin .append, args := #[x, y], argTypes := #[t, t] }, ty, pos, after, none⟩) (hl : inFr n sl = true)
    (ht : P.underlying t = some (.slice e)) (hinfo : (P.info? e).map (fun i => (i.zero, i.size, i.bytes)) = some (some z, 1, bytes)) (hzs : z.cells.size = 1) (hx : rho sl x = .slice (some ⟨g, 0, none⟩) m cap) (hy : rho sl y = .slice A2 m2 c2)
    (hk : L[k]? = some (g, e, cs)) (hr : ∀ w, Hbl v L w → Reads w w.heap.size A2 m2 news) (h1 : ∀ u ∈ news, u.oneCell' = true) (hm : m ≤ cap) (hcs : cs.size = cap) (hcap : cap ≤ 9223372036854775807) (h63 : m + m2 ≤ 9223372036854775807) (hpos : 0 < m + m2) (hbytes : (m + m2) * bytes ≤ 140737488355328) (L' : List (Nat × TypeId × Array Value)) (hL : L.eraseIdx k = L') (hs : L0.Sublist L')
    (h : ∀ g' cap' cs', m + m2 ≤ cap' → cs'.size = cap' → cap' ≤ 9223372036854775807 → cs'.toList.take (m + m2) = cs.toList.take m ++ news → wpF P .any ops late R (Hbl v L0) fuel (listed.setIfInBounds i true) (fr n ((d, .slice (some ⟨g', 0, none⟩) (m + m2) cap') :: sl)) (Hbl v ((g', e, cs') :: L'))) :
    ∀ w, Hbl v L w → wpOp P ops (Nrm R) i (fun a' w' => ∃ S', (i ∈ late ∨ Ext (Hbl v L0) S') ∧ S' w' ∧ wpF P .any ops late R (Hbl v L0) fuel (listed.setIfInBounds i true) a' S') (fr n sl) w := fun w hS => by
  subst hL
  have hB := hS.blk k hk
  have hown : w.ownsRow v.heap.size e 1 (.slice (some ⟨g, 0, none⟩) m cap) m (cs.toList.take m) := hB.owns ((hS.2.1 _ (List.mem_of_getElem? hk)).2) hm hcs hcap
  obtain ⟨v', w', hrun, h2, h3, h4⟩ := run_append_reads (P := P) w v.heap.size t ty e z bytes ht hinfo hzs _ m _ hown w.heap.size A2 m2 c2 news (hr w hS) h1 h63 hbytes hS.1.size
  obtain ⟨g', cap', cs', rfl, hg', hb', hc1, hc2, hc3, hc4⟩ := owns_blk h2 hpos
  have hnd := hS.2.2
  have hmem : ∀ q ∈ L.eraseIdx k, q ∈ L ∧ q.1 ≠ g := fun q hq => by
    obtain ⟨j, hj, hjk, hjq⟩ := List.mem_eraseIdx_iff_getElem.1 hq
    refine ⟨hjq ▸ List.getElem_mem hj, fun e => hjk ?_⟩
    have e1 : (L.map (·.1))[j]? = (L.map (·.1))[k]? := by
      rw [List.getElem?_map, List.getElem?_map, hk, List.getElem?_eq_getElem hj, hjq]; simp [e]
    exact (List.getElem?_inj (by simpa using hj) hnd).1 e1
  have hnew : g' = g ∨ g' = w.heap.size := by
    rcases h4 with e | e
    · left; simpa [Value.ownBlock] using e
    · right; simpa [Value.ownBlock] using e
  refine wpOp_run (w' := w') hi rfl (.inl (by rw [fr_eval n sl hl]; simp [execOp, resolve, invoke, builtin, hx, hy, hrun])) ⟨_, .inr (Ext.of_sub (.cons _ hs)), ?_, h g' cap' cs' hc1 hc2 hc4 hc3⟩
  refine ⟨hS.1.grown h3 hS.1.size (fun i hi => by cases hi; exact (hS.2.1 _ (List.mem_of_getElem? hk)).2), fun q hq => ?_, ?_⟩
  · rcases List.mem_cons.1 hq with rfl | hq
    · exact ⟨hb', hg'⟩
    · obtain ⟨h5, h6⟩ := hmem q hq
      exact ⟨(hS.2.1 q h5).1.grown h3 (by simp [Value.ownBlock]; exact h6), (hS.2.1 q h5).2⟩
  · simp only [List.map_cons, List.nodup_cons]
    refine ⟨fun hm => ?_, ((List.eraseIdx_sublist L k).map _).nodup hnd⟩
    obtain ⟨q, hq, he⟩ := List.mem_map.1 hm
    obtain ⟨h5, h6⟩ := hmem q hq
    rcases hnew with e | e
    · exact h6 (he.trans e)
    · have := (hS.2.1 q h5).1.lt
      omega
end
/-- Blocks that a call made, beside those that were there. -/
theorem Hbl.join {v w w' : World} {L M : List (Nat × TypeId × Array Value)} (h : Hbl v L w) (h2 : Hbl w M w') : Hbl v (M ++ L) w' := by
  refine ⟨h.1.trans (h2.1.mono h.1.size), fun q hq => ?_, ?_⟩
  · rcases List.mem_append.1 hq with hq | hq
    · exact ⟨(h2.2.1 q hq).1, by have := (h2.2.1 q hq).2; have := h.1.size; omega⟩
    · exact ⟨(h.2.1 q hq).1.keep h2.1, (h.2.1 q hq).2⟩
  · rw [List.map_append, List.nodup_append]
    refine ⟨h2.2.2, h.2.2, fun a ha b hb e => ?_⟩
    obtain ⟨q, hq, rfl⟩ := List.mem_map.1 ha
    obtain ⟨r, hr, rfl⟩ := List.mem_map.1 hb
    have h3 := (h2.2.1 q hq).2
    have h4 := (h.2.1 r hr).1.lt
    omega
end Go.Proofs.YtialfoccalobpaaDoor
