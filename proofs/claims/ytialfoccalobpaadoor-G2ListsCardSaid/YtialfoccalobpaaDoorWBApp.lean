/-
  append onto slices of the call's own whose elements take several cells.
-/
import Derived.Test.YtialfoccalobpaaDoorWBR3Z
namespace Go.Proofs.YtialfoccalobpaaDoor
set_option linter.unusedSimpArgs false
set_option linter.unusedVariables false
open Go.RowKit
theorem Blk.ownsN {w : World} {g base n cap s : Nat} {e : TypeId} {cs : Array Value} (h : Blk w g e cs) (hb : base ≤ g) (hn : n ≤ cap) (hs : cs.size = cap * s) (hm : cap ≤ 9223372036854775807) :
    w.ownsRow base e s (.slice (some ⟨g, 0, none⟩) n cap) n (cs.toList.take (n * s)) :=
  ⟨by rw [List.length_take, Array.length_toList, hs]; exact Nat.min_eq_left (Nat.mul_le_mul_right s hn), .inr ⟨g, cap, cs, rfl, hb, h, hn, by simp only [maxLen]; omega, hs, rfl⟩⟩
theorem owns_blkN {w : World} {base n s : Nat} {e : TypeId} {v : Value} {xs : List Value} (h : w.ownsRow base e s v n xs) (hn : v ≠ .slice none 0 0) :
    ∃ g cap cs, v = .slice (some ⟨g, 0, none⟩) n cap ∧ base ≤ g ∧ Blk w g e cs ∧ n ≤ cap ∧ cs.size = cap * s ∧ cs.toList.take (n * s) = xs ∧ cap ≤ 9223372036854775807 := by
  rcases h.2 with ⟨h0, _⟩ | ⟨g, cap, cur, hv, hb, hg, hnc, hm, hs, ht⟩
  · exact absurd h0 hn
  · exact ⟨g, cap, cur, hv, hb, hg, hnc, hs, ht, by simpa only [maxLen] using hm⟩
section
variable {P : Program} {ops : Array Oper} {late : List Nat} {R : Act → World → Prop} {v : World} {L L0 : List (Nat × TypeId × Array Value)} {n : Nat} {sl : List (Nat × Value)}
/-- What an append leaves: the run, the block with the row, and that the others stay. -/
theorem append_run {x y : Operand} {t ty e : TypeId} {w : World} (k k2 g g2 m cap q c2 s bytes : Nat) (z : Value) (cs cs2 : Array Value) (news : List Value)
    (ht : P.underlying t = some (.slice e)) (hinfo : (P.info? e).map (fun i => (i.zero, i.size, i.bytes)) = some (some z, s, bytes)) (hzs : z.cells.size = s) (hs0 : 0 < s)
    (hk : L[k]? = some (g, e, cs)) (hk2 : L[k2]? = some (g2, e, cs2)) (hn2 : cs2.toList.take (q * s) = news) (hq : q * s ≤ cs2.size) (h1 : ∀ u ∈ news, u.oneCell' = true)
    (hm : m ≤ cap) (hcs : cs.size = cap * s) (hcap : cap ≤ 9223372036854775807) (h63 : m + q ≤ 9223372036854775807) (hbytes : (m + q) * bytes ≤ 140737488355328) (hS : Hbl v L w) :
    ∃ w' g' cap' cs', (Builtin.append_ #[t, t] ty #[.slice (some ⟨g, 0, none⟩) m cap, .slice (some ⟨g2, 0, none⟩) q c2]).run P w = .ok (.slice (some ⟨g', 0, none⟩) (m + q) cap') w' ∧
      m + q ≤ cap' ∧ cs'.size = cap' * s ∧ cap' ≤ 9223372036854775807 ∧ cs'.toList.take ((m + q) * s) = cs.toList.take (m * s) ++ news ∧ Hbl v ((g', e, cs') :: L.eraseIdx k) w' := by
  obtain ⟨i, hi, hz⟩ := Option.map_eq_some_iff.1 hinfo
  simp only [Prod.mk.injEq] at hz
  obtain ⟨hz0, hz1, hz2⟩ := hz
  have hB := hS.blk k hk
  have hB2 := hS.blk k2 hk2
  have hown : w.ownsRow v.heap.size e s (.slice (some ⟨g, 0, none⟩) m cap) m (cs.toList.take (m * s)) := hB.ownsN ((hS.2.1 _ (List.mem_of_getElem? hk)).2) hm hcs hcap
  have hcells : ∀ (j : Nat) u, news[j]? = some u → w.cell? ((⟨g2, 0, none⟩ : Addr).add j) = some u := fun j u hu => by
    rw [add_plain, Nat.zero_add, hB2.cell j]
    rw [← hn2, List.getElem?_take] at hu
    split at hu
    · simpa using hu
    · cases hu
  have hlen : news.length = q * s := by rw [← hn2]; simp; omega
  obtain ⟨v', w', hrun, h2, h3, h4, h5⟩ := run_append_own_at (P := P) w v.heap.size t ty e i z s bytes ht hi hz0 hz1 hz2 hzs hs0 _ m _ hown ⟨g2, 0, none⟩ q c2 news hlen hcells h1 (by simp only [maxLen]; omega) hbytes hS.1.size
  obtain ⟨g', cap', cs', rfl, hg', hb', hc1, hc2, hc3, hc4⟩ := owns_blkN h2 (fun e => by
    have := (h4.1 e).1
    cases this)
  have hnd := hS.2.2
  have hmem : ∀ p ∈ L.eraseIdx k, p ∈ L ∧ p.1 ≠ g := fun p hp => by
    obtain ⟨j, hj, hjk, hjq⟩ := List.mem_eraseIdx_iff_getElem.1 hp
    refine ⟨hjq ▸ List.getElem_mem hj, fun e => hjk ?_⟩
    have e1 : (L.map (·.1))[j]? = (L.map (·.1))[k]? := by
      rw [List.getElem?_map, List.getElem?_map, hk, List.getElem?_eq_getElem hj, hjq]; simp [e]
    exact (List.getElem?_inj (by simpa using hj) hnd).1 e1
  have hnew : g' = g ∨ g' = w.heap.size := by
    rcases h5 with e | e
    · left; simpa [Value.ownBlock] using e
    · right; simpa [Value.ownBlock] using e
  refine ⟨w', g', cap', cs', hrun, hc1, hc2, hc4, hc3, hS.1.grown h3 hS.1.size (fun i hi => by cases hi; exact (hS.2.1 _ (List.mem_of_getElem? hk)).2), fun p hp => ?_, ?_⟩
  · rcases List.mem_cons.1 hp with rfl | hp
    · exact ⟨hb', hg'⟩
    · obtain ⟨h6, h7⟩ := hmem p hp
      exact ⟨(hS.2.1 p h6).1.grown h3 (by simp [Value.ownBlock]; exact h7), (hS.2.1 p h6).2⟩
  · simp only [List.map_cons, List.nodup_cons]
    refine ⟨fun hm => ?_, ((List.eraseIdx_sublist L k).map _).nodup hnd⟩
    obtain ⟨p, hp, he⟩ := List.mem_map.1 hm
    obtain ⟨h6, h7⟩ := hmem p hp
    rcases hnew with e | e
    · exact h7 (he.trans e)
    · have := (hS.2.1 p h6).1.lt
      omega
theorem L_appendN {i d : Nat} {il : List Nat} {x y : Operand} {t ty e : TypeId} {pos : String} {after : Array Edge} (k k2 g g2 m cap q c2 s bytes : Nat) (z : Value) (cs cs2 : Array Value) (news : List Value)
    (hi : ops[i]? = some ⟨some d, .call { callee := .builtin .append, args := #[x, y], argTypes := #[t, t] }, ty, pos, after, none⟩) (hl : inFr n sl = true)
    (ht : P.underlying t = some (.slice e)) (hinfo : (P.info? e).map (fun i => (i.zero, i.size, i.bytes)) = some (some z, s, bytes)) (hzs : z.cells.size = s) (hs0 : 0 < s)
    (hx : rho sl x = .slice (some ⟨g, 0, none⟩) m cap) (hy : rho sl y = .slice (some ⟨g2, 0, none⟩) q c2)
    (hk : L[k]? = some (g, e, cs)) (hk2 : L[k2]? = some (g2, e, cs2)) (hn2 : cs2.toList.take (q * s) = news) (hq : q * s ≤ cs2.size) (h1 : ∀ u ∈ news, u.oneCell' = true)
    (hm : m ≤ cap) (hcs : cs.size = cap * s) (hcap : cap ≤ 9223372036854775807) (h63 : m + q ≤ 9223372036854775807) (hbytes : (m + q) * bytes ≤ 140737488355328) (L' : List (Nat × TypeId × Array Value)) (hL : L.eraseIdx k = L')
    (h : ∀ g' cap' cs', m + q ≤ cap' → cs'.size = cap' * s → cap' ≤ 9223372036854775807 → cs'.toList.take ((m + q) * s) = cs.toList.take (m * s) ++ news → wpL P ops R il (fr n ((d, .slice (some ⟨g', 0, none⟩) (m + q) cap') :: sl)) (Hbl v ((g', e, cs') :: L'))) :
    wpL P ops R (i :: il) (fr n sl) (Hbl v L) := fun w hS => by
  subst hL
  obtain ⟨w', g', cap', cs', hrun, h2, h3, h4, h5, h6⟩ := append_run (x := x) (y := y) (ty := ty) k k2 g g2 m cap q c2 s bytes z cs cs2 news ht hinfo hzs hs0 hk hk2 hn2 hq h1 hm hcs hcap h63 hbytes hS
  exact wpOp_run (w' := w') hi rfl (.inl (by rw [fr_eval n sl hl]; simp [execOp, resolve, invoke, builtin, hx, hy, hrun])) ⟨_, Hbl.stays v _, h6, h g' cap' cs' h2 h3 h4 h5⟩
theorem F_appendN {i d fuel : Nat} {listed : Array Bool} {x y : Operand} {t ty e : TypeId} {pos : String} {after : Array Edge} (k k2 g g2 m cap q c2 s bytes : Nat) (z : Value) (cs cs2 : Array Value) (news : List Value)
    (hi : ops[i]? = some ⟨some d, .call { callee := .builtin .append, args := #[x, y], argTypes := #[t, t] }, ty, pos, after, none⟩) (hl : inFr n sl = true)
    (ht : P.underlying t = some (.slice e)) (hinfo : (P.info? e).map (fun i => (i.zero, i.size, i.bytes)) = some (some z, s, bytes)) (hzs : z.cells.size = s) (hs0 : 0 < s)
    (hx : rho sl x = .slice (some ⟨g, 0, none⟩) m cap) (hy : rho sl y = .slice (some ⟨g2, 0, none⟩) q c2)
    (hk : L[k]? = some (g, e, cs)) (hk2 : L[k2]? = some (g2, e, cs2)) (hn2 : cs2.toList.take (q * s) = news) (hq : q * s ≤ cs2.size) (h1 : ∀ u ∈ news, u.oneCell' = true)
    (hm : m ≤ cap) (hcs : cs.size = cap * s) (hcap : cap ≤ 9223372036854775807) (h63 : m + q ≤ 9223372036854775807) (hbytes : (m + q) * bytes ≤ 140737488355328) (L' : List (Nat × TypeId × Array Value)) (hL : L.eraseIdx k = L') (hs : L0.Sublist L')
    (h : ∀ g' cap' cs', m + q ≤ cap' → cs'.size = cap' * s → cap' ≤ 9223372036854775807 → cs'.toList.take ((m + q) * s) = cs.toList.take (m * s) ++ news → wpF P .any ops late R (Hbl v L0) fuel (listed.setIfInBounds i true) (fr n ((d, .slice (some ⟨g', 0, none⟩) (m + q) cap') :: sl)) (Hbl v ((g', e, cs') :: L'))) :
    ∀ w, Hbl v L w → wpOp P ops (Nrm R) i (fun a' w' => ∃ S', (i ∈ late ∨ Ext (Hbl v L0) S') ∧ S' w' ∧ wpF P .any ops late R (Hbl v L0) fuel (listed.setIfInBounds i true) a' S') (fr n sl) w := fun w hS => by
  subst hL
  obtain ⟨w', g', cap', cs', hrun, h2, h3, h4, h5, h6⟩ := append_run (x := x) (y := y) (ty := ty) k k2 g g2 m cap q c2 s bytes z cs cs2 news ht hinfo hzs hs0 hk hk2 hn2 hq h1 hm hcs hcap h63 hbytes hS
  exact wpOp_run (w' := w') hi rfl (.inl (by rw [fr_eval n sl hl]; simp [execOp, resolve, invoke, builtin, hx, hy, hrun])) ⟨_, .inr (Ext.of_sub (.cons _ hs)), h6, h g' cap' cs' h2 h3 h4 h5⟩
end
end Go.Proofs.YtialfoccalobpaaDoor
