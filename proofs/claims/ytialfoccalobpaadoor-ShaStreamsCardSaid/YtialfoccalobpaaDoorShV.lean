/-
  Slices of the call's own that hold slices, each in new memory.
-/
import Derived.Test.YtialfoccalobpaaDoorShD
namespace Go.Proofs.YtialfoccalobpaaDoor
set_option linter.unusedSimpArgs false
set_option linter.unusedVariables false
open Go.RowKit
theorem slice_sz : (Tryd.prog.info? 22).map (·.size) = some 1 := by kernel_rfl
/-- The first n cells of a block of cap cells are these values. -/
structure Vls (cs : Array Value) (cap n : Nat) (xs : List Value) : Prop where
  size : cs.size = cap
  le : n ≤ cap
  cap : cap ≤ 9223372036854775807
  len : xs.length = n
  words : cs.toList.take n = xs
theorem Vls.nil : Vls #[] 0 0 [] := ⟨rfl, Nat.le_refl _, by omega, rfl, rfl⟩
theorem Vls.get {cs : Array Value} {cap n : Nat} {xs : List Value} (h : Vls cs cap n xs) {j : Nat} {u : Value} (hu : xs[j]? = some u) : cs[0 + j]? = some u := by
  have h1 : (cs.toList.take n)[j]? = some u := by rw [h.words]; exact hu
  have hj : j < n := by
    rcases Nat.lt_or_ge j n with h2 | h2
    · exact h2
    · rw [List.getElem?_eq_none (by rw [h.len]; exact h2)] at hu; cases hu
  rw [List.getElem?_take, if_pos hj] at h1
  rw [Nat.zero_add]
  simpa using h1
theorem Vls.reads {w : World} {g cap n : Nat} {e : TypeId} {cs : Array Value} {xs : List Value} (h : Vls cs cap n xs) (hB : Blk w g e cs) : Reads w w.heap.size (some ⟨g, 0, none⟩) n xs :=
  hB.readsAll hB.lt h.words (by rw [h.size]; exact h.le)
theorem vlit {w : World} {g : Nat} {e : TypeId} {u : Value} (hB : Blk w g e ([u] : List Value).toArray) : Reads w w.heap.size (some ⟨g, 0, none⟩) 1 [u] := hB.readsAll hB.lt rfl (by simp)
/-- The copies behind a slice of slices: each in a block of L. -/
def CPx (L : List (Nat × TypeId × Array Value)) (xs : List Value) (ps : List (List Int)) : Prop :=
  xs.length = ps.length ∧ ∀ i, i < ps.length → ∃ g n cap cs, xs[i]? = some (.slice (some ⟨g, 0, none⟩) n cap) ∧ (g, 5, cs) ∈ L ∧ Nms .u8 cs cap n (ps.getD i [])
theorem CPx.nil : CPx [] [] [] := ⟨rfl, fun i h => by simp at h⟩
theorem CPx.snoc {L : List (Nat × TypeId × Array Value)} {xs : List Value} {ps : List (List Int)} (h : CPx L xs ps) {g n cap : Nat} {cs : Array Value} {bs : List Int} (hn : Nms .u8 cs cap n bs) :
    CPx ((g, 5, cs) :: L) (xs ++ [.slice (some ⟨g, 0, none⟩) n cap]) (ps ++ [bs]) := by
  refine ⟨by simp [h.1], fun i hi => ?_⟩
  simp only [List.length_append, List.length_cons, List.length_nil] at hi
  rcases Nat.lt_or_ge i ps.length with h1 | h1
  · obtain ⟨g', n', cap', cs', h2, h3, h4⟩ := h.2 i h1
    refine ⟨g', n', cap', cs', ?_, List.mem_cons_of_mem _ h3, ?_⟩
    · rw [List.getElem?_append_left (by rw [h.1]; exact h1)]; exact h2
    · have e : (ps ++ [bs]).getD i [] = ps.getD i [] := by simp [List.getElem?_append_left h1]
      rw [e]; exact h4
  · have e0 : i = ps.length := by omega
    subst e0
    refine ⟨g, n, cap, cs, ?_, List.mem_cons_self .., ?_⟩
    · rw [← h.1]; simp
    · have e : (ps ++ [bs]).getD ps.length [] = bs := by simp
      rw [e]; exact hn
theorem CPx.pv {v w : World} {L Lc : List (Nat × TypeId × Array Value)} {xs : List Value} {ps : List (List Int)} (h : CPx Lc xs ps) (hw : Hbl v L w) (hs : ∀ x ∈ Lc, x ∈ L) : PV w w.heap.size xs ps :=
  PV.of_get xs ps h.1 fun i h1 h2 => by
    obtain ⟨g, n, cap, cs, h3, h4, h5⟩ := h.2 i h2
    have hB : Blk w g 5 cs := (hw.2.1 _ (hs _ h4)).1
    have e : xs[i] = .slice (some ⟨g, 0, none⟩) n cap := by
      rw [List.getElem?_eq_getElem h1] at h3
      exact Option.some.inj h3
    have e2 : ps.getD i [] = ps[i] := by simp [h2]
    rw [e2] at h5
    rw [e]
    exact piece_of (h5.reads hB) h5.le
theorem CPx.pieces {v w : World} {L Lc : List (Nat × TypeId × Array Value)} {xs : List Value} {ps : List (List Int)} {g cap n : Nat} {e : TypeId} {cs : Array Value} (h : CPx Lc xs ps) (hv : Vls cs cap n xs) (hw : Hbl v L w) (hs : ∀ x ∈ Lc, x ∈ L) (hg : (g, e, cs) ∈ L) :
    Pieces w w.heap.size (some ⟨g, 0, none⟩) n ps := by
  have hB : Blk w g e cs := (hw.2.1 _ hg).1
  exact pieces_of (hv.reads hB) (h.pv hw hs) (by rw [← h.1, hv.len])
theorem gives_load_oldS {P : Program} {S : World → Prop} {l : List (Nat × Value)} {dst : Option Nat} {x : Operand} {t ty et : TypeId} {pos : String} {after : Array Edge} {gd : Option (Nat × Bool)} (p : Addr) (u : Value) (hx : rho l x = .pointer (some p)) (hB : ∀ w, S w → w.cell? p = some u) (ht : P.underlying t = some (.slice et)) :
    Gives P S u (execOp (rho l) ⟨dst, .load t x, ty, pos, after, gd⟩) := fun w hS => by
  refine .inl ⟨w, ?_, Below.refl _ _⟩
  simp [execOp, hx, Instr.loadAt, Instr.sureAddr, loadVar, isAgg, run_underlying ht, hB w hS]
theorem gives_loadV {P : Program} {S : World → Prop} {l : List (Nat × Value)} {dst : Option Nat} {x : Operand} {t ty e et : TypeId} {pos : String} {after : Array Edge} {gd : Option (Nat × Bool)} (g o : Nat) (cs : Array Value) (u : Value) (hx : rho l x = .pointer (some ⟨g, o, none⟩)) (hB : ∀ w, S w → Blk w g e cs) (hu : cs[o]? = some u) (ht : P.underlying t = some (.slice et)) :
    Gives P S u (execOp (rho l) ⟨dst, .load t x, ty, pos, after, gd⟩) := fun w hS => by
  refine .inl ⟨w, ?_, Below.refl _ _⟩
  have hb := (hB w hS).cell o
  rw [hu] at hb
  simp [execOp, hx, Instr.loadAt, Instr.sureAddr, loadVar, isAgg, run_underlying ht, hb]
section
variable {ops : Array Oper} {R : Act → World → Prop} {v : World} {L L0 : List (Nat × TypeId × Array Value)} {n : Nat} {sl : List (Nat × Value)}
theorem L_pushV {i d : Nat} {il : List Nat} {x y : Operand} {t ty e : TypeId} {pos : String} {after : Array Edge} {gd : Option (Nat × Bool)} (k g m cap q c2 bytes : Nat) (A2 : Option Addr) (z : Value) (xs news : List Value) (cs : Array Value)
    (hi : ops[i]? = some ⟨some d, .call { callee := .builtin .append, args := #[x, y], argTypes := #[t, t] }, ty, pos, after, gd⟩) (hl : inFr n sl = true) (hw : Want ops n sl gd)
    (ht : Tryd.prog.underlying t = some (.slice e)) (hinfo : (Tryd.prog.info? e).map (fun i => (i.zero, i.size, i.bytes)) = some (some z, 1, bytes)) (hzs : z.cells.size = 1)
    (hx : rho sl x = .slice (some ⟨g, 0, none⟩) m cap) (hy : rho sl y = .slice A2 q c2)
    (hk : L[k]? = some (g, e, cs)) (hp : Vls cs cap m xs) (hr : ∀ w, Hbl v L w → Reads w w.heap.size A2 q news) (h1 : ∀ u ∈ news, u.oneCell' = true)
    (h63 : m + q ≤ 1000000000000) (hb8 : Nat.ble bytes 24 = true) (L' : List (Nat × TypeId × Array Value)) (hL : L.eraseIdx k = L')
    (h : ∀ g' cap' cs', Vls cs' cap' (m + q) (xs ++ news) → wpL Tryd.prog ops R il (fr n ((d, .slice (some ⟨g', 0, none⟩) (m + q) cap') :: sl)) (Hbl v ((g', e, cs') :: L'))) :
    wpL Tryd.prog ops R (i :: il) (fr n sl) (Hbl v L) := fun w hS => by
  subst hL
  have hB := hS.blk k hk
  have hown : w.ownsRow v.heap.size e 1 (.slice (some ⟨g, 0, none⟩) m cap) m (cs.toList.take m) := hB.owns ((hS.2.1 _ (List.mem_of_getElem? hk)).2) hp.le hp.size hp.cap
  have hby : (m + q) * bytes ≤ 140737488355328 := Nat.le_trans (Nat.mul_le_mul h63 (Nat.le_of_ble_eq_true hb8)) (by omega)
  obtain ⟨v', w', hrun, h2, h3, h4⟩ := run_append_reads (P := Tryd.prog) w v.heap.size t ty e z bytes ht hinfo hzs _ m _ hown w.heap.size A2 q c2 _ (hr w hS) h1 (by omega) hby hS.1.size
  obtain ⟨g', cap', cs', rfl, hg', hb', hc1, hc2, hc3, hc4⟩ := owns_blk0 h2 (fun e0 => by rw [e0] at h4; rcases h4 with h | h <;> simp [Value.ownBlock] at h)
  have hnd := hS.2.2
  have hmem : ∀ p ∈ L.eraseIdx k, p ∈ L ∧ p.1 ≠ g := fun p hp => by
    obtain ⟨j, hj, hjk, hjq⟩ := List.mem_eraseIdx_iff_getElem.1 hp
    refine ⟨hjq ▸ List.getElem_mem hj, fun e => hjk ?_⟩
    have e1 : (L.map (·.1))[j]? = (L.map (·.1))[k]? := by
      rw [List.getElem?_map, List.getElem?_map, hk, List.getElem?_eq_getElem hj, hjq]; simp [e]
    exact (List.getElem?_inj (by simpa using hj) hnd).1 e1
  have hnew : g' = g ∨ g' = w.heap.size := by
    rcases h4 with e | e
    · left; simpa [Value.ownBlock] using e
    · right; simpa [Value.ownBlock] using e
  have hlen := (hr w hS).1
  refine wpOp_runG (w' := w') hi (hw ..) (by rw [fr_eval n sl hl]; simp [execOp, resolve, invoke, builtin, hx, hy, hrun]) ⟨_, Hbl.stays v _, ?_, h g' cap' cs' ⟨hc2, hc1, hc4, by rw [List.length_append, hp.len, hlen], by rw [hc3, hp.words]⟩⟩
  refine ⟨hS.1.grown h3 hS.1.size (fun i hi => by cases hi; exact (hS.2.1 _ (List.mem_of_getElem? hk)).2), fun p hp => ?_, ?_⟩
  · rcases List.mem_cons.1 hp with rfl | hp
    · exact ⟨hb', hg'⟩
    · obtain ⟨h6, h7⟩ := hmem p hp
      exact ⟨(hS.2.1 p h6).1.grown h3 (by simp [Value.ownBlock]; exact h7), (hS.2.1 p h6).2⟩
  · simp only [List.map_cons, List.nodup_cons]
    refine ⟨fun hm => ?_, ((List.eraseIdx_sublist L k).map _).nodup hnd⟩
    obtain ⟨p, hp, he⟩ := List.mem_map.1 hm
    obtain ⟨h5, h6⟩ := hmem p hp
    rcases hnew with e | e
    · exact h6 (he.trans e)
    · have := (hS.2.1 p h5).1.lt
      omega
end
theorem c_is (w : World) (D : List Int) (hD : D.length = 32) (A : Option Addr) (n c : Nat) (l : List Int) (hr : Reads w w.heap.size A n (l.map (Value.int .u8))) (hn : n ≤ 281474976710656) (h : D = l) : Rets 24 #[.agg (agg8 D), .slice A n c] w (.bool true) :=
  (is_any w D hD A n c l hr hn).mono fun e w' ⟨he, hb⟩ => ⟨by rw [he, decide_eq_true h], hb⟩
theorem flat_next {ps : List (List Int)} {i sn m : Nat} {b : List Int} (htk : ps.take (i + 1) = ps.take i ++ [b]) (hb : b.length = m) (hs : sn = (ps.take i).flatten.length) : sn + m = (ps.take (i + 1)).flatten.length := by
  rw [htk, List.flatten_append]
  simp [hs, hb]
end Go.Proofs.YtialfoccalobpaaDoor
