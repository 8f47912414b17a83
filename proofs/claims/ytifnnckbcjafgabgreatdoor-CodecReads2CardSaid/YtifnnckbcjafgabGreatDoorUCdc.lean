/-
  Reading points: cloning bytes, the struct of a group, what is read.
-/
import Derived.Test.YtifnnckbcjafgabGreatDoorUCdb
import Derived.Test.YtifnnckbcjafgabGreatDoorUFs
namespace Go.Proofs.YtifnnckbcjafgabGreatDoor
set_option linter.unusedSimpArgs false
set_option linter.unusedVariables false
open Go.RowKit
section
variable {P : Program} {S : World → Prop} {l : List (Nat × Value)} {dst : Option Nat} {x y : Operand} {t ty ct : TypeId} {pos : String} {after : Array Edge} {gd : Option (Nat × Bool)}
variable {ops : Array Oper} {late : List Nat} {R : Act → World → Prop} {v : World} {L L0 : List (Nat × TypeId × Array Value)} {n : Nat} {sl : List (Nat × Value)}
/-- append of a slice to one of one's own, of one-cell elements. -/
theorem L_appendR {i d : Nat} {il : List Nat} {e : TypeId} (k g m cap m2 c2 bytes : Nat) (A2 : Option Addr) (z : Value) (news : List Value) (cs : Array Value)
    (hi : ops[i]? = some ⟨some d, .call { callee := .builtin .append, args := #[x, y], argTypes := #[t, t] }, ty, pos, after, none⟩) (hl : inFr n sl = true)
    (ht : P.underlying t = some (.slice e)) (hinfo : (P.info? e).map (fun i => (i.zero, i.size, i.bytes)) = some (some z, 1, bytes)) (hzs : z.cells.size = 1) (hx : rho sl x = .slice (some ⟨g, 0, none⟩) m cap) (hy : rho sl y = .slice A2 m2 c2)
    (hk : L[k]? = some (g, e, cs)) (hr : ∀ w, Hbl v L w → Reads w w.heap.size A2 m2 news) (h1 : ∀ u ∈ news, u.oneCell' = true) (hm : m ≤ cap) (hcs : cs.size = cap) (hcap : cap ≤ 9223372036854775807) (h63 : m + m2 ≤ 9223372036854775807) (hpos : 0 < m + m2) (hbytes : (m + m2) * bytes ≤ 140737488355328) (L' : List (Nat × TypeId × Array Value)) (hL : L.eraseIdx k = L')
    (h : ∀ g' cap' cs', m + m2 ≤ cap' → cs'.size = cap' → cap' ≤ 9223372036854775807 → cs'.toList.take (m + m2) = cs.toList.take m ++ news → wpL P ops R il (fr n ((d, .slice (some ⟨g', 0, none⟩) (m + m2) cap') :: sl)) (Hbl v ((g', e, cs') :: L'))) :
    wpL P ops R (i :: il) (fr n sl) (Hbl v L) := fun w hS => by
  subst hL
  have hB := hS.blk k hk
  have hown : w.ownsRow v.heap.size e 1 (.slice (some ⟨g, 0, none⟩) m cap) m (cs.toList.take m) := hB.owns ((hS.2.1 _ (List.mem_of_getElem? hk)).2) hm hcs hcap
  obtain ⟨v', w', hrun, h2, h3, h4⟩ := run_append_reads (P := P) w v.heap.size t ty e z bytes ht hinfo hzs _ m _ hown w.heap.size A2 m2 c2 news (hr w hS) h1 h63 hbytes hS.1.size
  obtain ⟨g', cap', cs', rfl, hg', hb', hc1, hc2, hc3, hc4⟩ := owns_blk h2 hpos
  have hnd := hS.2.2
  have hmem : ∀ q ∈ L.eraseIdx k, q ∈ L ∧ q.1 ≠ g := fun q hq => by
    obtain ⟨j, hj, hjk, hjq⟩ := List.mem_eraseIdx_iff_getElem.1 hq
    refine ⟨hjq ▸ List.getElem_mem hj, fun e => hjk ?_⟩
    have e1 : (L.map (·.1))[j]? = (L.map (·.1))[k]? := by
      rw [List.getElem?_map, List.getElem?_map, hk, List.getElem?_eq_getElem hj, hjq]; simp [e]
    exact (List.getElem?_inj (by simpa using hj) hnd).1 e1
  have hnew : g' = g ∨ g' = w.heap.size := by
    rcases h4 with e | e
    · left; simpa [Value.ownBlock] using e
    · right; simpa [Value.ownBlock] using e
  refine wpOp_run (w' := w') hi rfl (.inl (by rw [fr_eval n sl hl]; simp [execOp, resolve, invoke, builtin, hx, hy, hrun])) ⟨_, Hbl.stays v _, ?_, h g' cap' cs' hc1 hc2 hc4 hc3⟩
  refine ⟨hS.1.grown h3 hS.1.size (fun i hi => by cases hi; exact (hS.2.1 _ (List.mem_of_getElem? hk)).2), fun q hq => ?_, ?_⟩
  · rcases List.mem_cons.1 hq with rfl | hq
    · exact ⟨hb', hg'⟩
    · obtain ⟨h5, h6⟩ := hmem q hq
      exact ⟨(hS.2.1 q h5).1.grown h3 (by simp [Value.ownBlock]; exact h6), (hS.2.1 q h5).2⟩
  · simp only [List.map_cons, List.nodup_cons]
    refine ⟨fun hm => ?_, ((List.eraseIdx_sublist L k).map _).nodup hnd⟩
    obtain ⟨q, hq, he⟩ := List.mem_map.1 hm
    obtain ⟨h5, h6⟩ := hmem q hq
    rcases hnew with e | e
    · exact h6 (he.trans e)
    · have := (hS.2.1 q h5).1.lt
      omega
end
section
variable {P : Program} {fn : Func} {E : Ending → World → Prop} {n : Nat} {sl : List (Nat × Value)} {w : World}
theorem ret_cct {s s' q g g' : Nat} {ty ty' t t' : TypeId} {cs cs' : Array Value} {d d' : TypeDesc} {u : Value} (hres : fn.results = #[.cell s ty, .cell s' ty', .tmp q]) (hl : inFr n sl = true) (hs : look sl s = .pointer (some ⟨g, 0, none⟩)) (hs' : look sl s' = .pointer (some ⟨g', 0, none⟩)) (hq : look sl q = u) (hB : Blk w g t cs) (hB' : Blk w g' t' cs')
    (hu : P.underlying ty = some d) (hd : (match d with | .struct _ | .array _ _ => true | _ => false) = true) (hi : (P.info? ty).map (·.size) = some cs.size)
    (hu' : P.underlying ty' = some d') (hd' : (match d' with | .struct _ | .array _ _ => true | _ => false) = true) (hi' : (P.info? ty').map (·.size) = some cs'.size) (hE : E (.returned (.tuple #[.agg cs, .agg cs', u])) w) : bodyPost P fn E .ret (fr n sl) w := by
  refine bodyPost_ret (v := .tuple #[.agg cs, .agg cs', u]) ?_ (fr_defers n sl) hE
  have h := run_load_cells (P := P) hB hu hd hi
  have h' := run_load_cells (P := P) hB' hu' hd' hi'
  simp [results, hres, fr_at n sl hl, hs, hs', hq, asAddr, h, h']
end
/-- Bytes without the marks, and a piece of them. -/
def cln (bs : List Int) : List Int := bs.set 0 (gt bs 0 % 32)
def seg (bs : List Int) (o m : Nat) : List Int := ((cln bs).drop o).take m
theorem cln_oct {bs : List Int} (h : Oct bs) : Oct (cln bs) := fun b hb => by
  rcases List.mem_or_eq_of_mem_set hb with hb | rfl
  · exact h b hb
  · have := gt_oct h 0
    omega
theorem seg_oct {bs : List Int} (h : Oct bs) (o m : Nat) : Oct (seg bs o m) := fun b hb => cln_oct h b (List.mem_of_mem_drop (List.mem_of_mem_take hb))
theorem seg_len {bs : List Int} {L : Nat} (h : bs.length = L) (o m : Nat) (hm : o + m ≤ L) : (seg bs o m).length = m := by simp [seg, cln]; omega
theorem front_at {cs : Array Value} {bs : List Int} {L : Nat} (h : cs.toList.take L = bs.map (Value.int .u8)) (hl : bs.length = L) (i : Nat) (hi : i < L) : cs[i]? = some (.int .u8 (gt bs i)) := by
  have hb : i < bs.length := by omega
  have e : (cs.toList.take L)[i]? = (bs.map (Value.int .u8))[i]? := by rw [h]
  have e2 : bs[i]? = some (gt bs i) := by simp [gt, List.getD_eq_getElem?_getD, List.getElem?_eq_getElem hb]
  rw [List.getElem?_take, if_pos hi, List.getElem?_map, e2] at e
  rw [← Array.getElem?_toList, e]
  rfl
theorem gt_cln {bs : List Int} (i : Nat) (h : i < bs.length) : (cln bs)[i]? = some (if i = 0 then gt bs 0 % 32 else gt bs i) := by
  unfold cln
  rw [List.getElem?_set]
  by_cases h0 : i = 0
  · subst h0; simp [h]
  · rw [if_neg (fun e => h0 e.symm), if_neg h0, List.getElem?_eq_getElem h]
    simp [gt, List.getD_eq_getElem?_getD, List.getElem?_eq_getElem h]
theorem seg_reads {w : World} {g : Nat} {t : TypeId} {cs : Array Value} {bs : List Int} {L : Nat} (h : Blk w g t (cs.setIfInBounds (0 + 0) (.int .u8 (gt bs 0 % 32)))) (hc : cs.toList.take L = bs.map (Value.int .u8)) (hl : bs.length = L) (o m : Nat) (hm : o + m ≤ L) :
    Reads w w.heap.size (some ⟨g, 0 + o, none⟩) m ((seg bs o m).map (Value.int .u8)) := by
  refine ⟨by rw [List.length_map, seg_len hl o m hm], fun h0 => ⟨g, 0 + o, rfl, h.lt, fun j u hu => ?_⟩⟩
  rw [h.cell]
  have hj : j < m := by
    rcases Nat.lt_or_ge j m with h | h
    · exact h
    · rw [List.getElem?_eq_none (by rw [List.length_map, seg_len hl o m hm]; exact h)] at hu; cases hu
  rw [List.getElem?_map] at hu
  unfold seg at hu
  rw [List.getElem?_take, if_pos hj, List.getElem?_drop, gt_cln (o + j) (by omega)] at hu
  rw [Array.getElem?_setIfInBounds]
  have hcl : cs.size ≥ L := by
    have := congrArg List.length hc
    simp at this
    omega
  by_cases h1 : o + j = 0
  · have e1 : 0 + o + j = 0 := by omega
    have e2 : o = 0 := by omega
    have e3 : j = 0 := by omega
    subst e2 e3
    rw [if_pos rfl, if_pos (by omega)]
    simpa using hu
  · rw [if_neg (by omega), front_at hc hl _ (by omega)]
    rw [if_neg h1] at hu
    simp at hu
    rw [← hu]
    congr 3
    omega
attribute [local irreducible] wpL wpF fr Code.wp bodyPost
set_option maxRecDepth 100000 in
set_option maxHeartbeats 4000000 in
theorem cd_clone (b0 o0 L0 C0 : Nat) (bs0 : List Int) (v : World) (hr0 : Reads v v.heap.size (some ⟨b0, o0, none⟩) L0 (bs0.map (Value.int .u8))) (h0 : 0 < L0) (h1 : L0 ≤ 1000) :
    RetsX 5 (fun g cap => .slice (some ⟨g, 0, none⟩) L0 cap) (fun cap cs => L0 ≤ cap ∧ cs.size = cap ∧ cs.toList.take L0 = bs0.map (Value.int .u8)) 109 #[.slice (some ⟨b0, o0, none⟩) L0 C0] v := by
  refine calls_fr1 Tryz.func109 rfl (by rfl : _ = 8) (by rfl) ?_
  have hw := Hbl.nil v
  refine seq_plain hw [0] (by rfl) ?_
  refine lv (.slice none 0 0) (h := ?_)
  refine L_end ?_
  intro w1 hw1
  refine wp_seq ?_
  refine seq_plain hw1 [0, 1] (by rfl) ?_
  refine lv (.slice (some ⟨b0, o0, none⟩) L0 C0) (h := ?_)
  refine L_val (.bool false) (by rfl) (by rfl) gk ?_
  refine L_end ?_
  intro w2 hw2
  refine wp_cond_false (fr_at _ _ (by rfl) _) ?_
  refine wp_skip ?_
  change Code.wp _ _ _ _ _
  refine seq_plain hw2 [0, 1, 2, 3] (by rfl) ?_
  refine L_build0 1 (by rfl) (by rfl) und_u8s u8_sz ?_; intro g1
  refine lv (.slice (some ⟨b0, o0, none⟩) L0 C0) (h := ?_)
  refine L_appendR 0 g1 0 0 L0 C0 1 (some ⟨b0, o0, none⟩) (.int .u8 0) (bs0.map (Value.int .u8)) #[] (by rfl) (by rfl) und_u8s u8_all (by rfl) (by rfl) (by rfl) (by rfl) (fun w h => (hr0.below h.below).more h.below.size) (by simp [Value.oneCell']) (Nat.le_refl _) (by rfl) (by omega) (by omega) (by omega) (by omega) [] (by rfl) ?_
  intro g2 cap_1 cs_1 ha_1 hb_1 hc_1 hd_1
  rw [Nat.zero_add] at ha_1 hd_1 ⊢
  rw [show (#[] : Array Value).toList.take 0 ++ bs0.map (Value.int .u8) = bs0.map (Value.int .u8) from rfl] at hd_1
  refine lv (.slice (some ⟨g2, 0, none⟩) L0 cap_1) (h := ?_)
  refine L_end ?_
  intro w3 hw3
  refine wp_ret ?_
  change bodyPost _ _ _ Exit.ret _ _
  refine (ret_tmp (by rfl) (by rfl) (by rfl) ⟨_, _, _, rfl, ⟨ha_1, hb_1, hd_1⟩, (hw3.2.1 _ (List.mem_cons_self ..)).2, (hw3.blk 0 (by rfl)), hw3.below⟩)

end Go.Proofs.YtifnnckbcjafgabGreatDoor
