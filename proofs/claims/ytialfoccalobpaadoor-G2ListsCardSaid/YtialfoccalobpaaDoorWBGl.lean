/-
  Sums of lists of points in any order; slices of points of the call's own; arguments that are slices of slices of bytes.
-/
import Derived.Test.YtialfoccalobpaaDoorWBGi
import Derived.Test.YtialfoccalobpaaDoorWBApp
namespace Go.Proofs.YtialfoccalobpaaDoor
set_option linter.unusedSimpArgs false
set_option linter.unusedVariables false
set_option linter.unusedSectionVars false
open Go.RowKit
section
variable {K : Type} [Add K] [Sub K] [Neg K] [Mul K] [Zero K] [One K] [DecidableEq K] {inv : K → K} {b : K}
theorem on_foldl (E : EC inv b) : ∀ (l : List (Pt K)) (a : Pt K), (∀ P ∈ l, OnC b P) → OnC b a → OnC b (l.foldl (ecAdd inv) a)
  | [], a, _, ha => ha
  | p :: l, a, h, ha => on_foldl E l _ (fun P hP => h P (List.mem_cons_of_mem _ hP)) (E.on_add ha (h p (by simp)))
theorem on_sums (E : EC inv b) (l : List (Pt K)) (h : ∀ P ∈ l, OnC b P) : OnC b (EC.sums inv l) := on_foldl E l 0 h (.inl rfl)
theorem foldl_acc (E : EC inv b) : ∀ (l : List (Pt K)) (a : Pt K), (∀ P ∈ l, OnC b P) → OnC b a → l.foldl (ecAdd inv) a = ecAdd inv a (EC.sums inv l)
  | [], a, _, ha => (EC.add_zero a).symm
  | p :: l, a, h, ha => by
    have hp := h p (by simp)
    have hl : ∀ P ∈ l, OnC b P := fun P hP => h P (List.mem_cons_of_mem _ hP)
    have e : EC.sums inv (p :: l) = ecAdd inv p (EC.sums inv l) := by
      show l.foldl (ecAdd inv) (ecAdd inv 0 p) = _
      rw [EC.zero_add]
      exact foldl_acc E l p hl hp
    rw [List.foldl_cons, foldl_acc E l _ hl (E.on_add ha hp), e]
    exact E.assoc ha hp (on_sums E l hl)
theorem sums_cons (E : EC inv b) (p : Pt K) (l : List (Pt K)) (hp : OnC b p) (h : ∀ P ∈ l, OnC b P) : EC.sums inv (p :: l) = ecAdd inv p (EC.sums inv l) := by
  rw [EC.sums, List.foldl_cons, EC.zero_add]
  exact foldl_acc E l p h hp
theorem sums_snoc (l : List (Pt K)) (p : Pt K) : EC.sums inv (l ++ [p]) = ecAdd inv (EC.sums inv l) p := by simp [EC.sums]
theorem gp_mem (qs : List (Pt K)) (i : Nat) (h : i < qs.length) : gp qs i ∈ qs := by
  unfold gp
  rw [List.getD_eq_getElem?_getD, List.getElem?_eq_getElem h]
  exact List.getElem_mem h
theorem gl_on {qs : List (Pt K)} {p : Pt K} (h : ∀ P ∈ qs, OnC b P) (hp : OnC b p) : ∀ P ∈ qs ++ [p], OnC b P := fun P hP => by
  rcases List.mem_append.1 hP with h1 | h1
  · exact h P h1
  · rw [List.mem_singleton.1 h1]; exact hp
theorem gl_sum (E : EC inv b) (h0 : inv 0 = 0) {qs : List (Pt K)} {p sm : Pt K} (h : ∀ P ∈ qs, OnC b P) (hs : sm = EC.sums inv qs) (hp : OnC b p) : gAdd inv sm p = EC.sums inv (qs ++ [p]) := by
  rw [sums_snoc, hs]
  exact g_add E h0 (on_sums E qs h) hp
theorem gl_back (E : EC inv b) (h0 : inv 0 = 0) {qs : List (Pt K)} {bk : Pt K} {j : Nat} (h : ∀ P ∈ qs, OnC b P) (hj : j < qs.length) (hb : bk = EC.sums inv (qs.drop (j + 1))) : gAdd inv bk (gp qs j) = EC.sums inv (qs.drop j) := by
  have hd : ∀ P ∈ qs.drop (j + 1), OnC b P := fun P hP => h P (List.mem_of_mem_drop hP)
  have hg := h _ (gp_mem qs j hj)
  have e : qs.drop j = gp qs j :: qs.drop (j + 1) := by
    rw [List.drop_eq_getElem_cons hj]
    unfold gp
    rw [List.getD_eq_getElem?_getD, List.getElem?_eq_getElem hj]
    rfl
  rw [e, sums_cons E _ _ hg hd, hb, g_add E h0 (on_sums E _ hd) hg]
  exact E.add_comm (on_sums E _ hd) hg
theorem gl_whole (E : EC inv b) (h0 : inv 0 = 0) {qs : List (Pt K)} {sm : Pt K} (h : ∀ P ∈ qs, OnC b P) (hs : sm = EC.sums inv qs) : gSum inv qs = sm := by rw [hs]; exact g_sum E h0 qs h
theorem gl_start {qs : List (Pt K)} {m : Nat} (h : qs.length = m) : (0 : Pt K) = EC.sums inv (qs.drop m) := by
  rw [List.drop_of_length_le (by omega)]; rfl
theorem gl_bend {qs : List (Pt K)} {bk sm : Pt K} (hb : bk = EC.sums inv (qs.drop 0)) (hs : sm = EC.sums inv qs) : bk = sm := by rw [hb, hs, List.drop_zero]
theorem gl_all (E : EC inv b) (h0 : inv 0 = 0) {qs : List (Pt K)} {sm : Pt K} (h : ∀ P ∈ qs, OnC b P) (hs : sm = EC.sums inv qs) : gSum inv (([] ++ qs) ++ [-sm]) = 0 := by
  have hn : OnC b (-sm) := by rw [hs]; exact E.on_neg (on_sums E qs h)
  rw [List.nil_append, g_sum E h0 _ (gl_on h hn), sums_snoc, ← hs]
  exact E.add_neg (by rw [hs]; exact on_sums E qs h)
end
/-- A block of cap places begins with these points. -/
structure Pso (n : Nat) {K : Type} [Zero K] (c : Pt K → Array Value) (cs : Array Value) (cap m : Nat) (qs : List (Pt K)) : Prop where
  size : cs.size = cap * n
  le : m ≤ cap
  max : cap ≤ 9223372036854775807
  len : qs.length = m
  tk : cs.toList.take (m * n) = (joinA (qs.map c)).toList
theorem joinA_append : ∀ (a b : List (Array Value)), joinA (a ++ b) = joinA a ++ joinA b
  | [], b => by simp [joinA]
  | x :: a, b => by rw [List.cons_append, joinA_cons, joinA_append a b, joinA_cons, Array.append_assoc]
section
variable {n : Nat} {K : Type} [Zero K] {c : Pt K → Array Value} {cs cs' : Array Value} {cap cap' m m2 : Nat} {qs rs : List (Pt K)}
theorem Pso.nil : Pso n c #[] 0 0 [] := ⟨by simp, Nat.le_refl _, by omega, rfl, by simp [joinA]⟩
theorem Pso.push (h : Pso n c cs cap m qs) (hr : rs.length = m2) (h1 : m + m2 ≤ cap') (h2 : cs'.size = cap' * n) (h3 : cap' ≤ 9223372036854775807)
    (h4 : cs'.toList.take ((m + m2) * n) = cs.toList.take (m * n) ++ (joinA (rs.map c)).toList) : Pso n c cs' cap' (m + m2) (qs ++ rs) :=
  ⟨h2, h1, h3, by rw [List.length_append, h.len, hr], by rw [h4, h.tk, List.map_append, joinA_append, Array.toList_append]⟩
theorem Pso.sl (h : Pso n c cs cap m qs) (hc : ∀ p, (c p).size = n) {j : Nat} (hj : j < m) : Sl cs (0 + j * n) (c (qs.getD j 0)) := fun k v hv => by
  have hjq : j < qs.length := by rw [h.len]; exact hj
  have hs := sl_joinC n (qs.map c) (fun a ha => by
    obtain ⟨p, -, rfl⟩ := List.mem_map.1 ha
    exact hc p) j (c (qs.getD j 0)) (by rw [List.getElem?_map, List.getD_eq_getElem?_getD, List.getElem?_eq_getElem hjq]; rfl) (j * n) rfl k v hv
  rw [← Array.getElem?_toList, ← h.tk, List.getElem?_take] at hs
  split at hs
  · rw [Nat.zero_add, ← Array.getElem?_toList]; exact hs
  · cases hs
theorem Pso.pts (h : Pso n c cs cap m qs) (hc : ∀ p, (c p).size = n) {w : World} {g : Nat} {t : TypeId} (hB : Blk w g t cs) : PtsAt n c w (some ⟨g, 0, none⟩) m qs :=
  ⟨h.len, fun _ => ⟨g, 0, rfl, hB.lt, fun i hi j v hv => by rw [hB.cell]; exact h.sl hc hi j v hv⟩⟩
theorem joinA_one (hone : ∀ p : Pt K, ∀ u ∈ (c p).toList, u.oneCell' = true) : ∀ (l : List (Pt K)), ∀ u ∈ (joinA (l.map c)).toList, u.oneCell' = true
  | [], u, hu => by simp [joinA] at hu
  | p :: l, u, hu => by
    rw [List.map_cons, joinA_cons, Array.toList_append] at hu
    rcases List.mem_append.1 hu with h | h
    · exact hone p u h
    · exact joinA_one hone l u h
theorem Pso.ones (h : Pso n c cs cap m qs) (hone : ∀ p : Pt K, ∀ u ∈ (c p).toList, u.oneCell' = true) : ∀ u ∈ (joinA (qs.map c)).toList, u.oneCell' = true := joinA_one hone qs
end
theorem g2_ones (p : Pt F2) : ∀ u ∈ (cg2 p).toList, u.oneCell' = true := fun u hu => by
  have := cg2_one p
  exact Array.all_eq_true_iff_forall_mem.1 this u (Array.mem_toList_iff.1 hu)
theorem zr_g2_1 : (Array.range (1 * 24)).map ((cg2 0)[· % (cg2 0).size]!) = joinA (List.replicate 1 (cg2 0)) := by rw [cg2_zero]; kernel_rfl
theorem sz_g2 : (Tryd.prog.info? 71).map (·.size) = some 24 := by kernel_rfl
theorem info_g2 : (Tryd.prog.info? 71).map (fun i => (i.zero, i.size, i.bytes)) = some (some (.agg (cg2 0)), 24, 192) := by rw [cg2_zero]; kernel_rfl
/-- A slice of slices of bytes. -/
def Scls (w : World) (B : Nat) (A : Option Addr) (n : Nat) (ps : List (List Int)) : Prop :=
  ps.length = n ∧ (0 < n → ∃ b o, A = some ⟨b, o, none⟩ ∧ b < B ∧ ∀ i, i < n → ∃ A' m c, w.cell? ⟨b, o + i, none⟩ = some (.slice A' m c) ∧ m ≤ c ∧ c ≤ 9223372036854775807 ∧ Reads w B A' m ((ps.getD i []).map (Value.int .u8)) ∧ Oct (ps.getD i []))
theorem slice_szg : (Tryd.prog.info? 22).map (·.size) = some 1 := by kernel_rfl
theorem und_psg : Tryd.prog.underlying 46 = some (.slice 22) := by kernel_rfl
theorem gives_load_oldSg {P : Program} {S : World → Prop} {l : List (Nat × Value)} {dst : Option Nat} {x : Operand} {t ty et : TypeId} {pos : String} {after : Array Edge} {gd : Option (Nat × Bool)} (p : Addr) (u : Value) (hx : rho l x = .pointer (some p)) (hB : ∀ w, S w → w.cell? p = some u) (ht : P.underlying t = some (.slice et)) :
    Gives P S u (execOp (rho l) ⟨dst, .load t x, ty, pos, after, gd⟩) := fun w hS => by
  refine .inl ⟨w, ?_, Below.refl _ _⟩
  have hb := hB w hS
  simp [execOp, hx, Instr.loadAt, Instr.sureAddr, loadVar, isAgg, run_underlying ht, hb]
/-- Bits of integers, as the machine takes them. -/
def bandI (a b : Int) : Int := IntKind.i64.wrap (((a % 2 ^ IntKind.i64.bits).toNat &&& (b % 2 ^ IntKind.i64.bits).toNat : Nat) : Int)
def byI (i : Int) : Int := IntKind.u64.wrap (bandI i 7)
theorem byI_nonneg (i : Int) : 0 ≤ byI i := by
  unfold byI
  rw [wrapU]
  exact (loW_in _).1
def shI (a i : Int) : Int := a.fdiv (2 ^ (min (byI i).toNat IntKind.i64.bits))
def bitI (a i : Int) : Int := bandI (shI a i) 1
theorem Scls.ways {w : World} {B n : Nat} {A : Option Addr} {ps : List (List Int)} (h : Scls w B A n ps) (i : Nat) (a : Int) :
    (∃ b o A' m c bs, i < n ∧ A = some ⟨b, o, none⟩ ∧ b < B ∧ w.cell? ⟨b, o + i, none⟩ = some (.slice A' m c) ∧ m ≤ c ∧ Reads w B A' m (bs.map (Value.int .u8)) ∧ Oct bs ∧ 100 < m) ∨
    (∃ b o A' m c bs, i < n ∧ A = some ⟨b, o, none⟩ ∧ b < B ∧ w.cell? ⟨b, o + i, none⟩ = some (.slice A' m c) ∧ m ≤ c ∧ Reads w B A' m (bs.map (Value.int .u8)) ∧ Oct bs ∧ m ≤ 100 ∧ bitI a (i : Int) = 1) ∨
    (∃ b o A' m c bs, i < n ∧ A = some ⟨b, o, none⟩ ∧ b < B ∧ w.cell? ⟨b, o + i, none⟩ = some (.slice A' m c) ∧ m ≤ c ∧ Reads w B A' m (bs.map (Value.int .u8)) ∧ Oct bs ∧ m ≤ 100 ∧ bitI a (i : Int) ≠ 1) ∨ n ≤ i := by
  by_cases hi : i < n
  · obtain ⟨b, o, hA, hb, hr⟩ := h.2 (by omega)
    obtain ⟨A', m, c, hc, hmc, _, hrd, ho⟩ := hr i hi
    by_cases hl : 100 < m
    · exact .inl ⟨b, o, A', m, c, _, hi, hA, hb, hc, hmc, hrd, ho, hl⟩
    · by_cases hb1 : bitI a (i : Int) = 1
      · exact .inr (.inl ⟨b, o, A', m, c, _, hi, hA, hb, hc, hmc, hrd, ho, by omega, hb1⟩)
      · exact .inr (.inr (.inl ⟨b, o, A', m, c, _, hi, hA, hb, hc, hmc, hrd, ho, by omega, hb1⟩))
  · exact .inr (.inr (.inr (by omega)))
section
variable {P : Program} {ops : Array Oper} {late : List Nat} {R : Act → World → Prop} {v : World} {L L0 : List (Nat × TypeId × Array Value)} {n : Nat} {sl : List (Nat × Value)}
theorem F_buildP {i d : Nat} {fuel : Nat} {listed : Array Bool} {gd : Option (Nat × Bool)} {t ty e : TypeId} {pos : String} {after : Array Edge} {parts : Array (Nat × Operand)} (m s : Nat) (z : Array Value) (ps : List (Nat × Array Value)) (out : Array Value)
    (hi : ops[i]? = some ⟨some d, .buildSlice t m parts, ty, pos, after, gd⟩) (hl : inFr n sl = true) (hw : Want ops n sl gd) (ht : P.underlying t = some (.slice e)) (hinfo : (P.info? e).map (fun i => (i.zero, i.size)) = some (some (.agg z), s))
    (hzz : (Array.range (m * s)).map (z[· % z.size]!) = joinA (List.replicate m z)) (hzs : z.size = s) (hb : m * s ≤ 16777216) (h0 : 0 < m * s) (hf : fits (List.replicate m s) ps)
    (he : (parts.toList.map fun x => (x.1, rho sl x.2)) = ps.map fun p => (p.1, Value.agg p.2)) (ho : joinA (putsA (List.replicate m z) ps) = out)
    (hs : L0.Sublist L) (h : ∀ g, wpF P .any ops late R (Hbl v L0) fuel (listed.setIfInBounds i true) (fr n ((d, .slice (some ⟨g, 0, none⟩) m m) :: sl)) (Hbl v ((g, e, out) :: L))) :
    ∀ w, Hbl v L w → wpOp P ops (Nrm R) i (fun a' w' => ∃ S', (i ∈ late ∨ Ext (Hbl v L0) S') ∧ S' w' ∧ wpF P .any ops late R (Hbl v L0) fuel (listed.setIfInBounds i true) a' S') (fr n sl) w := fun w hS => by
  obtain ⟨ie, hie, hz⟩ := Option.map_eq_some_iff.1 hinfo
  simp only [Prod.mk.injEq] at hz
  have hfill := fill_puts (fun i => some (i * s, s)) (List.replicate m s) (fun i hi => by
    simp only [List.take_replicate, List.sum_replicate_nat, List.getElem_replicate]
    rw [Nat.min_eq_left (by simpa using Nat.le_of_lt hi)]) ps (List.replicate m z) (by simp [hzs]) hf
  have he' : (parts.map fun x => (x.1, rho sl x.2)).toList = ps.map fun p => (p.1, Value.agg p.2) := by rw [← he]; simp
  rw [← hzz, ← he', ho] at hfill
  have hrun : (Instr.buildSlice t m (parts.map fun x => (x.1, rho sl x.2))).run P w = .ok (.slice (some ⟨w.heap.size, 0, none⟩) m m) (w.alloc (.cells out e)) := by
    refine run_buildSlice w t e m _ out ie (.agg z) ht hie hz.1 (by rw [hz.2]; omega) (by rw [hz.2]; omega) ?_
    rw [hz.2]
    exact hfill
  exact wpOp_runG (w' := w.alloc (.cells out e)) hi (hw ..) (by rw [fr_eval n sl hl]; simp only [execOp, Sem.run_bind]; rw [hrun]; rfl) ⟨_, .inr (Ext.of_sub (.cons _ hs)), hS.alloc e out, h _⟩
theorem F_build0 {i d fuel : Nat} {listed : Array Bool} {t ty e : TypeId} {pos : String} {after : Array Edge} (sz : Nat) (hi : ops[i]? = some ⟨some d, .buildSlice t 0 #[], ty, pos, after, none⟩) (hl : inFr n sl = true) (ht : P.underlying t = some (.slice e)) (hinfo : (P.info? e).map (·.size) = some sz) (hs : L0.Sublist L)
    (h : ∀ g, wpF P .any ops late R (Hbl v L0) fuel (listed.setIfInBounds i true) (fr n ((d, .slice (some ⟨g, 0, none⟩) 0 0) :: sl)) (Hbl v ((g, e, #[]) :: L))) :
    ∀ w, Hbl v L w → wpOp P ops (Nrm R) i (fun a' w' => ∃ S', (i ∈ late ∨ Ext (Hbl v L0) S') ∧ S' w' ∧ wpF P .any ops late R (Hbl v L0) fuel (listed.setIfInBounds i true) a' S') (fr n sl) w := fun w hS => by
  obtain ⟨ie, he, hz⟩ := Option.map_eq_some_iff.1 hinfo
  have hrun : (Instr.buildSlice t 0 ((#[] : Array (Nat × Operand)).map fun x => (x.1, rho sl x.2))).run P w = .ok (.slice (some ⟨w.heap.size, 0, none⟩) 0 0) (w.alloc (.cells #[] e)) := by
    have e0 : ∀ f : Nat → Value, (Array.range 0).map f = #[] := fun f => Array.eq_empty_of_size_eq_zero (by simp)
    simp [Instr.buildSlice, run_underlying ht, sizeOf, typeInfo, zeroValue, he, Instr.fill, newRow, newObj]
    rw [e0]
    rfl
  refine wpOp_run (w' := w.alloc (.cells #[] e)) hi rfl (.inl (by rw [fr_eval n sl hl]; simp only [execOp, Sem.run_bind]; rw [hrun]; rfl)) ⟨_, .inr (Ext.of_sub (.cons _ hs)), hS.alloc e #[], h _⟩
end
section
variable {n : Nat} {K : Type} [Zero K] {c : Pt K → Array Value} {cs : Array Value} {cap m : Nat} {qs : List (Pt K)}
theorem Pso.one (hc : ∀ p, (c p).size = n) (p : Pt K) : Pso n c (joinA [c p]) 1 1 [p] :=
  ⟨by simp [joinA, hc], Nat.le_refl _, by omega, rfl, List.take_of_length_le (by simp [joinA, hc])⟩
theorem Pso.q (h : Pso n c cs cap m qs) : m * n ≤ cs.size := by rw [h.size]; exact Nat.mul_le_mul_right n h.le
end
end Go.Proofs.YtialfoccalobpaaDoor
