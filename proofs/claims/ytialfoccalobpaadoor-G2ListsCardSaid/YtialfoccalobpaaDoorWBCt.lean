/-
  Arrays of sixteen points, slices of points: laws.
-/
import Derived.Test.YtialfoccalobpaaDoorWBCk
namespace Go.Proofs.YtialfoccalobpaaDoor
set_option linter.unusedSimpArgs false
set_option linter.unusedVariables false
set_option linter.unusedSectionVars false
open Go.RowKit
section
variable {P : Program} {S : World → Prop} {l : List (Nat × Value)} {dst : Option Tmp} {x y : Operand} {t ty : TypeId} {pos : String} {after : Array Edge} {gd : Option (Nat × Bool)}
theorem gives_index_arr {e : TypeId} {k : IntKind} (g m s : Nat) (i : Int) (j o : Nat) (hx : rho l x = .pointer (some ⟨g, 0, none⟩)) (hy : rho l y = .int k i) (ht : P.underlying t = some (.array m e)) (hs : (P.info? e).map (·.size) = some s) (h0 : i = (j : Int)) (h1 : j < m) (ho : j * s = o) :
    Gives P S (.pointer (some ⟨g, o, none⟩)) (execOp (rho l) ⟨dst, .indexAddr t x y, ty, pos, after, gd⟩) := gives_value _ fun w => by
  subst h0 ho
  obtain ⟨ie, he, hz⟩ := Option.map_eq_some_iff.1 hs
  simp [execOp, hx, hy, Instr.indexAt, Instr.sureAddr, run_underlying ht, asIntOf, sizeOf, typeInfo, he, hz, h1, add_plain]
theorem gives_index_sl {e : TypeId} {k : IntKind} (A : Option Addr) (b o m c s : Nat) (i : Int) (j q : Nat) (hA : A = some ⟨b, o, none⟩) (hx : rho l x = .slice A m c) (hy : rho l y = .int k i) (ht : P.underlying t = some (.slice e)) (hs : (P.info? e).map (·.size) = some s) (h0 : i = (j : Int)) (h1 : j < m) (hq : o + j * s = q) :
    Gives P S (.pointer (some ⟨b, q, none⟩)) (execOp (rho l) ⟨dst, .indexAddr t x y, ty, pos, after, gd⟩) := gives_value _ fun w => by
  subst h0 hA hq
  obtain ⟨ie, he, hz⟩ := Option.map_eq_some_iff.1 hs
  simp [execOp, hx, hy, Instr.indexAt, run_underlying ht, asIntOf, sizeOf, typeInfo, he, hz, h1, add_plain]
theorem gives_loadA {ty' : TypeId} (b o : Nat) (sub : Array Value) (d : TypeDesc) (hx : rho l x = .pointer (some ⟨b, o, none⟩)) (hB : ∀ w, S w → ∀ (j : Nat) v, sub[j]? = some v → w.cell? ⟨b, o + j, none⟩ = some v)
    (hu : P.underlying ty = some d) (hd : (match d with | .struct _ | .array _ _ => true | _ => false) = true) (hi : (P.info? ty).map (·.size) = some sub.size) :
    Gives P S (.agg sub) (execOp (rho l) ⟨dst, .load ty x, ty', pos, after, gd⟩) := fun w hS => by
  refine .inl ⟨w, ?_, Below.refl _ _⟩
  have hl : (loadCells ⟨b, o, none⟩ sub.toList.length).run P w = .ok sub.toList.toArray w :=
    run_loadCells_list (P := P) w ⟨b, o, none⟩ sub.toList (fun j u hv => by
      rw [add_plain]
      exact hB w hS j u (by simpa using hv))
  have hrun : (loadVar ty ⟨b, o, none⟩).run P w = .ok (.agg sub) w := by
    cases hq : P.info? ty with
    | none => simp [hq] at hi
    | some i =>
      have hsz : i.size = sub.size := by simpa [hq] using hi
      have hagg : (isAgg ty).run P w = .ok true w := by
        unfold isAgg
        rw [Sem.run_bind, run_underlying hu w]
        cases d <;> simp_all
      simp only [Array.length_toList, Array.toArray_toList] at hl
      simp [loadVar, Sem.run_bind, hagg, sizeOf, typeInfo, hq, hsz, hl]
  simp [execOp, hx, Instr.loadAt, Instr.sureAddr, hrun]
end
section
variable {P : Program} {ops : Array Oper} {late : List Nat} {R : Act → World → Prop} {v : World} {L L0 : List (Nat × TypeId × Array Value)} {n : Nat} {sl : List (Nat × Value)}
theorem F_storeA {i fuel : Nat} {listed : Array Bool} {t ty ty' : TypeId} {x y : Operand} {pos : String} {after : Array Edge} (k g o : Nat) (old cs new : Array Value) (hi : ops[i]? = some ⟨none, .store ty x y, ty', pos, after, none⟩) (hl : inFr n sl = true)
    (hx : rho sl x = .pointer (some ⟨g, o, none⟩)) (hy : rho sl y = .agg cs) (hk : L[k]? = some (g, t, old)) (hz : (P.info? ty).map (·.size) = some cs.size) (ho : o + cs.size ≤ old.size) (h1 : cs.all (·.oneCell') = true) (hn : (splice old.toList o cs.toList).toArray = new)
    (hs : i ∈ late ∨ L0.Sublist (L.set k (g, t, new))) (h : wpF P .any ops late R (Hbl v L0) fuel (listed.setIfInBounds i true) (fr n sl) (Hbl v (L.set k (g, t, new)))) :
    ∀ w, Hbl v L w → wpOp P ops (Nrm R) i (fun a' w' => ∃ S', (i ∈ late ∨ Ext (Hbl v L0) S') ∧ S' w' ∧ wpF P .any ops late R (Hbl v L0) fuel (listed.setIfInBounds i true) a' S') (fr n sl) w := fun w hS => by
  have hB := hS.blk k hk
  have hr := run_storeVar_only (P := P) w g o t ty old cs hB hz ho h1
  rw [hn] at hr
  exact wpOp_run (w' := w.setRow g new) (u := undef) hi rfl (.inr (by rw [fr_eval n sl hl]; simp [execOp, hx, hy, Instr.storeAt, Instr.sureAddr, hr])) ⟨_, hs.imp id Ext.of_sub, hS.store k hk _ (setRow_heap w g _ _ t _ hB) (setRow_only _), h⟩
/-- A slice of elements is built of values of the same size. -/
theorem L_buildP {i d : Nat} {il : List Nat} {t ty e : TypeId} {pos : String} {after : Array Edge} {parts : Array (Nat × Operand)} (m s : Nat) (z : Array Value) (ps : List (Nat × Array Value)) (out : Array Value)
    (hi : ops[i]? = some ⟨some d, .buildSlice t m parts, ty, pos, after, none⟩) (hl : inFr n sl = true) (ht : P.underlying t = some (.slice e)) (hinfo : (P.info? e).map (fun i => (i.zero, i.size)) = some (some (.agg z), s))
    (hzz : (Array.range (m * s)).map (z[· % z.size]!) = joinA (List.replicate m z)) (hzs : z.size = s) (hb : m * s ≤ 16777216) (h0 : 0 < m * s) (hf : fits (List.replicate m s) ps)
    (he : (parts.toList.map fun x => (x.1, rho sl x.2)) = ps.map fun p => (p.1, Value.agg p.2)) (ho : joinA (putsA (List.replicate m z) ps) = out)
    (h : ∀ g, wpL P ops R il (fr n ((d, .slice (some ⟨g, 0, none⟩) m m) :: sl)) (Hbl v ((g, e, out) :: L))) : wpL P ops R (i :: il) (fr n sl) (Hbl v L) := fun w hS => by
  obtain ⟨ie, hie, hz⟩ := Option.map_eq_some_iff.1 hinfo
  simp only [Prod.mk.injEq] at hz
  have hfill := fill_puts (fun i => some (i * s, s)) (List.replicate m s) (fun i hi => by
    simp only [List.take_replicate, List.sum_replicate_nat, List.getElem_replicate]
    rw [Nat.min_eq_left (by simpa using Nat.le_of_lt hi)]) ps (List.replicate m z) (by simp [hzs]) hf
  have he' : (parts.map fun x => (x.1, rho sl x.2)).toList = ps.map fun p => (p.1, Value.agg p.2) := by rw [← he]; simp
  rw [← hzz, ← he', ho] at hfill
  have hrun : (Instr.buildSlice t m (parts.map fun x => (x.1, rho sl x.2))).run P w = .ok (.slice (some ⟨w.heap.size, 0, none⟩) m m) (w.alloc (.cells out e)) := by
    refine run_buildSlice w t e m _ out ie (.agg z) ht hie hz.1 (by rw [hz.2]; omega) (by rw [hz.2]; omega) ?_
    rw [hz.2]
    exact hfill
  refine wpOp_run (w' := w.alloc (.cells out e)) hi rfl (.inl (by rw [fr_eval n sl hl]; simp only [execOp, Sem.run_bind]; rw [hrun]; rfl)) ⟨_, Hbl.stays v _, hS.alloc e out, h _⟩
end
theorem shr_4 (u : Nat) : ((u : Int)).fdiv (2 ^ (min (4 : Int).toNat IntKind.u8.bits)) = ((u / 16 : Nat) : Int) := by
  have e : min (4 : Int).toNat IntKind.u8.bits = 4 := by decide
  rw [e, Int.fdiv_eq_ediv_of_nonneg _ (by decide)]
  rfl
theorem and_15 (u : Nat) (h : u < 256) : IntKind.u8.wrap ((((u : Int) % 2 ^ IntKind.u8.bits).toNat &&& ((15 : Int) % 2 ^ IntKind.u8.bits).toNat : Nat) : Int) = ((u % 16 : Nat) : Int) := by
  have e1 : (2 : Int) ^ IntKind.u8.bits = 256 := by decide
  have e2 : ((15 : Int) % 256).toNat = 2 ^ 4 - 1 := by decide
  rw [e1, e2, Nat.and_two_pow_sub_one_eq_mod, Int.emod_eq_of_lt (by omega) (by omega), Int.toNat_natCast]
  exact IntWalk.u8_in _ (by omega)
theorem oct_nat {bs : List Int} (ho : Oct bs) (k : Nat) : ∃ u : Nat, gt bs k = (u : Int) ∧ u < 256 := by
  have := ho.at_ k
  exact ⟨(gt bs k).toNat, by omega, by omega⟩
section
variable {K : Type} [Add K] [Sub K] [Neg K] [Mul K] [Zero K] [One K] [DecidableEq K]
/-- The bytes' sum so far, and one more. -/
def tsum (p : J3 K) (bs : List Int) : J3 K := J3.times p (bs.map Int.toNat)
theorem tsum_nil (p : J3 K) (bs : List Int) : tsum p (bs.take 0) = 0 := by simp [tsum, J3.times]
theorem tsum_next (p : J3 K) (bs : List Int) (k u : Nat) (hk : k < bs.length) (hu : gt bs k = (u : Int)) : tsum p (bs.take (k + 1)) = J3.add (J3.sixteen (J3.add (J3.sixteen (tsum p (bs.take k))) (J3.few p (u / 16)))) (J3.few p (u % 16)) := by
  have e : bs.take (k + 1) = bs.take k ++ [gt bs k] := by rw [gt_eq hk, List.take_append_getElem hk]
  rw [e, tsum, List.map_append, J3.times, List.foldl_append]
  simp only [List.map_cons, List.map_nil, List.foldl_cons, List.foldl_nil, hu, Int.toNat_natCast]
  rfl
theorem num_fold (bs : List Int) (ho : Oct bs) : (bs.map Int.toNat).foldl (fun n v => 256 * n + v) 0 = (num bs).toNat := by
  have key : ∀ (bs : List Int) (n : Nat), Oct bs → ((bs.map Int.toNat).foldl (fun n v => 256 * n + v) n : Nat) = (bs.foldl (fun a b => a * 256 + b) (n : Int)).toNat := fun bs => by
    induction bs with
    | nil => intro n _; simp
    | cons b l ih =>
      intro n h
      have hb := h b (List.mem_cons_self ..)
      simp only [List.map_cons, List.foldl_cons]
      rw [ih _ (fun c hc => h c (List.mem_cons_of_mem _ hc))]
      congr 2
      omega
  exact key bs 0 ho
end
theorem few_at {K : Type} [Add K] [Sub K] [Neg K] [Mul K] [Zero K] [One K] [DecidableEq K] (c : J3 K → Array Value) (p : J3 K) (j : Nat) (h : j < 16) :
    [c (0 : J3 K), c (J3.few p 1), c (J3.few p 2), c (J3.few p 3), c (J3.few p 4), c (J3.few p 5), c (J3.few p 6), c (J3.few p 7), c (J3.few p 8), c (J3.few p 9), c (J3.few p 10), c (J3.few p 11), c (J3.few p 12), c (J3.few p 13), c (J3.few p 14), c (J3.few p 15)][j]? = some (c (J3.few p j)) := by
  match j, h with
  | 0, _ => rfl
  | 1, _ => rfl
  | 2, _ => rfl
  | 3, _ => rfl
  | 4, _ => rfl
  | 5, _ => rfl
  | 6, _ => rfl
  | 7, _ => rfl
  | 8, _ => rfl
  | 9, _ => rfl
  | 10, _ => rfl
  | 11, _ => rfl
  | 12, _ => rfl
  | 13, _ => rfl
  | 14, _ => rfl
  | 15, _ => rfl
  | n + 16, h => exact absurd h (by omega)
theorem joinA_rep (v : Value) (n : Nat) : ∀ m, joinA (List.replicate m (List.replicate n v).toArray) = (List.replicate (m * n) v).toArray
  | 0 => by simp [joinA]
  | m + 1 => by
    rw [List.replicate_succ, joinA_cons, joinA_rep v n m, List.append_toArray, List.replicate_append_replicate, Nat.succ_mul, Nat.add_comm n]
def isZ : Value → Bool
  | .int .u64 (.ofNat n) => Nat.beq n 0
  | _ => false
theorem isZ_eq {v : Value} (h : isZ v = true) : v = .int .u64 0 := by
  unfold isZ at h
  split at h
  · rw [Nat.eq_of_beq_eq_true h]; rfl
  · cases h
def zerosOf (n : Nat) : Option Value → Bool
  | some (.agg c) => Nat.beq c.toList.length n && c.toList.all isZ
  | _ => false
theorem zerosOf_eq {n : Nat} {z : Option Value} (h : zerosOf n z = true) : z = some (.agg (List.replicate n (Value.int .u64 0)).toArray) := by
  unfold zerosOf at h
  split at h
  · rename_i c
    simp only [Bool.and_eq_true] at h
    have e : c.toList = List.replicate n (.int .u64 0) := List.eq_replicate_iff.2 ⟨Nat.eq_of_beq_eq_true h.1, fun b hb => isZ_eq (List.all_eq_true.1 h.2 b hb)⟩
    rw [← e]
  · cases h
theorem zero_of {t : TypeId} (n : Nat) (h : ((Tryd.prog.info? t).map (fun i => zerosOf n i.zero)) = some true) : (Tryd.prog.info? t).map (·.zero) = some (some (.agg (List.replicate n (Value.int .u64 0)).toArray)) := by
  obtain ⟨i, hi, hz⟩ := Option.map_eq_some_iff.1 h
  rw [hi]
  simp only [Option.map_some]
  rw [zerosOf_eq hz]
theorem joinA_rep16 (a : Array Value) : joinA [a, a, a, a, a, a, a, a, a, a, a, a, a, a, a, a] = joinA (List.replicate 16 a) := rfl
theorem z_a16_2 : (Tryd.prog.info? 183).map (·.zero) = some (some (.agg (joinA [cp2 (0 : J3 F2), cp2 (0 : J3 F2), cp2 (0 : J3 F2), cp2 (0 : J3 F2), cp2 (0 : J3 F2), cp2 (0 : J3 F2), cp2 (0 : J3 F2), cp2 (0 : J3 F2), cp2 (0 : J3 F2), cp2 (0 : J3 F2), cp2 (0 : J3 F2), cp2 (0 : J3 F2), cp2 (0 : J3 F2), cp2 (0 : J3 F2), cp2 (0 : J3 F2), cp2 (0 : J3 F2)]))) := by
  rw [joinA_rep16, cp2_zero, joinA_rep]
  exact zero_of 576 (by kernel_rfl)
end Go.Proofs.YtialfoccalobpaaDoor
