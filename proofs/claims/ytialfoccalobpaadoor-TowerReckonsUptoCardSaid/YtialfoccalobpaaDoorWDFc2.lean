import Derived.Test.YtialfoccalobpaaDoorWDFr2
namespace Go.Proofs.YtialfoccalobpaaDoor
set_option linter.unusedSimpArgs false
set_option linter.unusedVariables false
open Go.RowKit
section
variable {P : Program} {S : World → Prop} {l : List (Nat × Value)} {dst : Option Nat} {x y : Operand} {t ty : TypeId} {pos : String} {after : Array Edge} {gd : Option (Nat × Bool)}
theorem gives_arr_low {e : TypeId} {k : IntKind} (g m j : Nat) (hx : rho l x = .pointer (some ⟨g, 0, none⟩)) (hy : rho l y = .int k (j : Int)) (ht : P.underlying t = some (.array m e)) (hs : (P.info? e).map (·.size) = some 1) (h1 : j ≤ m) (h0 : 0 < m) :
    Gives P S (.slice (some ⟨g, 0, none⟩) j m) (execOp (rho l) ⟨dst, .slice t x none (some y) none, ty, pos, after, gd⟩) := gives_value _ fun w => by
  obtain ⟨ie, he, hz⟩ := Option.map_eq_some_iff.1 hs
  have h2 : ¬ m = 0 := by omega
  simp [execOp, hx, hy, Instr.sliceAt, Instr.slice, Instr.sureAddr, Instr.sliceBounds, Instr.sliceBound, run_underlying ht, asIntOf, sizeOf, typeInfo, he, hz, add_plain, h1, h2]
theorem gives_arr_high {e : TypeId} {k : IntKind} (g m j : Nat) (hx : rho l x = .pointer (some ⟨g, 0, none⟩)) (hy : rho l y = .int k (j : Int)) (ht : P.underlying t = some (.array m e)) (hs : (P.info? e).map (·.size) = some 1) (h1 : j < m) :
    Gives P S (.slice (some ⟨g, j, none⟩) (m - j) (m - j)) (execOp (rho l) ⟨dst, .slice t x (some y) none none, ty, pos, after, gd⟩) := gives_value _ fun w => by
  obtain ⟨ie, he, hz⟩ := Option.map_eq_some_iff.1 hs
  have h2 : ¬ m = j := by omega
  have h3 : j ≤ m := by omega
  simp [execOp, hx, hy, Instr.sliceAt, Instr.slice, Instr.sureAddr, Instr.sliceBounds, Instr.sliceBound, run_underlying ht, asIntOf, sizeOf, typeInfo, he, hz, add_plain, h2, h3]
end
section
variable {P : Program} {ops : Array Oper} {late : List Nat} {R : Act → World → Prop} {v : World} {L L0 : List (Nat × TypeId × Array Value)} {n : Nat} {sl : List (Nat × Value)}
theorem F_copy {i d fuel : Nat} {listed : Array Bool} {x y : Operand} {dT sT ty : TypeId} {pos : String} {after : Array Edge} {e t t2 : TypeId} (kd ks g g2 off m dc sc : Nat) (cur src new : Array Value)
    (hi : ops[i]? = some ⟨some d, .call { callee := .builtin .copy, args := #[x, y], argTypes := #[dT, sT] }, ty, pos, after, none⟩) (hl : inFr n sl = true) (hu : P.underlying dT = some (.slice e)) (hsz : (P.info? e).map (·.size) = some 1)
    (hx : rho sl x = .slice (some ⟨g, off, none⟩) m dc) (hy : rho sl y = .slice (some ⟨g2, 0, none⟩) m sc) (hk : L[kd]? = some (g, t, cur)) (hk2 : L[ks]? = some (g2, t2, src)) (hm : src.size = m) (h1 : src.all (·.oneCell') = true) (hfit : off + m ≤ cur.size)
    (hnew : (splice cur.toList off src.toList).toArray = new) (hs : L0.Sublist (L.set kd (g, t, new)))
    (h : wpF P .any ops late R (Hbl v L0) fuel (listed.setIfInBounds i true) (fr n ((d, .int .i64 (m : Int)) :: sl)) (Hbl v (L.set kd (g, t, new)))) :
    ∀ w, Hbl v L w → wpOp P ops (Nrm R) i (fun a' w' => ∃ S', (i ∈ late ∨ Ext (Hbl v L0) S') ∧ S' w' ∧ wpF P .any ops late R (Hbl v L0) fuel (listed.setIfInBounds i true) a' S') (fr n sl) w := fun w hS => by
  have hB := hS.blk kd hk
  have hB2 := hS.blk ks hk2
  subst hm hnew
  have hrun := run_copy_row (P := P) w dT sT ty e g off src.size dc ⟨g2, 0, none⟩ src.size sc cur t src.toList hu hsz hB (by simp) (fun j u hu => by
    rw [add_plain, Nat.zero_add, hB2.cell]
    simpa using hu) (by simpa using hfit) (fun u hu => (Array.all_eq_true_iff_forall_mem.1 h1) u (by simpa using hu))
  refine wpOp_run (w' := w.setRow g (splice cur.toList off src.toList).toArray) hi rfl (.inl (by
    rw [fr_eval n sl hl]
    simp [execOp, resolve, invoke, builtin, hx, hy, hrun, splice, goInt])) ⟨_, .inr (Ext.of_sub hs), hS.store kd hk _ (setRow_heap w g _ _ t _ hB) (setRow_only _), h⟩
end
/-- Ninety-six bytes of a number of the field above: B first. -/
def b96c (x : F2) : Array Value := ag8 (lo (x.b.val : Int) 48 ++ lo (x.a.val : Int) 48)
theorem b96c_size (x : F2) : (b96c x).size = 96 := by rw [b96c, ag8_size, List.length_append, lo_len, lo_len]
theorem b96c_one (x : F2) : (b96c x).all (·.oneCell') = true := ag8_one _
theorem hi_b96 (x : F2) : (Tryd.prog.info? 126).map (·.size) = some (b96c x).size := by rw [b96c_size]; kernel_rfl
theorem z_b96 : (Tryd.prog.info? 126).map (·.zero) = some (some (.agg (b96c 0))) := by kernel_rfl
theorem und_b96 : Tryd.prog.underlying 126 = some (.array 96 5) := by kernel_rfl
theorem spl_low (x : F2) : (splice (b96c 0).toList 0 (b48c (x.b.val : Int)).toList).toArray = b96c ⟨0, x.b⟩ := by
  have e : (b96c 0).toList.drop 48 = (lo 0 48).map (Value.int .u8) := by kernel_rfl
  have h1 : (b48c (x.b.val : Int)).toList.length = 48 := by rw [Array.length_toList, b48c_size]
  simp only [splice, List.take_zero, List.nil_append, h1, Nat.zero_add]
  rw [e]
  simp [b48c, b96c, ag8]
theorem spl_high (x : F2) : (splice (b96c ⟨0, x.b⟩).toList 48 (b48c (x.a.val : Int)).toList).toArray = b96c x := by
  have h1 : (b48c (x.a.val : Int)).toList.length = 48 := by rw [Array.length_toList, b48c_size]
  have h2 : (b96c ⟨0, x.b⟩).toList.length = 96 := by rw [Array.length_toList, b96c_size]
  simp only [splice, h1]
  rw [List.drop_eq_nil_of_le (by omega), List.append_nil]
  simp [b48c, b96c, ag8, List.take_append, lo_len]
attribute [local irreducible] wpL wpF fr Code.wp bodyPost
set_option maxRecDepth 100000 in
set_option maxHeartbeats 4000000 in
theorem q_bytes (x : F2) (v : World) (hG : Glo v) : Rets 95 #[.agg (c2 (x))] v (.agg (b96c x)) := by
  refine calls_fr1 Tryd.func95 rfl (by rfl : _ = 19) (by rfl) ?_
  have hw := Hbl.nil v
  refine seq_plain hw [0, 1] (by rfl) ?_
  refine L_box (.agg (c2 (x))) (by rfl) (by rfl) (by rfl) (c2 (x)) (by rfl) ?_; intro g1
  refine L_alloc _ (by rfl) (by rfl) z_b96 (b96c (0 : F2)) rfl ?_; intro g2
  refine L_end ?_
  intro w1 hw1
  refine seq_plain hw1 [0] (by rfl) ?_
  refine L_alloc _ (by rfl) (by rfl) z_b96 (b96c (0 : F2)) rfl ?_; intro g3
  refine L_end ?_
  intro w2 hw2
  refine seq_flow_to (fun a w => ∃ g_4 g_5, a = fr 19 [(4, .pointer (some ⟨g_4, 0, none⟩)), (5, .pointer (some ⟨g_5, 0, none⟩)), (11, .agg (b48c (((x).a).val : Int))), (10, .agg (pc ((x).a))), (9, .pointer (some ⟨g1, 0, none⟩)), (8, .agg (b48c (((x).b).val : Int))), (7, .agg (pc ((x).b))), (6, .pointer (some ⟨g1, 6, none⟩)), (3, .pointer (some ⟨g3, 0, none⟩)), (2, .pointer (some ⟨g2, 0, none⟩)), (1, .pointer (some ⟨g1, 0, none⟩)), (0, .agg (c2 (x)))] ∧ Hbl v [(g_4, 31, (b48c (((x).b).val : Int))), (g_5, 31, (b48c (((x).a).val : Int))), (g3, 126, (b96c (0 : F2))), (g2, 126, (b96c (0 : F2))), (g1, 37, (c2 (x)))] w) (by kernel_rfl) hw2 [] [(g3, 126, (b96c (0 : F2))), (g2, 126, (b96c (0 : F2))), (g1, 37, (c2 (x)))] 10 (by rfl) ?_ ?_
  ·
    refine flow_take (i := 0) (.pointer (some ⟨g1, 6, none⟩)) (by rfl) (by kernel_rfl) (by kernel_rfl) (by kernel_rfl) (by rfl) (by kernel_rfl) (List.Sublist.refl _) (gives_value _ fun _ => by kernel_rfl) ?_
    refine flow_take (i := 1) (.agg (pc ((x).b))) (by rfl) (by kernel_rfl) (by kernel_rfl) (by kernel_rfl) (by rfl) (by kernel_rfl) (List.Sublist.refl _) (gives_load g1 6 37 (c2 (x)) (pc ((x).b)) _ (by rfl) (fun _ h => h.blk 2 (by rfl)) (sl_2b (x) _ _ 6 (Sl.refl _) (by rfl)) Tryd.underlying35 (by rfl) (hi_1 _)) ?_
    refine flow_take (i := 2) (.agg (b48c (((x).b).val : Int))) (by rfl) (by kernel_rfl) (by kernel_rfl) (by kernel_rfl) (by rfl) (by kernel_rfl) (List.Sublist.refl _) (gives_call (vl := [.agg (pc ((x).b))]) (by kernel_rfl) (by rfl) (fun w h => v_bytes _ w (hG.keep h.below))) ?_
    refine flow_take (i := 3) (.pointer (some ⟨g1, 0, none⟩)) (by rfl) (by kernel_rfl) (by kernel_rfl) (by kernel_rfl) (by rfl) (by kernel_rfl) (List.Sublist.refl _) (gives_value _ fun _ => by kernel_rfl) ?_
    refine flow_take (i := 4) (.agg (pc ((x).a))) (by rfl) (by kernel_rfl) (by kernel_rfl) (by kernel_rfl) (by rfl) (by kernel_rfl) (List.Sublist.refl _) (gives_load g1 0 37 (c2 (x)) (pc ((x).a)) _ (by rfl) (fun _ h => h.blk 2 (by rfl)) (sl_2a (x) _ _ (Sl.refl _)) Tryd.underlying35 (by rfl) (hi_1 _)) ?_
    refine flow_take (i := 5) (.agg (b48c (((x).a).val : Int))) (by rfl) (by kernel_rfl) (by kernel_rfl) (by kernel_rfl) (by rfl) (by kernel_rfl) (List.Sublist.refl _) (gives_call (vl := [.agg (pc ((x).a))]) (by kernel_rfl) (by rfl) (fun w h => v_bytes _ w (hG.keep h.below))) ?_
    refine flow_two 6 7 (by kernel_rfl) ?_ ?_
    ·
      refine F_alloc _ (by rfl) (by rfl) z_b48 (b48c (0 : Int)) rfl (List.Sublist.refl _) ?_; intro g_4
      refine flow_one 7 (by kernel_rfl) ?_
      refine F_alloc _ (by rfl) (by rfl) z_b48 (b48c (0 : Int)) rfl (List.Sublist.cons _ (List.Sublist.refl _)) ?_; intro g_5
      refine flow_one 8 (by kernel_rfl) ?_
      refine F_store (t := 31) 1 g_4 (b48c (0 : Int)) (b48c (((x).b).val : Int)) (by rfl) (by rfl) (by rfl) (by rfl) (by rfl) (hi_b48 _) ((b48c_size _).trans (b48c_size _).symm) (b48c_one _) (.inr (List.Sublist.cons _ (List.Sublist.cons _ (List.Sublist.refl _)))) ?_
      simp only [List.set_cons_zero, List.set_cons_succ]
      refine flow_one 9 (by kernel_rfl) ?_
      refine F_store (t := 31) 0 g_5 (b48c (0 : Int)) (b48c (((x).a).val : Int)) (by rfl) (by rfl) (by rfl) (by rfl) (by rfl) (hi_b48 _) ((b48c_size _).trans (b48c_size _).symm) (b48c_one _) (.inr (List.Sublist.cons _ (List.Sublist.cons _ (List.Sublist.refl _)))) ?_
      simp only [List.set_cons_zero, List.set_cons_succ]
      refine flow_done (by kernel_rfl) ?_
      intro wz hz
      exact ⟨g_4, g_5, ((fr_comm _ _ _ _ (by decide))), hz.perm (List.Perm.swap _ _ _)⟩
    ·
      refine F_alloc _ (by rfl) (by rfl) z_b48 (b48c (0 : Int)) rfl (List.Sublist.refl _) ?_; intro g_5
      refine flow_one 6 (by kernel_rfl) ?_
      refine F_alloc _ (by rfl) (by rfl) z_b48 (b48c (0 : Int)) rfl (List.Sublist.cons _ (List.Sublist.refl _)) ?_; intro g_4
      refine flow_one 8 (by kernel_rfl) ?_
      refine F_store (t := 31) 0 g_4 (b48c (0 : Int)) (b48c (((x).b).val : Int)) (by rfl) (by rfl) (by rfl) (by rfl) (by rfl) (hi_b48 _) ((b48c_size _).trans (b48c_size _).symm) (b48c_one _) (.inr (List.Sublist.cons _ (List.Sublist.cons _ (List.Sublist.refl _)))) ?_
      simp only [List.set_cons_zero, List.set_cons_succ]
      refine flow_one 9 (by kernel_rfl) ?_
      refine F_store (t := 31) 1 g_5 (b48c (0 : Int)) (b48c (((x).a).val : Int)) (by rfl) (by rfl) (by rfl) (by rfl) (by rfl) (hi_b48 _) ((b48c_size _).trans (b48c_size _).symm) (b48c_one _) (.inr (List.Sublist.cons _ (List.Sublist.cons _ (List.Sublist.refl _)))) ?_
      simp only [List.set_cons_zero, List.set_cons_succ]
      refine flow_done (by kernel_rfl) ?_
      intro wz hz
      exact ⟨g_4, g_5, rfl, hz.perm (List.Perm.refl _)⟩
  ·
    rintro a0 w3 ⟨g4, g5, rfl, hw3⟩
    refine seq_flow (by kernel_rfl) hw3 [] [(g4, 31, (b48c (((x).b).val : Int))), (g5, 31, (b48c (((x).a).val : Int))), (g2, 126, (b96c (0 : F2))), (g1, 37, (c2 (x)))] 3 (by rfl) ?_
    refine flow_take (i := 0) (.slice (some ⟨g3, 0, none⟩) 48 96) (by rfl) (by kernel_rfl) (by kernel_rfl) (by kernel_rfl) (by rfl) (by kernel_rfl) (List.Sublist.cons_cons _ (List.Sublist.cons_cons _ (List.Sublist.cons _ (List.Sublist.refl _)))) (gives_arr_low g3 96 48 (by rfl) (by rfl) und_b96 u8_sz (by omega) (by omega)) ?_
    refine flow_take (i := 1) (.slice (some ⟨g4, 0, none⟩) 48 48) (by rfl) (by kernel_rfl) (by kernel_rfl) (by kernel_rfl) (by rfl) (by kernel_rfl) (List.Sublist.cons_cons _ (List.Sublist.cons_cons _ (List.Sublist.cons _ (List.Sublist.refl _)))) (gives_slice_arr g4 48 1 (by rfl) und_b48 u8_sz) ?_
    refine flow_one 2 (by kernel_rfl) ?_
    refine F_copy 2 0 g3 g4 0 48 96 48 (b96c (0 : F2)) (b48c (((x).b).val : Int)) (b96c (⟨0, x.b⟩ : F2)) (by rfl) (by rfl) und_u8s u8_sz (by rfl) (by rfl) (by rfl) (by rfl) (b48c_size _) (b48c_one _) (by rw [b96c_size]; omega) (spl_low x) (List.Sublist.cons_cons _ (List.Sublist.cons_cons _ (List.Sublist.cons _ (List.Sublist.refl _)))) ?_
    simp only [List.set_cons_zero, List.set_cons_succ]
    refine flow_done (by kernel_rfl) ?_
    intro w4 hw4
    refine seq_flow (by kernel_rfl) hw4 [] [(g4, 31, (b48c (((x).b).val : Int))), (g5, 31, (b48c (((x).a).val : Int))), (g2, 126, (b96c (0 : F2))), (g1, 37, (c2 (x)))] 3 (by rfl) ?_
    refine flow_take (i := 0) (.slice (some ⟨g3, 48, none⟩) (96 - 48) (96 - 48)) (by rfl) (by kernel_rfl) (by kernel_rfl) (by kernel_rfl) (by rfl) (by kernel_rfl) (List.Sublist.cons_cons _ (List.Sublist.cons_cons _ (List.Sublist.cons _ (List.Sublist.refl _)))) (gives_arr_high g3 96 48 (by rfl) (by rfl) und_b96 u8_sz (by omega)) ?_
    refine flow_take (i := 1) (.slice (some ⟨g5, 0, none⟩) 48 48) (by rfl) (by kernel_rfl) (by kernel_rfl) (by kernel_rfl) (by rfl) (by kernel_rfl) (List.Sublist.cons_cons _ (List.Sublist.cons_cons _ (List.Sublist.cons _ (List.Sublist.refl _)))) (gives_slice_arr g5 48 1 (by rfl) und_b48 u8_sz) ?_
    refine flow_one 2 (by kernel_rfl) ?_
    refine F_copy 2 1 g3 g5 48 48 (96 - 48) 48 (b96c (⟨0, x.b⟩ : F2)) (b48c (((x).a).val : Int)) (b96c (x)) (by rfl) (by rfl) und_u8s u8_sz (by rfl) (by rfl) (by rfl) (by rfl) (b48c_size _) (b48c_one _) (by rw [b96c_size]; omega) (spl_high x) (List.Sublist.cons_cons _ (List.Sublist.cons_cons _ (List.Sublist.cons _ (List.Sublist.refl _)))) ?_
    simp only [List.set_cons_zero, List.set_cons_succ]
    refine flow_done (by kernel_rfl) ?_
    intro w5 hw5
    refine seq_plain hw5 [0, 1] (by rfl) ?_
    refine L_val (.agg (b96c (x))) (by rfl) (by rfl) (gives_load g3 0 126 (b96c (x)) (b96c (x)) _ (by rfl) (fun _ h => h.blk 2 (by rfl)) (Sl.refl _) Tryd.underlying126 (by rfl) (hi_b96 _)) ?_
    refine L_store (t := 126) 3 g2 (b96c (0 : F2)) (b96c (x)) (by rfl) (by rfl) (by rfl) (by rfl) (by rfl) (hi_b96 _) ((b96c_size _).trans (b96c_size _).symm) (b96c_one _) ?_
    simp only [List.set_cons_zero, List.set_cons_succ]
    refine L_end ?_
    intro w6 hw6
    refine wp_ret ?_
    change bodyPost _ _ _ Exit.ret _ _
    refine (ret_cell (by rfl) (by rfl) (by rfl) (hw6.blk 3 (by rfl)) Tryd.underlying126 (by rfl) (hi_b96 _) ⟨?_, hw6.below⟩)
    exact rfl
end Go.Proofs.YtialfoccalobpaaDoor
