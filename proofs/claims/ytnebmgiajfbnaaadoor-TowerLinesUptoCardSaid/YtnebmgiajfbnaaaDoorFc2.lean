import Derived.Test.YtnebmgiajfbnaaaDoorFr2
namespace Go.Proofs.YtnebmgiajfbnaaaDoor
set_option linter.unusedSimpArgs false
set_option linter.unusedVariables false
open Go.RowKit
section
variable {P : Program} {S : World → Prop} {l : List (Nat × Value)} {dst : Option Nat} {x y : Operand} {t ty : TypeId} {pos : String} {after : Array Edge} {gd : Option (Nat × Bool)}
theorem gives_arr_low {e : TypeId} {k : IntKind} (g m j : Nat) (hx : rho l x = .pointer (some ⟨g, 0, none⟩)) (hy : rho l y = .int k (j : Int)) (ht : P.underlying t = some (.array m e)) (hs : (P.info? e).map (·.size) = some 1) (h1 : j ≤ m) (h0 : 0 < m) :
    Gives P S (.slice (some ⟨g, 0, none⟩) j m) (execOp (rho l) ⟨dst, .slice t x none (some y) none, ty, pos, after, gd⟩) := gives_value _ fun w => by
  obtain ⟨ie, he, hz⟩ := Option.map_eq_some_iff.1 hs
  have h2 : ¬ m = 0 := by omega
  simp [execOp, hx, hy, Instr.sliceAt, Instr.slice, Instr.sureAddr, Instr.sliceBounds, Instr.sliceBound, run_underlying ht, asIntOf, sizeOf, typeInfo, he, hz, add_plain, h1, h2]
theorem gives_arr_high {e : TypeId} {k : IntKind} (g m j : Nat) (hx : rho l x = .pointer (some ⟨g, 0, none⟩)) (hy : rho l y = .int k (j : Int)) (ht : P.underlying t = some (.array m e)) (hs : (P.info? e).map (·.size) = some 1) (h1 : j < m) :
    Gives P S (.slice (some ⟨g, j, none⟩) (m - j) (m - j)) (execOp (rho l) ⟨dst, .slice t x (some y) none none, ty, pos, after, gd⟩) := gives_value _ fun w => by
  obtain ⟨ie, he, hz⟩ := Option.map_eq_some_iff.1 hs
  have h2 : ¬ m = j := by omega
  have h3 : j ≤ m := by omega
  simp [execOp, hx, hy, Instr.sliceAt, Instr.slice, Instr.sureAddr, Instr.sliceBounds, Instr.sliceBound, run_underlying ht, asIntOf, sizeOf, typeInfo, he, hz, add_plain, h2, h3]
end
section
variable {P : Program} {ops : Array Oper} {late : List Nat} {R : Act → World → Prop} {v : World} {L L0 : List (Nat × TypeId × Array Value)} {n : Nat} {sl : List (Nat × Value)}
theorem F_copy {i d fuel : Nat} {listed : Array Bool} {x y : Operand} {dT sT ty : TypeId} {pos : String} {after : Array Edge} {e t t2 : TypeId} (kd ks g g2 off m dc sc : Nat) (cur src new : Array Value)
    (hi : ops[i]? = some ⟨some d, .call { callee := .builtin .copy, args := #[x, y], argTypes := #[dT, sT] }, ty, pos, after, none⟩) (hl : inFr n sl = true) (hu : P.underlying dT = some (.slice e)) (hsz : (P.info? e).map (·.size) = some 1)
    (hx : rho sl x = .slice (some ⟨g, off, none⟩) m dc) (hy : rho sl y = .slice (some ⟨g2, 0, none⟩) m sc) (hk : L[kd]? = some (g, t, cur)) (hk2 : L[ks]? = some (g2, t2, src)) (hm : src.size = m) (h1 : src.all (·.oneCell') = true) (hfit : off + m ≤ cur.size)
    (hnew : (splice cur.toList off src.toList).toArray = new) (hs : L0.Sublist (L.set kd (g, t, new)))
    (h : wpF P .any ops late R (Hbl v L0) fuel (listed.setIfInBounds i true) (fr n ((d, .int .i64 (m : Int)) :: sl)) (Hbl v (L.set kd (g, t, new)))) :
    ∀ w, Hbl v L w → wpOp P ops (Nrm R) i (fun a' w' => ∃ S', (i ∈ late ∨ Ext (Hbl v L0) S') ∧ S' w' ∧ wpF P .any ops late R (Hbl v L0) fuel (listed.setIfInBounds i true) a' S') (fr n sl) w := fun w hS => by
  have hB := hS.blk kd hk
  have hB2 := hS.blk ks hk2
  subst hm hnew
  have hrun := run_copy_row (P := P) w dT sT ty e g off src.size dc ⟨g2, 0, none⟩ src.size sc cur t src.toList hu hsz hB (by simp) (fun j u hu => by
    rw [add_plain, Nat.zero_add, hB2.cell]
    simpa using hu) (by simpa using hfit) (fun u hu => (Array.all_eq_true_iff_forall_mem.1 h1) u (by simpa using hu))
  refine wpOp_run (w' := w.setRow g (splice cur.toList off src.toList).toArray) hi rfl (.inl (by
    rw [fr_eval n sl hl]
    simp [execOp, resolve, invoke, builtin, hx, hy, hrun, splice, goInt])) ⟨_, .inr (Ext.of_sub hs), hS.store kd hk _ (setRow_heap w g _ _ t _ hB) (setRow_only _), h⟩
end
/-- Ninety-six bytes of a number of the field above: B first. -/
def b96c (x : F2) : Array Value := ag8 (lo (x.b.val : Int) 48 ++ lo (x.a.val : Int) 48)
theorem b96c_size (x : F2) : (b96c x).size = 96 := by rw [b96c, ag8_size, List.length_append, lo_len, lo_len]
theorem b96c_one (x : F2) : (b96c x).all (·.oneCell') = true := ag8_one _
theorem hi_b96 (x : F2) : (Tryd.prog.info? 84).map (·.size) = some (b96c x).size := by rw [b96c_size]; kernel_rfl
theorem z_b96 : (Tryd.prog.info? 84).map (·.zero) = some (some (.agg (b96c 0))) := by kernel_rfl
theorem und_b96 : Tryd.prog.underlying 84 = some (.array 96 5) := by kernel_rfl
theorem spl_low (x : F2) : (splice (b96c 0).toList 0 (b48c (x.b.val : Int)).toList).toArray = b96c ⟨0, x.b⟩ := by
  have e : (b96c 0).toList.drop 48 = (lo 0 48).map (Value.int .u8) := by kernel_rfl
  have h1 : (b48c (x.b.val : Int)).toList.length = 48 := by rw [Array.length_toList, b48c_size]
  simp only [splice, List.take_zero, List.nil_append, h1, Nat.zero_add]
  rw [e]
  simp [b48c, b96c, ag8]
theorem spl_high (x : F2) : (splice (b96c ⟨0, x.b⟩).toList 48 (b48c (x.a.val : Int)).toList).toArray = b96c x := by
  have h1 : (b48c (x.a.val : Int)).toList.length = 48 := by rw [Array.length_toList, b48c_size]
  have h2 : (b96c ⟨0, x.b⟩).toList.length = 96 := by rw [Array.length_toList, b96c_size]
  simp only [splice, h1]
  rw [List.drop_eq_nil_of_le (by omega), List.append_nil]
  simp [b48c, b96c, ag8, List.take_append, lo_len]
attribute [local irreducible] wpL wpF fr Code.wp bodyPost
end Go.Proofs.YtnebmgiajfbnaaaDoor
