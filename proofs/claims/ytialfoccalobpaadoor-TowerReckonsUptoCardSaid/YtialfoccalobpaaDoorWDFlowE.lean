/-
  Flow, on: == of structs.
-/
import Derived.Test.YtialfoccalobpaaDoorWDA5
namespace Go.Proofs.YtialfoccalobpaaDoor
set_option linter.unusedSimpArgs false
set_option linter.unusedVariables false
open Go.RowKit
section
variable {P : Program}
/-- What the fields' comparisons come to. -/
inductive EqFs (P : Program) (w : World) (d : Nat) (xs ys : Array Value) : List Field → Bool → Prop
  | nil : EqFs P w d xs ys [] true
  | cons {f : Field} {fs : List Field} {a b : Value} {r r' : Bool} (hn : (f.name == "_") = false) (ha : (part f.type xs f.offset).run P w = .ok a w) (hb : (part f.type ys f.offset).run P w = .ok b w)
      (he : (Op.equalIn d f.type a b).run P w = .ok r w) (ht : EqFs P w d xs ys fs r') : EqFs P w d xs ys (f :: fs) (r && r')
theorem run_equalIn_struct (d : Nat) (w : World) (t : TypeId) (fs : Array Field) (xs ys : Array Value) (ht : P.underlying t = some (.struct fs)) (hs : P.stoodInHeld t = false) (r : Bool) (h : EqFs P w d xs ys fs.toList r) :
    (Op.equalIn (d + 1) t (.agg xs) (.agg ys)).run P w = .ok r w := by
  unfold Op.equalIn
  simp only [Sem.run_bind, run_underlying ht, run_program, Result.andThen_ok, hs, Bool.false_eq_true, if_false]
  rw [← Array.forIn_toList]
  generalize fs.toList = l at h
  induction h with
  | nil => simp
  | @cons f fs a b r r' hn ha hb he ht ih =>
    have hn' : f.name ≠ "_" := by simpa using hn
    rw [List.forIn_cons]
    cases r with
    | true =>
      simp only [Sem.run_bind, hn', ne_eq, not_false_eq_true, if_true, ha, hb, he, Result.andThen_ok, Bool.not_true, Bool.false_eq_true, if_false, Sem.run_pure, Bool.true_and]
      simp only [ne_eq] at ih
      exact ih
    | false =>
      simp [Sem.run_bind, hn', ha, hb, he]
theorem run_part_agg (w : World) (ty : TypeId) (cs sub : Array Value) (o : Nat) (d : TypeDesc) (hu : P.underlying ty = some d) (hd : (match d with | .struct _ | .array _ _ => true | _ => false) = true) (hi : (P.info? ty).map (·.size) = some sub.size)
    (hs : cs.extract o (o + sub.size) = sub) : (part ty cs o).run P w = .ok (.agg sub) w := by
  cases hq : P.info? ty with
  | none => simp [hq] at hi
  | some i =>
    have hsz : i.size = sub.size := by simpa [hq] using hi
    have hagg : (isAgg ty).run P w = .ok true w := by
      unfold isAgg
      rw [Sem.run_bind, run_underlying hu w]
      cases d <;> simp_all
    simp [part, Sem.run_bind, hagg, sizeOf, typeInfo, hq, hsz, hs]
theorem ext_left (a b : Array Value) (n : Nat) (h : a.size = n) : (a ++ b).extract 0 (0 + n) = a := by
  subst h; simp [Array.extract_append]
theorem ext_right (a b : Array Value) (n m : Nat) (h : a.size = n) (hm : b.size = m) : (a ++ b).extract n (n + m) = b := by
  subst h hm; simp [Array.extract_append]
theorem ext_mid (a b c : Array Value) (n m : Nat) (h : a.size = n) (hm : b.size = m) : (a ++ (b ++ c)).extract n (n + m) = b := by
  subst h hm; simp [Array.extract_append]
theorem ext_last (a b c : Array Value) (n m k : Nat) (h : a.size = n) (hm : b.size = m) (hk : c.size = k) (q : Nat) (hq : n + m = q) : (a ++ (b ++ c)).extract q (q + k) = c := by
  rw [← Array.append_assoc]
  exact ext_right (a ++ b) c q k (by simp; omega) hk
end
theorem und_arr6 : Tryd.prog.underlying 33 = some (.array 6 32) := by kernel_rfl
theorem und_u64 : Tryd.prog.underlying 32 = some (.int .u64) := by kernel_rfl
theorem hi_arr6 (x : Fp) : (Tryd.prog.info? 33).map (·.size) = some (pc x).size := by rw [pc_size]; kernel_rfl
theorem pc_wd (x : Fp) (i : Nat) (hi : i < 6) : (pc x)[i]? = some (.int .u64 (wd (fe Mp (Wd ^ 6) x.val) i)) := by
  match i, hi with
  | 0, _ | 1, _ | 2, _ | 3, _ | 4, _ | 5, _ => rfl
theorem eq_arr6 (x y : Fp) (d : Nat) (w : World) : (Op.equalIn (d + 1 + 1) 33 (.agg (pc x)) (.agg (pc y))).run Tryd.prog w = .ok (decide (x = y)) w := by
  refine run_equalIn_arr d w _ _ 6 .u64 _ _ und_arr6 und_u64 size23 (fun i hi => ⟨_, _, pc_wd x i hi, pc_wd y i hi⟩) _ ?_
  rw [decide_eq_true_iff]
  constructor
  · rintro rfl i _; rfl
  · intro h
    have hM := Mp_lo
    have h0 := h 0 (by omega)
    have h1 := h 1 (by omega)
    have h2 := h 2 (by omega)
    have h3 := h 3 (by omega)
    have h4 := h 4 (by omega)
    have h5 := h 5 (by omega)
    simp only [pc_wd x _ (show 0 < 6 by omega), pc_wd x _ (show 1 < 6 by omega), pc_wd x _ (show 2 < 6 by omega), pc_wd x _ (show 3 < 6 by omega), pc_wd x _ (show 4 < 6 by omega), pc_wd x _ (show 5 < 6 by omega), pc_wd y _ (show 0 < 6 by omega), pc_wd y _ (show 1 < 6 by omega), pc_wd y _ (show 2 < 6 by omega), pc_wd y _ (show 3 < 6 by omega), pc_wd y _ (show 4 < 6 by omega), pc_wd y _ (show 5 < 6 by omega), Option.some.injEq, Value.int.injEq, true_and] at h0 h1 h2 h3 h4 h5
    have px := pe_in x.val
    have py := pe_in y.val
    have e : fe Mp (Wd ^ 6) x.val = fe Mp (Wd ^ 6) y.val := by
      rw [nu6 _ px.1 (by omega), nu6 (fe Mp (Wd ^ 6) y.val) py.1 (by omega), h0, h1, h2, h3, h4, h5]
    have e2 := (fe_inj Rip_ok).1 e
    rw [Fp.val_mod, Fp.val_mod] at e2
    apply Fin.ext
    omega
theorem sh_1 : (Tryd.prog).stoodInHeld 35 = false := by kernel_rfl
theorem sh_2 : (Tryd.prog).stoodInHeld 37 = false := by kernel_rfl
theorem eq_1 (x y : Fp) (d : Nat) (w : World) : (Op.equalIn (d + 1 + 1 + 1) 35 (.agg (pc x)) (.agg (pc y))).run Tryd.prog w = .ok (decide (x = y)) w := by
  refine run_equalIn_struct (d + 1 + 1) w _ _ _ _ Tryd.underlying35 sh_1 _ ?_
  rw [← Bool.and_true (decide (x = y))]
  refine EqFs.cons (fs := []) ?_ (run_part_agg w 33 (pc x) (pc x) 0 _ und_arr6 rfl (hi_arr6 _) (by simp)) (run_part_agg w 33 (pc y) (pc y) 0 _ und_arr6 rfl (hi_arr6 _) (by simp)) (eq_arr6 x y d w) .nil
  kernel_rfl
theorem F2.eq_iff {x y : F2} : x = y ↔ x.a = y.a ∧ x.b = y.b := ⟨fun h => by rw [h]; exact ⟨rfl, rfl⟩, fun h => F2.same h.1 h.2⟩
theorem C3.eq_iff {x y : C3} : x = y ↔ x.a = y.a ∧ x.b = y.b ∧ x.c = y.c := ⟨fun h => by rw [h]; exact ⟨rfl, rfl, rfl⟩, fun h => C3.same h.1 h.2.1 h.2.2⟩
theorem T12.eq_iff {x y : T12} : x = y ↔ x.a = y.a ∧ x.b = y.b := ⟨fun h => by rw [h]; exact ⟨rfl, rfl⟩, fun h => T12.same h.1 h.2⟩
instance : DecidableEq F2 := fun _ _ => decidable_of_iff _ F2.eq_iff.symm
instance : DecidableEq C3 := fun _ _ => decidable_of_iff _ C3.eq_iff.symm
instance : DecidableEq T12 := fun _ _ => decidable_of_iff _ T12.eq_iff.symm
theorem eq_2 (x y : F2) (d : Nat) (w : World) : (Op.equalIn (d + 1 + 1 + 1 + 1) 37 (.agg (c2 x)) (.agg (c2 y))).run Tryd.prog w = .ok (decide (x = y)) w := by
  refine run_equalIn_struct (d + 1 + 1 + 1) w _ _ _ _ Tryd.underlying37 sh_2 _ ?_
  rw [decide_eq_decide.2 F2.eq_iff, Bool.decide_and, ← Bool.and_true (decide (x.b = y.b))]
  refine EqFs.cons ?_ (run_part_agg w 35 (c2 x) (pc x.a) 0 _ Tryd.underlying35 rfl (hi_1 _) (ext_left _ _ 6 (pc_size _))) (run_part_agg w 35 (c2 y) (pc y.a) 0 _ Tryd.underlying35 rfl (hi_1 _) (ext_left _ _ 6 (pc_size _))) (eq_1 x.a y.a d w)
    (EqFs.cons (fs := []) ?_ (run_part_agg w 35 (c2 x) (pc x.b) 6 _ Tryd.underlying35 rfl (hi_1 _) (ext_right _ _ 6 6 (pc_size _) (pc_size _))) (run_part_agg w 35 (c2 y) (pc y.b) 6 _ Tryd.underlying35 rfl (hi_1 _) (ext_right _ _ 6 6 (pc_size _) (pc_size _))) (eq_1 x.b y.b d w) .nil)
  all_goals kernel_rfl
section
variable {P : Program} {S : World → Prop}
theorem gives_eql {l : List (Nat × Value)} {dst : Option Tmp} {t ct ty : TypeId} {x y : Operand} {pos : String} {after : Array Edge} {gd : Option (Nat × Bool)} (A B : Array Value) (r : Bool) (hx : rho l x = .agg A) (hy : rho l y = .agg B)
    (hg : P.eqGuardType P.depth t = false) (h : ∀ w, (Op.equalIn 10000 t (.agg A) (.agg B)).run P w = .ok r w) : Gives P S (.bool r) (execOp (rho l) ⟨dst, .binOp .eql t x y ct, ty, pos, after, gd⟩) := gives_value _ fun w => by
  have h' : (Op.equal t (.agg A) (.agg B)).run P w = .ok r w := h w
  simp [execOp, hx, hy, eqGuard, hg, binOp, h']
theorem gives_neq {l : List (Nat × Value)} {dst : Option Tmp} {t ct ty : TypeId} {x y : Operand} {pos : String} {after : Array Edge} {gd : Option (Nat × Bool)} (A B : Array Value) (r : Bool) (hx : rho l x = .agg A) (hy : rho l y = .agg B)
    (hg : P.eqGuardType P.depth t = false) (h : ∀ w, (Op.equalIn 10000 t (.agg A) (.agg B)).run P w = .ok r w) : Gives P S (.bool (!r)) (execOp (rho l) ⟨dst, .binOp .neq t x y ct, ty, pos, after, gd⟩) := gives_value _ fun w => by
  have h' : (Op.equal t (.agg A) (.agg B)).run P w = .ok r w := h w
  simp [execOp, hx, hy, eqGuard, hg, binOp, h']
end
end Go.Proofs.YtialfoccalobpaaDoor
