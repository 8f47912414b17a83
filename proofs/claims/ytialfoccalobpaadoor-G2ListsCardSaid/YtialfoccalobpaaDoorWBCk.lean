/-
  Points in memory; calls of methods through an interface.
-/
import Derived.Test.YtialfoccalobpaaDoorWBCu
import Derived.Test.YtialfoccalobpaaDoorWBFs
import Derived.Test.YtialfoccalobpaaDoorWBAr
namespace Go.Proofs.YtialfoccalobpaaDoor
set_option linter.unusedSimpArgs false
set_option linter.unusedVariables false
open Go.RowKit

/-! ## the points over cresset/g1.P -/
section
variable {S : World → Prop} {l : List (Nat × Value)} {dst : Option Tmp} {parts : Array (Nat × Operand)} {ty : TypeId} {pos : String} {after : Array Edge} {gd : Option (Nat × Bool)}
end
/-! ## the points over cresset/g2.P -/
def cg2 (x : Pt F2) : Array Value := c2 x.x ++ c2 x.y
def cp2 (x : J3 F2) : Array Value := c2 x.x ++ (c2 x.y ++ c2 x.z)
theorem cg2_size (x : Pt F2) : (cg2 x).size = 24 := by simp [cg2, c2_size]
theorem cp2_size (x : J3 F2) : (cp2 x).size = 36 := by simp [cp2, c2_size]
theorem cg2_one (x : Pt F2) : (cg2 x).all (·.oneCell') = true := by simp only [cg2, Array.all_append, c2_one]; rfl
theorem cp2_one (x : J3 F2) : (cp2 x).all (·.oneCell') = true := by simp only [cp2, Array.all_append, c2_one]; rfl
theorem sl_g2x (x : Pt F2) (cs : Array Value) (o : Nat) (h : Sl cs o (cg2 x)) : Sl cs o (c2 x.x) := Sl.left h
theorem sl_g2y (x : Pt F2) (cs : Array Value) (o m : Nat) (h : Sl cs o (cg2 x)) (hm : o + 12 = m) : Sl cs m (c2 x.y) := Sl.right h 12 (c2_size _) m hm
theorem sl_p2x (x : J3 F2) (cs : Array Value) (o : Nat) (h : Sl cs o (cp2 x)) : Sl cs o (c2 x.x) := Sl.left h
theorem sl_p2y (x : J3 F2) (cs : Array Value) (o m : Nat) (h : Sl cs o (cp2 x)) (hm : o + 12 = m) : Sl cs m (c2 x.y) := Sl.left (Sl.right h 12 (c2_size _) m hm)
theorem sl_p2z (x : J3 F2) (cs : Array Value) (o m : Nat) (h : Sl cs o (cp2 x)) (hm : o + 24 = m) : Sl cs m (c2 x.z) := Sl.right (Sl.right h 12 (c2_size _) (o + 12) rfl) 12 (c2_size _) m (by omega)
theorem hi_g2 (x : Pt F2) : (Tryd.prog.info? 71).map (·.size) = some (cg2 x).size := by rw [cg2_size]; kernel_rfl
theorem hi_p2 (x : J3 F2) : (Tryd.prog.info? 131).map (·.size) = some (cp2 x).size := by rw [cp2_size]; kernel_rfl
theorem cg2_zero : cg2 0 = (List.replicate 24 (Value.int .u64 0)).toArray := by
  show c2 0 ++ c2 0 = _
  rw [c2_zero]
  rfl
theorem cp2_zero : cp2 0 = (List.replicate 36 (Value.int .u64 0)).toArray := by
  show c2 0 ++ (c2 0 ++ c2 0) = _
  rw [c2_zero]
  rfl
theorem z_g2 : (Tryd.prog.info? 71).map (·.zero) = some (some (.agg (cg2 0))) := by rw [cg2_zero]; kernel_rfl
theorem z_p2 : (Tryd.prog.info? 131).map (·.zero) = some (some (.agg (cp2 0))) := by rw [cp2_zero]; kernel_rfl
section
variable {S : World → Prop} {l : List (Nat × Value)} {dst : Option Tmp} {parts : Array (Nat × Operand)} {ty : TypeId} {pos : String} {after : Array Edge} {gd : Option (Nat × Bool)}
theorem gb_g2 (ps : List (Nat × Array Value)) (hf : fits [12, 12] ps) (he : (parts.toList.map fun x => (x.1, rho l x.2)) = ps.map fun p => (p.1, Value.agg p.2)) (out : Array Value) (ho : joinA (putsA [c2 0, c2 0] ps) = out) :
    Gives Tryd.prog S (.agg out) (execOp (rho l) ⟨dst, .build 71 parts, ty, pos, after, gd⟩) :=
  gives_build _ #[(0, 12), (12, 12)] _ Tryd.underlying71 z_g2 (fun _ => by kernel_rfl) [12, 12] (fun i h => by
    match i, h with
    | 0, _ => rfl
    | 1, _ => rfl) [c2 0, c2 0] (by simp only [List.map_cons, List.map_nil, c2_size]) rfl ps hf he out ho
theorem gb_p2 (ps : List (Nat × Array Value)) (hf : fits [12, 12, 12] ps) (he : (parts.toList.map fun x => (x.1, rho l x.2)) = ps.map fun p => (p.1, Value.agg p.2)) (out : Array Value) (ho : joinA (putsA [c2 0, c2 0, c2 0] ps) = out) :
    Gives Tryd.prog S (.agg out) (execOp (rho l) ⟨dst, .build 131 parts, ty, pos, after, gd⟩) :=
  gives_build _ #[(0, 12), (12, 12), (24, 12)] _ Tryd.underlying131 z_p2 (fun _ => by kernel_rfl) [12, 12, 12] (fun i h => by
    match i, h with
    | 0, _ => rfl
    | 1, _ => rfl
    | 2, _ => rfl) [c2 0, c2 0, c2 0] (by simp only [List.map_cons, List.map_nil, c2_size]) rfl ps hf he out ho
end
theorem sh_g2 : (Tryd.prog).stoodInHeld 71 = false := by kernel_rfl
theorem eq_g2 (x y : Pt F2) (d : Nat) (w : World) : (Op.equalIn (d + 1 + 1 + 1 + 1 + 1) 71 (.agg (cg2 x)) (.agg (cg2 y))).run Tryd.prog w = .ok (decide (x = y)) w := by
  refine run_equalIn_struct (d + 1 + 1 + 1 + 1) w _ _ _ _ Tryd.underlying71 sh_g2 _ ?_
  rw [decide_eq_decide.2 Pt.eq_iff, Bool.decide_and, ← Bool.and_true (decide (x.y = y.y))]
  refine EqFs.cons ?_ (run_part_agg w 37 (cg2 x) (c2 x.x) 0 _ Tryd.underlying37 rfl (hi_2 _) (ext_left _ _ _ rfl)) (run_part_agg w 37 (cg2 y) (c2 y.x) 0 _ Tryd.underlying37 rfl (hi_2 _) (ext_left _ _ _ rfl)) (eq_2 x.x y.x d w)
    (EqFs.cons (fs := []) ?_ (run_part_agg w 37 (cg2 x) (c2 x.y) 12 _ Tryd.underlying37 rfl (hi_2 _) (ext_right _ _ 12 _ (c2_size _) rfl)) (run_part_agg w 37 (cg2 y) (c2 y.y) 12 _ Tryd.underlying37 rfl (hi_2 _) (ext_right _ _ 12 _ (c2_size _) rfl)) (eq_2 x.y y.y d w) .nil)
  all_goals kernel_rfl
theorem eq_g2_t {x y : Pt F2} {d : Nat} (w : World) (h : x = y) : (Op.equalIn (d + 1 + 1 + 1 + 1 + 1) 71 (.agg (cg2 x)) (.agg (cg2 y))).run Tryd.prog w = .ok true w := by rw [eq_g2, decide_eq_true h]
theorem eq_g2_f {x y : Pt F2} {d : Nat} (w : World) (h : x ≠ y) : (Op.equalIn (d + 1 + 1 + 1 + 1 + 1) 71 (.agg (cg2 x)) (.agg (cg2 y))).run Tryd.prog w = .ok false w := by rw [eq_g2, decide_eq_false h]

theorem gives_invoke {P : Program} {S : World → Prop} {l : List (Nat × Value)} {dst : Option Tmp} {recv : Operand} {name : String} {f : FuncId} {t : TypeId} {u : Value} {args : Array Operand} {ats : Array TypeId} {ty : TypeId} {pos : String} {after : Array Edge} {g : Option (Nat × Bool)} {vl : List Value} {r : Value}
    (hr : rho l recv = .iface t u) (hm : ∀ w, (method (P.types.size + Made.depth) t u name).run P w = .ok (f, u) w)
    (hf : (P.funcs[f]?).map (fun fn => (fn.name == "runtime.NumGoroutine", fn.body.isNone)) = some (false, false)) (ha : args.toList.map (rho l) = vl) (h : ∀ w, S w → Calls P f (u :: vl).toArray w fun e w' => e = .returned r ∧ Below w.heap.size w w') :
    Gives P S r (execOp (rho l) ⟨dst, .call { callee := .invoke recv name, args := args, argTypes := ats }, ty, pos, after, g⟩) := fun w hS =>
  .inr ⟨f, (u :: vl).toArray, by
    have ha : args.map (rho l) = vl.toArray := by rw [← ha, ← Array.toList_map, Array.toArray_toList]
    obtain ⟨fn, h1, h2⟩ := Option.map_eq_some_iff.1 hf
    simp only [Prod.mk.injEq, beq_eq_false_iff_ne, ne_eq, Option.isNone_eq_false_iff] at h2
    have h3 : fn.body ≠ none := by intro e; simp [e] at h2
    have hcm : (callMethod (.iface t u) name vl.toArray).run P w = .ok (.enter f (u :: vl).toArray) w := by
      simp [callMethod, hm, callFunc, h1, h2.1, h3]
    simp [execOp, resolve, invoke, hr, ha]
    exact hcm, h w hS⟩
theorem me2_Add (v : Value) (w : World) : (method (Tryd.prog.types.size + Made.depth) 37 v "Add").run Tryd.prog w = .ok (104, v) w := by kernel_rfl
theorem me2_Sub (v : Value) (w : World) : (method (Tryd.prog.types.size + Made.depth) 37 v "Sub").run Tryd.prog w = .ok (139, v) w := by kernel_rfl
theorem me2_Mul (v : Value) (w : World) : (method (Tryd.prog.types.size + Made.depth) 37 v "Mul").run Tryd.prog w = .ok (133, v) w := by kernel_rfl
theorem me2_Square (v : Value) (w : World) : (method (Tryd.prog.types.size + Made.depth) 37 v "Square").run Tryd.prog w = .ok (132, v) w := by kernel_rfl
theorem me2_Inv (v : Value) (w : World) : (method (Tryd.prog.types.size + Made.depth) 37 v "Inv").run Tryd.prog w = .ok (178, v) w := by kernel_rfl
theorem me2_Zero (v : Value) (w : World) : (method (Tryd.prog.types.size + Made.depth) 37 v "Zero").run Tryd.prog w = .ok (180, v) w := by kernel_rfl
theorem F2.sm1 : F2.sm 1 0 = 1 := by apply F2.same <;> decide +kernel
end Go.Proofs.YtialfoccalobpaaDoor
