/-
  Points in memory; calls of methods through an interface.
-/
import Derived.Test.YtialfoccalobpaaDoorWACu
import Derived.Test.YtialfoccalobpaaDoorWAFs
import Derived.Test.YtialfoccalobpaaDoorWAAr
namespace Go.Proofs.YtialfoccalobpaaDoor
set_option linter.unusedSimpArgs false
set_option linter.unusedVariables false
open Go.RowKit

/-! ## the points over cresset/g1.P -/
def cg1 (x : Pt Fp) : Array Value := pc x.x ++ pc x.y
def cp1 (x : J3 Fp) : Array Value := pc x.x ++ (pc x.y ++ pc x.z)
theorem cg1_size (x : Pt Fp) : (cg1 x).size = 12 := by simp [cg1, pc_size]
theorem cp1_size (x : J3 Fp) : (cp1 x).size = 18 := by simp [cp1, pc_size]
theorem cg1_one (x : Pt Fp) : (cg1 x).all (·.oneCell') = true := by simp only [cg1, Array.all_append, pc_one]; rfl
theorem cp1_one (x : J3 Fp) : (cp1 x).all (·.oneCell') = true := by simp only [cp1, Array.all_append, pc_one]; rfl
theorem sl_g1x (x : Pt Fp) (cs : Array Value) (o : Nat) (h : Sl cs o (cg1 x)) : Sl cs o (pc x.x) := Sl.left h
theorem sl_g1y (x : Pt Fp) (cs : Array Value) (o m : Nat) (h : Sl cs o (cg1 x)) (hm : o + 6 = m) : Sl cs m (pc x.y) := Sl.right h 6 (pc_size _) m hm
theorem sl_p1x (x : J3 Fp) (cs : Array Value) (o : Nat) (h : Sl cs o (cp1 x)) : Sl cs o (pc x.x) := Sl.left h
theorem sl_p1y (x : J3 Fp) (cs : Array Value) (o m : Nat) (h : Sl cs o (cp1 x)) (hm : o + 6 = m) : Sl cs m (pc x.y) := Sl.left (Sl.right h 6 (pc_size _) m hm)
theorem sl_p1z (x : J3 Fp) (cs : Array Value) (o m : Nat) (h : Sl cs o (cp1 x)) (hm : o + 12 = m) : Sl cs m (pc x.z) := Sl.right (Sl.right h 6 (pc_size _) (o + 6) rfl) 6 (pc_size _) m (by omega)
theorem hi_g1 (x : Pt Fp) : (Tryd.prog.info? 57).map (·.size) = some (cg1 x).size := by rw [cg1_size]; kernel_rfl
theorem hi_p1 (x : J3 Fp) : (Tryd.prog.info? 121).map (·.size) = some (cp1 x).size := by rw [cp1_size]; kernel_rfl
theorem cg1_zero : cg1 0 = (List.replicate 12 (Value.int .u64 0)).toArray := by
  show pc 0 ++ pc 0 = _
  rw [pc_zero]
  rfl
theorem cp1_zero : cp1 0 = (List.replicate 18 (Value.int .u64 0)).toArray := by
  show pc 0 ++ (pc 0 ++ pc 0) = _
  rw [pc_zero]
  rfl
theorem z_g1 : (Tryd.prog.info? 57).map (·.zero) = some (some (.agg (cg1 0))) := by rw [cg1_zero]; kernel_rfl
theorem z_p1 : (Tryd.prog.info? 121).map (·.zero) = some (some (.agg (cp1 0))) := by rw [cp1_zero]; kernel_rfl
section
variable {S : World → Prop} {l : List (Nat × Value)} {dst : Option Tmp} {parts : Array (Nat × Operand)} {ty : TypeId} {pos : String} {after : Array Edge} {gd : Option (Nat × Bool)}
theorem gb_g1 (ps : List (Nat × Array Value)) (hf : fits [6, 6] ps) (he : (parts.toList.map fun x => (x.1, rho l x.2)) = ps.map fun p => (p.1, Value.agg p.2)) (out : Array Value) (ho : joinA (putsA [pc 0, pc 0] ps) = out) :
    Gives Tryd.prog S (.agg out) (execOp (rho l) ⟨dst, .build 57 parts, ty, pos, after, gd⟩) :=
  gives_build _ #[(0, 6), (6, 6)] _ Tryd.underlying57 z_g1 (fun _ => by kernel_rfl) [6, 6] (fun i h => by
    match i, h with
    | 0, _ => rfl
    | 1, _ => rfl) [pc 0, pc 0] (by simp only [List.map_cons, List.map_nil, pc_size]) rfl ps hf he out ho
theorem gb_p1 (ps : List (Nat × Array Value)) (hf : fits [6, 6, 6] ps) (he : (parts.toList.map fun x => (x.1, rho l x.2)) = ps.map fun p => (p.1, Value.agg p.2)) (out : Array Value) (ho : joinA (putsA [pc 0, pc 0, pc 0] ps) = out) :
    Gives Tryd.prog S (.agg out) (execOp (rho l) ⟨dst, .build 121 parts, ty, pos, after, gd⟩) :=
  gives_build _ #[(0, 6), (6, 6), (12, 6)] _ Tryd.underlying121 z_p1 (fun _ => by kernel_rfl) [6, 6, 6] (fun i h => by
    match i, h with
    | 0, _ => rfl
    | 1, _ => rfl
    | 2, _ => rfl) [pc 0, pc 0, pc 0] (by simp only [List.map_cons, List.map_nil, pc_size]) rfl ps hf he out ho
end
theorem sh_g1 : (Tryd.prog).stoodInHeld 57 = false := by kernel_rfl
theorem eq_g1 (x y : Pt Fp) (d : Nat) (w : World) : (Op.equalIn (d + 1 + 1 + 1 + 1) 57 (.agg (cg1 x)) (.agg (cg1 y))).run Tryd.prog w = .ok (decide (x = y)) w := by
  refine run_equalIn_struct (d + 1 + 1 + 1) w _ _ _ _ Tryd.underlying57 sh_g1 _ ?_
  rw [decide_eq_decide.2 Pt.eq_iff, Bool.decide_and, ← Bool.and_true (decide (x.y = y.y))]
  refine EqFs.cons ?_ (run_part_agg w 35 (cg1 x) (pc x.x) 0 _ Tryd.underlying35 rfl (hi_1 _) (ext_left _ _ _ rfl)) (run_part_agg w 35 (cg1 y) (pc y.x) 0 _ Tryd.underlying35 rfl (hi_1 _) (ext_left _ _ _ rfl)) (eq_1 x.x y.x d w)
    (EqFs.cons (fs := []) ?_ (run_part_agg w 35 (cg1 x) (pc x.y) 6 _ Tryd.underlying35 rfl (hi_1 _) (ext_right _ _ 6 _ (pc_size _) rfl)) (run_part_agg w 35 (cg1 y) (pc y.y) 6 _ Tryd.underlying35 rfl (hi_1 _) (ext_right _ _ 6 _ (pc_size _) rfl)) (eq_1 x.y y.y d w) .nil)
  all_goals kernel_rfl
theorem eq_g1_t {x y : Pt Fp} {d : Nat} (w : World) (h : x = y) : (Op.equalIn (d + 1 + 1 + 1 + 1) 57 (.agg (cg1 x)) (.agg (cg1 y))).run Tryd.prog w = .ok true w := by rw [eq_g1, decide_eq_true h]
theorem eq_g1_f {x y : Pt Fp} {d : Nat} (w : World) (h : x ≠ y) : (Op.equalIn (d + 1 + 1 + 1 + 1) 57 (.agg (cg1 x)) (.agg (cg1 y))).run Tryd.prog w = .ok false w := by rw [eq_g1, decide_eq_false h]


/-! ## the points over cresset/g2.P -/
section
variable {S : World → Prop} {l : List (Nat × Value)} {dst : Option Tmp} {parts : Array (Nat × Operand)} {ty : TypeId} {pos : String} {after : Array Edge} {gd : Option (Nat × Bool)}
end
theorem gives_invoke {P : Program} {S : World → Prop} {l : List (Nat × Value)} {dst : Option Tmp} {recv : Operand} {name : String} {f : FuncId} {t : TypeId} {u : Value} {args : Array Operand} {ats : Array TypeId} {ty : TypeId} {pos : String} {after : Array Edge} {g : Option (Nat × Bool)} {vl : List Value} {r : Value}
    (hr : rho l recv = .iface t u) (hm : ∀ w, (method (P.types.size + Made.depth) t u name).run P w = .ok (f, u) w)
    (hf : (P.funcs[f]?).map (fun fn => (fn.name == "runtime.NumGoroutine", fn.body.isNone)) = some (false, false)) (ha : args.toList.map (rho l) = vl) (h : ∀ w, S w → Calls P f (u :: vl).toArray w fun e w' => e = .returned r ∧ Below w.heap.size w w') :
    Gives P S r (execOp (rho l) ⟨dst, .call { callee := .invoke recv name, args := args, argTypes := ats }, ty, pos, after, g⟩) := fun w hS =>
  .inr ⟨f, (u :: vl).toArray, by
    have ha : args.map (rho l) = vl.toArray := by rw [← ha, ← Array.toList_map, Array.toArray_toList]
    obtain ⟨fn, h1, h2⟩ := Option.map_eq_some_iff.1 hf
    simp only [Prod.mk.injEq, beq_eq_false_iff_ne, ne_eq, Option.isNone_eq_false_iff] at h2
    have h3 : fn.body ≠ none := by intro e; simp [e] at h2
    have hcm : (callMethod (.iface t u) name vl.toArray).run P w = .ok (.enter f (u :: vl).toArray) w := by
      simp [callMethod, hm, callFunc, h1, h2.1, h3]
    simp [execOp, resolve, invoke, hr, ha]
    exact hcm, h w hS⟩
theorem me1_Add (v : Value) (w : World) : (method (Tryd.prog.types.size + Made.depth) 35 v "Add").run Tryd.prog w = .ok (112, v) w := by kernel_rfl
theorem me1_Sub (v : Value) (w : World) : (method (Tryd.prog.types.size + Made.depth) 35 v "Sub").run Tryd.prog w = .ok (127, v) w := by kernel_rfl
theorem me1_Mul (v : Value) (w : World) : (method (Tryd.prog.types.size + Made.depth) 35 v "Mul").run Tryd.prog w = .ok (111, v) w := by kernel_rfl
theorem me1_Square (v : Value) (w : World) : (method (Tryd.prog.types.size + Made.depth) 35 v "Square").run Tryd.prog w = .ok (119, v) w := by kernel_rfl
theorem me1_Inv (v : Value) (w : World) : (method (Tryd.prog.types.size + Made.depth) 35 v "Inv").run Tryd.prog w = .ok (175, v) w := by kernel_rfl
theorem me1_Zero (v : Value) (w : World) : (method (Tryd.prog.types.size + Made.depth) 35 v "Zero").run Tryd.prog w = .ok (135, v) w := by kernel_rfl
end Go.Proofs.YtialfoccalobpaaDoor
