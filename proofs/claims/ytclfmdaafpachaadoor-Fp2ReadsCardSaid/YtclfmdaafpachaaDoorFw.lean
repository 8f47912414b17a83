/-
  The structs of the fields: nought, built of parts.
-/
import Derived.Test.YtclfmdaafpachaaDoorFlowD
import Derived.Test.YtclfmdaafpachaaDoorFv
namespace Go.Proofs.YtclfmdaafpachaaDoor
set_option linter.unusedSimpArgs false
set_option linter.unusedVariables false
open Go.RowKit
theorem z_1 : (Tryd.prog.info? 52).map (·.zero) = some (some (.agg (pc 0))) := by rw [pc_zero]; kernel_rfl
theorem z_2 : (Tryd.prog.info? 68).map (·.zero) = some (some (.agg (c2 0))) := by rw [c2_zero]; kernel_rfl
theorem z_3 : (Tryd.prog.info? 93).map (·.zero) = some (some (.agg (c3 0))) := by rw [c3_zero]; kernel_rfl
theorem z_12 : (Tryd.prog.info? 95).map (·.zero) = some (some (.agg (c12 0))) := by rw [c12_zero]; kernel_rfl
section
variable {S : World → Prop} {l : List (Nat × Value)} {dst : Option Tmp} {ty : TypeId} {parts : Array (Nat × Operand)} {pos : String} {after : Array Edge} {gd : Option (Nat × Bool)}
theorem gb_fp2 (ps : List (Nat × Array Value)) (hf : fits [6, 6] ps) (he : (parts.toList.map fun x => (x.1, rho l x.2)) = ps.map fun p => (p.1, Value.agg p.2)) (out : Array Value) (ho : joinA (putsA [pc 0, pc 0] ps) = out) :
    Gives Tryd.prog S (.agg out) (execOp (rho l) ⟨dst, .build 68 parts, ty, pos, after, gd⟩) :=
  gives_build _ #[(0, 6), (6, 6)] _ Tryd.underlying68 z_2 (fun _ => by kernel_rfl) [6, 6] (fun i h => by
    simp only [List.length_cons, List.length_nil] at h
    obtain rfl | rfl : i = 0 ∨ i = 1 := by omega
    all_goals rfl) [pc 0, pc 0] rfl rfl ps hf he out ho
theorem gb_cubic (ps : List (Nat × Array Value)) (hf : fits [12, 12, 12] ps) (he : (parts.toList.map fun x => (x.1, rho l x.2)) = ps.map fun p => (p.1, Value.agg p.2)) (out : Array Value) (ho : joinA (putsA [c2 0, c2 0, c2 0] ps) = out) :
    Gives Tryd.prog S (.agg out) (execOp (rho l) ⟨dst, .build 93 parts, ty, pos, after, gd⟩) :=
  gives_build _ #[(0, 12), (12, 12), (24, 12)] _ Tryd.underlying93 z_3 (fun _ => by kernel_rfl) [12, 12, 12] (fun i h => by
    simp only [List.length_cons, List.length_nil] at h
    obtain rfl | rfl | rfl : i = 0 ∨ i = 1 ∨ i = 2 := by omega
    all_goals rfl) [c2 0, c2 0, c2 0] (by simp only [List.map_cons, List.map_nil, c2_size]) rfl ps hf he out ho
theorem gb_tower (ps : List (Nat × Array Value)) (hf : fits [36, 36] ps) (he : (parts.toList.map fun x => (x.1, rho l x.2)) = ps.map fun p => (p.1, Value.agg p.2)) (out : Array Value) (ho : joinA (putsA [c3 0, c3 0] ps) = out) :
    Gives Tryd.prog S (.agg out) (execOp (rho l) ⟨dst, .build 95 parts, ty, pos, after, gd⟩) :=
  gives_build _ #[(0, 36), (36, 36)] _ Tryd.underlying95 z_12 (fun _ => by kernel_rfl) [36, 36] (fun i h => by
    simp only [List.length_cons, List.length_nil] at h
    obtain rfl | rfl : i = 0 ∨ i = 1 := by omega
    all_goals rfl) [c3 0, c3 0] (by simp only [List.map_cons, List.map_nil, c3_size]) rfl ps hf he out ho
end
end Go.Proofs.YtclfmdaafpachaaDoor
