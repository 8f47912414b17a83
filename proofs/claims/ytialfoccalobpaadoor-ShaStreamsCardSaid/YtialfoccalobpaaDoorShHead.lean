/-
  The contract of the first head: one digest that the document fixes.
-/
import Derived.Test.YtialfoccalobpaaDoorShOf
namespace Go.Proofs.YtialfoccalobpaaDoor
open Go.RowKit
theorem abc_0 : gt (digest [97, 98, 99]) 0 = 186 := by decide +kernel
theorem abc_1 : gt (digest [97, 98, 99]) 1 = 120 := by decide +kernel
theorem abc_30 : gt (digest [97, 98, 99]) 30 = 21 := by decide +kernel
theorem abc_31 : gt (digest [97, 98, 99]) 31 = 173 := by decide +kernel
theorem agg8_at (l : List Int) (i : Nat) (h : i < l.length) : (agg8 l)[i]? = some (Value.int .u8 (gt l i)) := by simp [agg8, gt, h]
def Z27 : Array Value := agg8 (List.replicate 32 0)
theorem zero27 (w : World) : (zeroValue 50).run Tryd.prog w = .ok (.agg Z27) w := by kernel_rfl
set_option maxRecDepth 100000 in
set_option maxHeartbeats 400000 in
theorem head_any (w : World) (hgl : Glob w) (h2 : 3 ≤ w.heap.size) : Calls Tryd.prog 18 #[] w fun e w' => e = .returned (.bool true) ∧ Below w.heap.size w w' := by
  obtain ⟨D, hD⟩ : ∃ D, D = agg8 (digest [97, 98, 99]) := ⟨_, rfl⟩
  have hDz : D.size = 32 := by rw [hD, agg8_size, digest_len]
  have hDi : (Tryd.prog.info? 50).map (·.size) = some D.size := by rw [hDz]; kernel_rfl
  have hDf : 0 + D.size ≤ Z27.size := by rw [hDz, Z27, agg8_size]; simp
  have hD1 : D.all (·.oneCell') = true := by rw [hD]; exact agg8_one _
  have HGL := Lib.hid hgl
  have D1 := Lib.hid hD
  have D2 := Lib.hid hDz
  have D3 := Lib.hid hDi
  have D4 := Lib.hid hDf
  have D5 := Lib.hid hD1
  clear hDz hDi hDf hD1 hD hgl
  have kc := fun (w : World) (C : Array Value) (n c : Nat) => Lib.run_convert_bytes_const (P := Tryd.prog) w 22 5 C n c Tryd.underlying22 Tryd.underlying5
  go_enter Tryd.func18, Tryd.ntmps18
  go_wp2_with fail
  obtain ⟨W0, hW0⟩ : ∃ W0 : World, W0 = (w.alloc (Obj.cells #[Value.int IntKind.u8 97, Value.int IntKind.u8 98, Value.int IntKind.u8 99] 5 (3, 4))).alloc (Obj.cells #[Value.slice (some ⟨w.heap.size, 0, none⟩) 3 3] 22) := ⟨_, rfl⟩
  have hsz : W0.heap.size = w.heap.size + 2 := by rw [hW0]; simp
  have hb0 : Below w.heap.size w W0 := by rw [hW0]; exact ((Below.refl _ _).alloc (Nat.le_refl _) _).alloc (by simp) _
  have hP : Pieces W0 W0.heap.size (some ⟨w.heap.size + 1, 0, none⟩) 1 [[97, 98, 99]] := by
    refine ⟨rfl, fun _ => ⟨_, _, rfl, by rw [hsz]; omega, fun i hi => ?_⟩⟩
    have hi0 : i = 0 := by simp at hi; exact hi
    subst hi0
    refine ⟨.slice (some ⟨w.heap.size, 0, none⟩) 3 3, ?_, some ⟨w.heap.size, 0, none⟩, 3, 3, rfl, Nat.le_refl _, rfl, fun _ => ⟨_, _, rfl, by rw [hsz]; omega, fun j u hu => ?_⟩⟩
    · rw [hW0]
      exact (new_at _ _ 22 _ (by simp)).at_ (by simp)
    · rw [hW0, World.cell?_alloc_old _ _ _ (by simp), Nat.zero_add]
      have e : (w.alloc (Obj.cells #[Value.int IntKind.u8 97, Value.int IntKind.u8 98, Value.int IntKind.u8 99] 5 (3, 4))).cell? ⟨w.heap.size, j, none⟩ = (#[Value.int IntKind.u8 97, Value.int IntKind.u8 98, Value.int IntKind.u8 99] : Array Value)[j]? :=
        cell_of_row _ _ _ _ 5 (3, 4) (heap_alloc_new w _)
      rw [e]
      simpa using hu
  have hO := of_any W0 _ 1 1 [[97, 98, 99]] hP (HGL.out.below hb0 h2) (by omega) (by omega) (by simp)
  simp only [List.flatten_cons, List.flatten_nil, List.append_nil] at hO
  rw [← D1.out] at hO
  rw [← hW0]
  refine hO.mono ?_
  rintro e w1 ⟨rfl, hb1⟩
  have HB1 := Lib.hid hb1
  have HB0 := Lib.hid hb0
  have HS := Lib.hid hsz
  clear hb1 hb0 hO hP hsz hW0 kc
  have hz27 : ∀ W : World, (zeroValue 50).run Tryd.prog W = .ok (.agg Z27) W := zero27
  go_wp2_with ((with_reducible refine wpList_store_at (ty := 50) (x := .tmp 1) (y := .tmp 5) w1.heap.size 0 50 Z27 D ?_ ?_ ?_ D3.out D4.out D5.out ?_); exact rfl; exact rfl; exact Blk.new _ 50 _; intro w6 HB6 HG6; have hB6 : Blk w6 w1.heap.size 50 D := HB6.out.cast (by rw [splice_all _ _ (by rw [Array.length_toList, Array.length_toList, D2.out, Z27, agg8_size]; simp), Array.toArray_toList]); have c0 := hB6.at_ (i := 0) (v := Value.int .u8 186) (by rw [D1.out, agg8_at _ _ (by rw [digest_len]; omega), abc_0]); have c1 := hB6.at_ (i := 1) (v := Value.int .u8 120) (by rw [D1.out, agg8_at _ _ (by rw [digest_len]; omega), abc_1]); have c30 := hB6.at_ (i := 30) (v := Value.int .u8 21) (by rw [D1.out, agg8_at _ _ (by rw [digest_len]; omega), abc_30]); have c31 := hB6.at_ (i := 31) (v := Value.int .u8 173) (by rw [D1.out, agg8_at _ _ (by rw [digest_len]; omega), abc_31]); clear hB6)
  go_ret
  have h1 := HB1.out.size
  have h0 := HS.out
  refine ⟨rfl, ?_⟩
  exact ((HB0.out.trans (HB1.out.mono (by omega))).alloc (by omega) _).keepB' HG6.out (by simp; omega) (by omega)
end Go.Proofs.YtialfoccalobpaaDoor
