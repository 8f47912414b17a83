/-
  The ways of a nil Hash; Reset.
-/
import Derived.Test.YtialfoccalobpaaDoorShOf
namespace Go.Proofs.YtialfoccalobpaaDoor
open Go.RowKit
theorem zero27' (w : World) : (zeroValue 50).run Tryd.prog w = .ok (.agg (agg8 (List.replicate 32 0))) w := by kernel_rfl
set_option maxRecDepth 100000 in
theorem reset_nil (w : World) : Calls Tryd.prog 20 #[.pointer none] w fun e w' => e = .returned (.tuple #[]) ∧ w = w' := by
  go_enter Tryd.func20, Tryd.ntmps20
  go_wp2_with fail
  go_end0
  exact ⟨rfl, rfl⟩
set_option maxRecDepth 100000 in
theorem len_nil (w : World) : Calls Tryd.prog 23 #[.pointer none] w fun e w' => e = .returned (.int .i64 0) ∧ w = w' := by
  go_enter Tryd.func23, Tryd.ntmps23
  go_wp2_with fail
  go_ret
  exact ⟨rfl, rfl⟩
set_option maxRecDepth 100000 in
theorem write_nil (w : World) (A : Option Addr) (n c : Nat) : Calls Tryd.prog 21 #[.pointer none, .slice A n c] w fun e w' => e = .returned (.tuple #[]) ∧ Below w.heap.size w w' := by
  go_enter Tryd.func21, Tryd.ntmps21
  go_wp2_with fail
  refine bodyPost_ret (results_none rfl _ _ _) rfl ⟨rfl, Below.refl _ _⟩
set_option maxRecDepth 100000 in
theorem sum_nil (w : World) : Calls Tryd.prog 22 #[.pointer none] w fun e w' => e = .returned (.agg (agg8 (List.replicate 32 0))) ∧ Below w.heap.size w w' := by
  obtain ⟨Z, hZ⟩ : ∃ Z, Z = agg8 (List.replicate 32 0) := ⟨_, rfl⟩
  have hz27 : ∀ W : World, (zeroValue 50).run Tryd.prog W = .ok (.agg Z) W := fun W => by rw [hZ]; exact zero27' W
  have hz : Z.size = 32 := by rw [hZ, agg8_size]; simp
  have hi : (Tryd.prog.info? 50).map (·.size) = some Z.size := by rw [hz]; kernel_rfl
  have hf : 0 + Z.size ≤ Z.size := by omega
  have h1 : Z.all (·.oneCell') = true := by rw [hZ]; exact agg8_one _
  rw [← hZ]
  have HZ := Lib.hid hZ
  have Hz := Lib.hid hz
  have HI := Lib.hid hi
  have HF := Lib.hid hf
  have H1 := Lib.hid h1
  clear hZ hz hi hf h1
  have hB1 : Blk ((w.alloc (.cells Z 50)).alloc (.cells Z 50)) (w.heap.size + 1) 50 Z := new_at _ _ 50 _ (by simp)
  have hB0 : Blk ((w.alloc (.cells Z 50)).alloc (.cells Z 50)) w.heap.size 50 Z := (new_at w _ 50 _ rfl).alloc _
  have HB1 := Lib.hid hB1
  have HB0 := Lib.hid hB0
  clear hB1 hB0
  go_enter Tryd.func22, Tryd.ntmps22
  go_wp2_with (first
    | ((with_reducible refine wpList_load_at (dst := some 8) (ty := 50) (w.heap.size + 1) 0 Z _ ?_ ?_ Tryd.underlying50 ?_ HI.out ?_); exact rfl; exact HB1.out.range; exact rfl)
    | ((with_reducible refine wpList_store_at (ty := 50) (x := .tmp 2) (y := .tmp 8) w.heap.size 0 50 Z Z ?_ ?_ HB0.out HI.out HF.out H1.out ?_); exact rfl; exact rfl; intro w2 HB2 HG2))
  have hB2 : Blk w2 w.heap.size 50 Z := HB2.out.cast (by rw [splice_all _ _ rfl, Array.toArray_toList])
  have hbb : Below w.heap.size w w2 := (((Below.refl _ _).alloc (Nat.le_refl _) _).alloc (by simp) _).keepB' HG2.out (by simp; omega) (Nat.le_refl _)
  refine bodyPost_ret (results_cell_row Tryd.results22 _ _ _ _ _ _ _ rfl hB2 Tryd.underlying50 rfl HI.out) rfl ⟨rfl, hbb⟩
set_option maxRecDepth 100000 in
theorem reset_any (w : World) (g : Nat) (L : List Int) (h : HashIs w g L) : Calls Tryd.prog 20 #[.pointer (some ⟨g, 0, none⟩)] w fun e w' => e = .returned (.tuple #[]) ∧ w.grownBy w' (some g) ∧ HashIs w' g [] := by
  have hz50 : ∀ W : World, (zeroValue 106).run Tryd.prog W = .ok (.agg Z50) W := zero50
  obtain ⟨S, blk, hB, hl, _⟩ := h
  have hZs : Z50.size = 73 := hcells_size _ _ _ (by simp)
  have hi : (Tryd.prog.info? 106).map (·.size) = some Z50.size := by rw [hZs]; kernel_rfl
  have hf : 0 + Z50.size ≤ (hcells S blk (L.length : Nat)).size := by rw [hZs, hcells_size _ _ _ hl]; omega
  have h1 : Z50.all (·.oneCell') = true := all50 _ _ _
  have HB := Lib.hid hB
  obtain ⟨Z, hZ⟩ : ∃ Z, Z = Z50 := ⟨_, rfl⟩
  rw [← hZ] at hz50 hi hf h1 hZs
  have HI := Lib.hid hi
  have HF := Lib.hid hf
  have H1 := Lib.hid h1
  have HZ := Lib.hid hZ
  have HZs := Lib.hid hZs
  clear hB hi hf h1 hZ hZs
  go_enter Tryd.func20, Tryd.ntmps20
  go_wp2_with ((with_reducible refine wpList_store_at (ty := 106) (x := .tmp 6) (y := .tmp 5) g 0 106 (hcells S blk (L.length : Nat)) Z ?_ ?_ HB.out HI.out HF.out H1.out ?_); exact rfl; exact rfl; intro w2 HB2 HG2)
  go_end0
  refine ⟨rfl, HG2.out, ⟨0, 0, 0, 0, 0, 0, 0, 0⟩, List.replicate 64 0, HB2.out.cast ?_, by simp, fun h => absurd h (by simp)⟩
  rw [splice_all _ _ (by rw [Array.length_toList, Array.length_toList, HZs.out, hcells_size _ _ _ hl]), Array.toArray_toList, HZ.out]
  rfl
end Go.Proofs.YtialfoccalobpaaDoor
