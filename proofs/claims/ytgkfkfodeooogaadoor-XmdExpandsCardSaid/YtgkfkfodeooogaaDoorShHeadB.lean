/-
  The contract of the second head: one keyed digest that the document fixes.
-/
import Derived.Test.YtgkfkfodeooogaaDoorShMac
namespace Go.Proofs.YtgkfkfodeooogaaDoor
open Go.RowKit
def jefe : List Int := [74, 101, 102, 101]
def want1 : List Int := [119, 104, 97, 116, 32, 100, 111, 32, 121, 97, 32, 119, 97, 110, 116, 32]
def want2 : List Int := [102, 111, 114, 32, 110, 111, 116, 104, 105, 110, 103, 63]
theorem jefe_0 : gt (mac jefe (want1 ++ want2)) 0 = 91 := by decide +kernel
theorem jefe_1 : gt (mac jefe (want1 ++ want2)) 1 = 220 := by decide +kernel
theorem jefe_31 : gt (mac jefe (want1 ++ want2)) 31 = 67 := by decide +kernel
/-- A block whose bytes may not be written reads as well. -/
theorem frozen_reads {w : World} {g B n : Nat} {t : TypeId} {fr : Nat × Nat} {l : List Int} (h : w.heap[g]? = some (.cells (agg8 l) t fr)) (hg : g < B) (hl : l.length = n) : Reads w B (some ⟨g, 0, none⟩) n (l.map (Value.int .u8)) :=
  ⟨by simpa using hl, fun _ => ⟨g, 0, rfl, hg, fun j u hu => by
    rw [Nat.zero_add, cell_of_row w g j _ t fr h, agg8]
    simpa using hu⟩⟩
set_option maxRecDepth 100000 in
theorem jefe_call (w : World) (hgl : Glob w) (h2 : 2 ≤ w.heap.size) :
    Calls Tryd.prog 23 #[.slice (some ⟨w.heap.size, 0, none⟩) 4 4, .slice (some ⟨w.heap.size + 1 + 1 + 1, 0, none⟩) 2 2]
      ((((w.alloc (.cells (agg8 jefe) 5 (4, 5))).alloc (.cells (agg8 want1) 5 (16, 17))).alloc (.cells (agg8 want2) 5 (12, 13))).alloc
        (.cells #[.slice (some ⟨w.heap.size + 1, 0, none⟩) 16 16, .slice (some ⟨w.heap.size + 1 + 1, 0, none⟩) 12 12] 24))
      fun e w' => e = .returned (.agg (agg8 (mac jefe (want1 ++ want2)))) ∧ Below w.heap.size w w' := by
  obtain ⟨W0, hW0⟩ : ∃ W0 : World, W0 = ((((w.alloc (.cells (agg8 jefe) 5 (4, 5))).alloc (.cells (agg8 want1) 5 (16, 17))).alloc (.cells (agg8 want2) 5 (12, 13))).alloc
        (.cells #[.slice (some ⟨w.heap.size + 1, 0, none⟩) 16 16, .slice (some ⟨w.heap.size + 1 + 1, 0, none⟩) 12 12] 24)) := ⟨_, rfl⟩
  have hs : W0.heap.size = w.heap.size + 1 + 1 + 1 + 1 := by rw [hW0]; simp
  have hb : Below w.heap.size w W0 := by
    rw [hW0]
    exact ((((Below.refl _ _).alloc (Nat.le_refl _) _).alloc (by simp only [World.size_alloc]; omega) _).alloc (by simp only [World.size_alloc]; omega) _).alloc (by simp only [World.size_alloc]; omega) _
  have k0 : W0.heap[w.heap.size]? = some (.cells (agg8 jefe) 5 (4, 5)) := by
    rw [hW0, Below.heap_alloc _ _ _ (by simp only [World.size_alloc]; omega), Below.heap_alloc _ _ _ (by simp only [World.size_alloc]; omega), Below.heap_alloc _ _ _ (by simp only [World.size_alloc]; omega)]
    exact heap_alloc_new w _
  have k1 : W0.heap[w.heap.size + 1]? = some (.cells (agg8 want1) 5 (16, 17)) := by
    rw [hW0, Below.heap_alloc _ _ _ (by simp only [World.size_alloc]; omega), Below.heap_alloc _ _ _ (by simp only [World.size_alloc]; omega)]
    have h := heap_alloc_new (w.alloc (.cells (agg8 jefe) 5 (4, 5))) (.cells (agg8 want1) 5 (16, 17))
    rwa [World.size_alloc] at h
  have k2 : W0.heap[w.heap.size + 1 + 1]? = some (.cells (agg8 want2) 5 (12, 13)) := by
    rw [hW0, Below.heap_alloc _ _ _ (by simp only [World.size_alloc]; omega)]
    have h := heap_alloc_new ((w.alloc (.cells (agg8 jefe) 5 (4, 5))).alloc (.cells (agg8 want1) 5 (16, 17))) (.cells (agg8 want2) 5 (12, 13))
    rwa [World.size_alloc, World.size_alloc] at h
  have k3 : Blk W0 (w.heap.size + 1 + 1 + 1) 24 #[.slice (some ⟨w.heap.size + 1, 0, none⟩) 16 16, .slice (some ⟨w.heap.size + 1 + 1, 0, none⟩) 12 12] := by
    rw [hW0]
    exact new_at _ _ 24 _ (by simp)
  rw [← hW0]
  have hP : Pieces W0 W0.heap.size (some ⟨w.heap.size + 1 + 1 + 1, 0, none⟩) 2 [want1, want2] :=
    pieces_of (k3.readsAll (by omega) rfl (by simp)) ⟨⟨_, _, _, rfl, Nat.le_refl _, frozen_reads k1 (by omega) rfl⟩, ⟨_, _, _, rfl, Nat.le_refl _, frozen_reads k2 (by omega) rfl⟩, trivial⟩ rfl
  have h := mac_any W0 _ 4 4 jefe _ 2 2 [want1, want2] (frozen_reads k0 (by omega) rfl) (Nat.le_refl _) hP (hgl.below hb h2) (by omega) (by omega) (by omega) (by simp [want1, want2])
  simp only [List.flatten_cons, List.flatten_nil, List.append_nil] at h
  exact h.mono fun _ _ ⟨he, hb'⟩ => ⟨he, hb.trans (hb'.mono (by omega))⟩
set_option maxRecDepth 100000 in
set_option maxHeartbeats 1000000 in
theorem headb_any (w : World) (hgl : Glob w) (h2 : 2 ≤ w.heap.size) : Calls Tryd.prog 22 #[] w fun e w' => e = .returned (.bool true) ∧ Below w.heap.size w w' := by
  obtain ⟨D, hD⟩ : ∃ D, D = agg8 (mac jefe (want1 ++ want2)) := ⟨_, rfl⟩
  have hDz : D.size = 32 := by rw [hD, agg8_size, mac_len]
  have hDi : (Tryd.prog.info? 27).map (·.size) = some D.size := by rw [hDz]; kernel_rfl
  have hDf : 0 + D.size ≤ Z27.size := by rw [hDz, Z27, agg8_size]; simp
  have hD1 : D.all (·.oneCell') = true := by rw [hD]; exact agg8_one _
  have HGL := Lib.hid hgl
  have D1 := Lib.hid hD
  have D2 := Lib.hid hDz
  have D3 := Lib.hid hDi
  have D4 := Lib.hid hDf
  have D5 := Lib.hid hD1
  clear hDz hDi hDf hD1 hD hgl
  have kc : ∀ (W : World) (C : Array Value) (n c k : Nat), W.heap.size = k → (convert 24 24 (.slice (some ⟨k, 0, none⟩) n c)).run Tryd.prog (W.alloc (.cells C 5)) = .ok (.slice (some ⟨k, 0, none⟩) n c) (W.alloc (.cells C 5 (C.size, C.size + 1))) := fun W C n c k hk => by
    subst hk
    exact Lib.run_convert_bytes_const (P := Tryd.prog) W 24 5 C n c Tryd.underlying24 Tryd.underlying5
  go_enter Tryd.func22, Tryd.ntmps22
  go_wp2_with fail
  refine (jefe_call w HGL.out h2).mono ?_
  rintro e w1 ⟨rfl, hb1⟩
  rw [← D1.out]
  have hs1 := hb1.size
  have HB1 := Lib.hid hb1
  clear hb1 kc
  have hz27 : ∀ W : World, (zeroValue 27).run Tryd.prog W = .ok (.agg Z27) W := zero27
  go_wp2_with ((with_reducible refine wpList_store_at (ty := 27) (x := .tmp 1) (y := .tmp 9) w1.heap.size 0 27 Z27 D ?_ ?_ ?_ D3.out D4.out D5.out ?_); exact rfl; exact rfl; exact Blk.new _ 27 _
               intro w6 HB6 HG6
               have hB6 : Blk w6 w1.heap.size 27 D := HB6.out.cast (by rw [splice_all _ _ (by rw [Array.length_toList, Array.length_toList, D2.out, Z27, agg8_size]; simp), Array.toArray_toList])
               have c0 := hB6.at_ (i := 0) (v := Value.int .u8 91) (by rw [D1.out, agg8_at _ _ (by rw [mac_len]; omega), jefe_0])
               have c1 := hB6.at_ (i := 1) (v := Value.int .u8 220) (by rw [D1.out, agg8_at _ _ (by rw [mac_len]; omega), jefe_1])
               have c31 := hB6.at_ (i := 31) (v := Value.int .u8 67) (by rw [D1.out, agg8_at _ _ (by rw [mac_len]; omega), jefe_31])
               clear hB6)
  go_ret
  exact ⟨rfl, (HB1.out.alloc hs1 _).keepB' HG6.out (by simp only [World.size_alloc]; omega) hs1⟩
end Go.Proofs.YtgkfkfodeooogaaDoor
