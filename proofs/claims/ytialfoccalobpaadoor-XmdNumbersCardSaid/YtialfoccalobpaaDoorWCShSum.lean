/-
  The contract of Sum.
-/
import Derived.Test.YtialfoccalobpaaDoorWCShWri
namespace Go.Proofs.YtialfoccalobpaaDoor
open Go.RowKit

/-- The padding as numbers. -/
def putNL (l : List Int) (o : Nat) (x : Int) : Nat → List Int
  | 0 => l
  | k + 1 => (putNL l o x k).set (o + k) (byteOf x k)
theorem putNL_len (l : List Int) (o : Nat) (x : Int) (k : Nat) : (putNL l o x k).length = l.length := by
  induction k with
  | zero => rfl
  | succ k ih => simp [putNL, ih]
theorem putN_list (l : List Int) (o : Nat) (x : Int) (k : Nat) : putN (l.map (Value.int .u8)).toArray o x k = ((putNL l o x k).map (Value.int .u8)).toArray := by
  induction k with
  | zero => rfl
  | succ k ih => simp [putN, putNL, ih, List.map_set]
def padB (n : Nat) : List Int :=
  putNL (putNL ((List.replicate (padLen n) 0).set 0 128) (padLen n - 8) (8 * (n : Int) / 4294967296) 4) (padLen n - 4) (8 * (n : Int) % 4294967296) 4
theorem padB_len (n : Nat) : (padB n).length = padLen n := by simp [padB, putNL_len]
theorem padCells_list (n : Nat) : padCells n = ((padB n).map (Value.int .u8)).toArray := by
  have e : (Array.replicate (padLen n) (Value.int .u8 0)).setIfInBounds 0 (.int .u8 128) = (((List.replicate (padLen n) (0 : Int)).set 0 128).map (Value.int .u8)).toArray := by
    rw [← List.toArray_replicate, List.setIfInBounds_toArray, List.map_set, List.map_replicate]
  unfold padCells padB
  rw [e, putN_list, putN_list]
theorem padLen_mod (n : Nat) : (n + padLen n) % 64 = 0 := by unfold padLen; omega

/-- The digest of what was taken. -/
def endS (L : List Int) : S8 := stateAt (L ++ padB L.length) ((L.length + padLen L.length) / 64)
def sumN (S : S8) : Nat → List Int
  | 0 => List.replicate 32 0
  | k + 1 => putNL (sumN S k) (4 * k) (gt S.list k) 4
theorem sumN_len (S : S8) (k : Nat) : (sumN S k).length = 32 := by
  induction k with
  | zero => rfl
  | succ k ih => rw [sumN, putNL_len]; exact ih
def digest (L : List Int) : List Int := sumN (endS L) 8
theorem digest_len (L : List Int) : (digest L).length = 32 := sumN_len _ _
def agg8 (l : List Int) : Array Value := (l.map (Value.int .u8)).toArray
theorem agg8_size (l : List Int) : (agg8 l).size = l.length := by simp [agg8]
theorem agg8_one (l : List Int) : (agg8 l).all (·.oneCell') = true := by
  rw [Array.all_eq_true_iff_forall_mem]
  intro v hv
  simp only [agg8, List.mem_toArray, List.mem_map] at hv
  obtain ⟨_, _, rfl⟩ := hv
  rfl

def Z50 : Array Value := hcells ⟨0, 0, 0, 0, 0, 0, 0, 0⟩ (List.replicate 64 0) 0
theorem zero50 (w : World) : (zeroValue 106).run Tryd.prog w = .ok (.agg Z50) w := by kernel_rfl
theorem ne_some {a b : Nat} (h : a ≠ b) : some a ≠ some b := fun e => h (Option.some.inj e)
theorem new_at (w0 : World) (n : Nat) (t : TypeId) (cs : Array Value) (h : w0.heap.size = n) : Blk (w0.alloc (.cells cs t)) n t cs := h ▸ Blk.new w0 t cs
theorem arr27 : Tryd.prog.arrayLen 50 = 32 := by kernel_rfl
theorem und27 : Tryd.prog.underlying 50 = some (.array (Tryd.prog.arrayLen 50) (Tryd.prog.elem 50)) := by kernel_rfl
theorem el27 : Tryd.prog.elem 50 = 5 := by kernel_rfl
theorem slice27 (g o : Nat) (v : Int) (l : Nat) (hv : v = (l : Int)) (hl : l < 32) (w : World) :
    (Instr.sliceAt 50 (.pointer (some ⟨g, o, none⟩)) (some (.int .i64 v)) none none).run Tryd.prog w = .ok (.slice (some ⟨g, o + l, none⟩) (32 - l) (32 - l)) w := by
  subst hv
  have h := run_sliceAt_array_l (P := Tryd.prog) w 50 ⟨g, o, none⟩ und27 .i64 (l : Int) (by omega) (by rw [arr27]; omega)
  rw [h, el27, size5, arr27]
  have e : ¬ (32 = l) := by omega
  simp [slicedAt, Result.andThen, e, add_plain]
theorem all50 (S : S8) (blk : List Int) (n : Int) : (hcells S blk n).all (·.oneCell') = true := by
  rw [Array.all_eq_true_iff_forall_mem]
  intro v hv
  simp only [hcells, S8.cells, List.mem_toArray, List.mem_append, List.mem_map, List.mem_cons, List.not_mem_nil, or_false] at hv
  rcases hv with h | ⟨_, _, rfl⟩ | rfl
  · rcases h with rfl | rfl | rfl | rfl | rfl | rfl | rfl | rfl <;> rfl
  · rfl
  · rfl
theorem list_at (s : S8) (blk : List Int) (n : Int) (k : Nat) (hk : k < 8) : (hcells s blk n)[k]? = some (Value.int .u32 (gt s.list k)) := by
  match k, hk with
  | 0, _ | 1, _ | 2, _ | 3, _ | 4, _ | 5, _ | 6, _ | 7, _ => simp [hcells, S8.cells, S8.list, gt]
set_option maxRecDepth 100000 in
set_option maxHeartbeats 1000000 in
theorem sum_any (g : Nat) (w : World) (L : List Int) (hH : HashIs w g L) (hgl : Glob w) (h2 : 3 ≤ g) (hn : L.length ≤ 1125899906842000) :
    Calls Tryd.prog 22 #[.pointer (some ⟨g, 0, none⟩)] w fun e w' => e = .returned (.agg (agg8 (digest L))) ∧ Below w.heap.size w w' := by
  have hlt := hH.lt
  obtain ⟨S, blk, hB, hl, hI⟩ := hH
  have hz : (hcells S blk (L.length : Nat)).size = 73 := hcells_size _ _ _ hl
  have q72 := hB.at_ (hcells_n S blk (L.length : Nat) hl)
  have hi : (Tryd.prog.info? 106).map (·.size) = some (hcells S blk (L.length : Nat)).size := by rw [hz]; kernel_rfl
  have HI := Lib.hid hi
  have HR := Lib.hid hB.range
  have HA := Lib.hid (all50 S blk (L.length : Nat))
  have HB := Lib.hid hB
  have HII := Lib.hid hI
  have HGL := Lib.hid hgl
  obtain ⟨C, hC⟩ : ∃ C, C = hcells S blk (L.length : Nat) := ⟨_, rfl⟩
  rw [← hC] at HI HR HA HB hz
  have HC := Lib.hid hC
  have HZ := Lib.hid hz
  clear hC hz hi hB hI hgl
  generalize hN : L.length = N at *
  have HN := Lib.hid hN
  clear hN
  obtain ⟨Z, hZ⟩ : ∃ Z, Z = Z50 := ⟨_, rfl⟩
  have hzz : Z.size = 73 := by rw [hZ]; exact hcells_size _ _ _ (by simp)
  have hfit : 0 + C.size ≤ Z.size := by rw [HZ.out, hzz]; omega
  have HF := Lib.hid hfit
  have HZZ := Lib.hid hZ
  have hz50 : ∀ W : World, (zeroValue 106).run Tryd.prog W = .ok (.agg Z) W := fun W => by rw [HZZ.out]; exact zero50 W
  have hzz2 := Lib.hid hzz
  clear hfit hZ hzz
  go_enter Tryd.func22, Tryd.ntmps22
  go_wp2_with (first | ((with_reducible refine wpList_load_at (dst := some 11) (ty := 106) g 0 C _ ?_ ?_ Tryd.underlying106 ?_ HI.out ?_); exact rfl; exact ((HB.out.alloc _).alloc _).range; exact rfl) | ((with_reducible refine wpList_store_at (ty := 106) (x := .tmp 4) (y := .tmp 11) (w.heap.size + 2) 0 106 Z C ?_ ?_ ?_ HI.out HF.out HA.out ?_); exact rfl; exact rfl; exact new_at _ _ 106 _ (by simp); intro w2 HB2 HG2; have q2 := ((((HB.out.alloc _).alloc _).alloc _).grown HG2.out (by simp; omega)).at_ (i := 72) (v := Value.int .i64 (N : Int)) (by rw [HC.out]; exact hcells_n _ _ _ hl)))
  have hBw : Below w.heap.size w w2 := (((((Below.refl w.heap.size w).alloc (Nat.le_refl _) _).alloc (by simp) _).alloc (by simp; omega) _).keepB' HG2.out (by simp; omega) (by omega))
  have hL2 : HashIs w2 (w.heap.size + 2) L := ⟨S, blk, (HB2.out.cast (by rw [splice_all _ _ (by rw [Array.length_toList, Array.length_toList, HZ.out, hzz2.out]), Array.toArray_toList, HC.out, HN.out])), hl, by rw [HN.out]; exact HII.out⟩
  have hsz : w.heap.size + 2 < w2.heap.size := hL2.lt
  have HS2 : Blk w2 (w.heap.size + 1) 50 (agg8 (List.replicate 32 0)) := (((new_at (w.alloc _) (w.heap.size + 1) 50 _ (by simp)).alloc _).grown HG2.out (by simp)).cast rfl
  have HR2 : Blk w2 w.heap.size 50 (agg8 (List.replicate 32 0)) := ((((new_at w w.heap.size 50 _ rfl).alloc _).alloc _).grown HG2.out (by simp)).cast rfl
  refine (pad_any N w2 (by omega)).mono ?_
  rintro e w3 ⟨gp, rfl, hgp, hPB, hb3⟩
  have hSrc : Src w3 (w.heap.size + 1 + 1) (some ⟨gp, 0, none⟩) (padLen N) ((padB N).map (Value.int .u8)) := by
    have h := hPB.src (g := w.heap.size + 1 + 1) (by omega) 0 (padLen N) (by rw [padCells_list]; simp [padB_len])
    rwa [padCells_list, List.drop_zero, List.take_of_length_le (by simp [padB_len])] at h
  have hgl3 : Glob w3 := (HGL.out.below hBw (by omega)).below hb3 (by omega)
  have hW := write_any (w.heap.size + 1 + 1) w3 L (padB N) _ (padLen N) (padLen N) (hL2.below hb3 hsz) hSrc (Nat.le_refl _) hgl3 (by omega) (by have := padLen_le N; rw [HN.out]; omega)
  have HW := Lib.hid hW
  have HB3 := Lib.hid (hBw.trans (hb3.mono (by omega)))
  have HS3 := Lib.hid (HS2.below hb3 (by omega))
  have HR3 := Lib.hid (HR2.below hb3 (by omega))
  have hsz3 : w.heap.size + 2 < w3.heap.size := Nat.lt_of_lt_of_le hsz hb3.size
  clear hW hgl3 hSrc hPB hb3 hL2 HS2 HR2 hBw HB2 HG2 q2 q72 hsz hz50
  go_wp2_with fail
  refine HW.out.mono ?_
  rintro e w4 ⟨rfl, hG4, hH4⟩
  obtain ⟨S4, blk4, hB4, hl4, hI4⟩ := hH4
  have hlen4 : (L ++ padB N).length = N + padLen N := by rw [List.length_append, HN.out, padB_len]
  have hE : S4 = endS L := by
    rw [(hI4 (by have := padLen_le N; omega)).state, hlen4, endS, HN.out]
  obtain ⟨E, hEE⟩ : ∃ E, E = endS L := ⟨_, rfl⟩
  rw [hE, ← hEE] at hB4
  have HE := Lib.hid hEE
  have HB4 := Lib.hid hB4
  have HBw4 := Lib.hid (HB3.out.keepB' hG4 HB3.out.size (by omega))
  have HS4 := Lib.hid (HS3.out.grown hG4 (ne_some (by omega)))
  have HR4 := Lib.hid (HR3.out.grown hG4 (ne_some (by omega)))
  have hsz4 : w3.heap.size ≤ w4.heap.size := hG4.size
  obtain ⟨n4, hn4⟩ : ∃ n4, n4 = (((L ++ padB N).length : Nat) : Int) := ⟨_, rfl⟩
  rw [← hn4] at HB4
  clear hG4 hI4 hB4 hE hEE hlen4 HW HB3 HS3 HR3 hn4
  go_wp2_with fail
  go_loopw [5, 18] (fun _ i wr => ∃ k : Nat, k ≤ 8 ∧ i = .int .i64 k ∧ Below w.heap.size w wr ∧ w.heap.size + 2 < wr.heap.size ∧ Blk wr (w.heap.size + 1) 50 (agg8 (sumN E k)) ∧ Blk wr (w.heap.size + 1 + 1) 106 (hcells E blk4 n4) ∧ Blk wr w.heap.size 50 (agg8 (List.replicate 32 0))) (fun _ i _ => 8 - (intOf i).toNat)
  case atStart => exact ⟨0, Nat.zero_le _, rfl, HBw4.out, by omega, HS4.out, HB4.out, HR4.out⟩
  case round =>
    obtain ⟨k, hk, rfl, hb, hsz, h1, h2', h3⟩ := hrel
    by_cases hlt : k < 8
    · have c0 := h2'.at_ (list_at E blk4 n4 k hlt)
      have hsl := slice27 (w.heap.size + 1) 0 (4 * (k : Int)) (4 * k) (by omega) (by omega)
      have X1 := Lib.hid h1
      have X2 := Lib.hid h2'
      have X3 := Lib.hid h3
      have X4 := Lib.hid hb
      clear h1 h2' h3 hb HBw4 HS4 HR4 HB4
      go_wp2_with fail
      have hwr := IntWalk.i64_in (4 * (k : Int)) (by omega)
      go_region_with ((go_at_call 62; refine (put_any _ _ _ _ _ _ _ _ X1.out.drew (by omega) (by rw [agg8_size, sumN_len]; omega)).mono ?_; rintro e w5 ⟨rfl, hg5, hB5⟩; have Y1 := Lib.hid hg5; have Y2 := Lib.hid hB5; clear hg5 hB5))
      clear hwr
      go_wp2_with fail
      have hszz := Y1.out.size
      refine ⟨⟨k + 1, by omega, by go_num, (X4.out.drew).keepB' Y1.out (by simp; omega) (by omega), by simp at hszz; omega, Y2.out.cast (putN_list _ _ _ _), (X2.out.drew).grown Y1.out (ne_some (by omega)), (X3.out.drew).grown Y1.out (ne_some (by omega))⟩, by simp [intOf]; omega⟩
    · obtain rfl : k = 8 := by omega
      obtain ⟨D, hD⟩ : ∃ D, D = agg8 (sumN E 8) := ⟨_, rfl⟩
      have hDd : D = agg8 (digest L) := by rw [hD, HE.out]; rfl
      have hDz : D.size = 32 := by rw [hD, agg8_size, sumN_len]
      have hDi : (Tryd.prog.info? 50).map (·.size) = some D.size := by rw [hDz]; kernel_rfl
      have hDf : 0 + D.size ≤ (agg8 (List.replicate 32 0)).size := by rw [hDz, agg8_size]; simp
      have hD1 : D.all (·.oneCell') = true := by rw [hD]; exact agg8_one _
      rw [← hD] at h1
      have X1 := Lib.hid h1
      have X3 := Lib.hid h3
      have X4 := Lib.hid hb
      have D1 := Lib.hid hDd
      have D2 := Lib.hid hDz
      have D3 := Lib.hid hDi
      have D4 := Lib.hid hDf
      have D5 := Lib.hid hD1
      clear h1 h2' h3 hb HBw4 HS4 HR4 HB4 hDd hDz hDi hDf hD1 hD
      go_wp2_with (first | ((with_reducible refine wpList_load_at (dst := some 30) (ty := 50) (w.heap.size + 1) 0 D _ ?_ X1.out.range Tryd.underlying50 ?_ D3.out ?_); exact rfl; exact rfl) | ((with_reducible refine wpList_store_at (ty := 50) (x := .tmp 2) (y := .tmp 30) w.heap.size 0 50 _ D ?_ ?_ X3.out D3.out D4.out D5.out ?_); exact rfl; exact rfl; intro w5 HB5 HG5))
      have hB5 : Blk w5 w.heap.size 50 D := HB5.out.cast (by rw [splice_all _ _ (by rw [Array.length_toList, Array.length_toList, D2.out, agg8_size]; simp), Array.toArray_toList])
      refine bodyPost_ret (results_cell_row Tryd.results22 _ _ _ _ _ _ _ rfl hB5 Tryd.underlying50 rfl D3.out) rfl ⟨by rw [D1.out], ?_⟩
      exact X4.out.keepB' HG5.out (by omega) (Nat.le_refl _)
end Go.Proofs.YtialfoccalobpaaDoor
