/-
  fr: the contract of Bytes.
-/
import Derived.Test.YtclfmdaafpachaaDoorFrJ
namespace Go.Proofs.YtclfmdaafpachaaDoor
open Go.RowKit
/-- An array of bytes. -/
def ag8 (l : List Int) : Array Value := (l.map (Value.int .u8)).toArray
theorem ag8_size (l : List Int) : (ag8 l).size = l.length := by simp [ag8]
theorem ag8_one (l : List Int) : (ag8 l).all (·.oneCell') = true := by
  rw [Array.all_eq_true_iff_forall_mem]
  intro v hv
  simp only [ag8, List.mem_toArray, List.mem_map] at hv
  obtain ⟨_, _, rfl⟩ := hv
  rfl
theorem ag8_set (l : List Int) (i : Nat) (v : Int) : (ag8 l).setIfInBounds i (.int .u8 v) = ag8 (l.set i v) := by
  simp [ag8, List.map_set]
theorem set_lo (n : Int) (N k : Nat) (hk : k < N) : (List.replicate (N - k) (0 : Int) ++ lo n k).set (N - 1 - k) (n / 256 ^ k % 256) = List.replicate (N - (k + 1)) 0 ++ lo n (k + 1) := by
  obtain ⟨m, rfl⟩ : ∃ m, N = k + 1 + m := ⟨N - (k + 1), by omega⟩
  rw [show k + 1 + m - k = m + 1 by omega, show k + 1 + m - 1 - k = m by omega, show k + 1 + m - (k + 1) = m by omega]
  rw [List.set_append_left _ _ (by simp), List.replicate_succ', List.set_append_right _ _ (by simp)]
  simp [lo]
theorem ag8_at (l : List Int) (i : Nat) (h : i < l.length) : (ag8 l)[i]? = some (Value.int .u8 (gt l i)) := by
  simp [ag8, gt, h]
theorem word4_at {w : World} {g : Nat} {t : TypeId} {n : Int} (h : Blk w g t #[.int .u64 (wd n 0), .int .u64 (wd n 1), .int .u64 (wd n 2), .int .u64 (wd n 3)]) (k : Nat) (hk : k < 4) : w.cell? ⟨g, k, none⟩ = some (.int .u64 (wd n k)) := by
  match k, hk with
  | 0, _ => exact h.at_ rfl
  | 1, _ => exact h.at_ rfl
  | 2, _ => exact h.at_ rfl
  | 3, _ => exact h.at_ rfl
/-- The world in Bytes' rounds. -/
structure BW (w wr : World) (g4 : Nat) (n : Int) (Z : Array Value) (k : Nat) : Prop where
  be : Below w.heap.size w wr
  br : Blk wr (w.heap.size + 1) 109 Z
  bb : Blk wr (w.heap.size + 1 + 1) 109 (ag8 (List.replicate (32 - k) 0 ++ lo n k))
  b4 : Blk wr g4 26 #[.int .u64 (wd n 0), .int .u64 (wd n 1), .int .u64 (wd n 2), .int .u64 (wd n 3)]
  h4 : w.heap.size + 1 + 1 < g4
theorem BW.step {w wr : World} {g4 : Nat} {n : Int} {Z : Array Value} {k : Nat} (h : BW w wr g4 n Z k) (hk : k < 32) : BW w (wr.setCell ⟨w.heap.size + 1 + 1, 31 - k, none⟩ (.int .u8 (n / 256 ^ k % 256))) g4 n Z (k + 1) :=
  ⟨h.be.setCell (by simp; omega) _, h.br.far (by simp) _, (h.bb.set_ _ _).cast (by rw [ag8_set, show 31 - k = 32 - 1 - k by omega, set_lo n 32 k hk]), h.b4.far (by have := h.h4; simp; omega) _, h.h4⟩
theorem zero52 (w : World) : (zeroValue 109).run Tryd.prog w = .ok (.agg (ag8 (List.replicate 32 0))) w := by kernel_rfl
set_option maxRecDepth 100000 in
set_option maxHeartbeats 4000000 in
theorem fr_bytes (x : Int) (w : World) (hG : GMr w) :
    Calls Tryd.prog 109 #[fv x] w fun e w' => e = .returned (.agg (ag8 (lo (x % Mr) 32))) ∧ Below w.heap.size w w' := by
  have HG := Lib.hid hG
  have hpl := fr_plain x
  have hn0 : 0 ≤ x % Mr := Int.emod_nonneg _ (by simp [Mr])
  obtain ⟨n, hn⟩ : ∃ n, n = x % Mr := ⟨_, rfl⟩
  rw [← hn] at hpl hn0 ⊢
  obtain ⟨m, rfl⟩ := Int.eq_ofNat_of_zero_le hn0
  have hby := byte_words m
  obtain ⟨n, hnn⟩ : ∃ n : Int, n = (m : Int) := ⟨_, rfl⟩
  rw [← hnn] at hpl hby ⊢
  have HBY := Lib.hid hby
  have HPL := Lib.hid hpl
  clear hby hpl hnn hn0 hn hG
  obtain ⟨Z, hZ⟩ : ∃ Z, Z = ag8 (List.replicate 32 0) := ⟨_, rfl⟩
  have hz52 : ∀ W : World, (zeroValue 109).run Tryd.prog W = .ok (.agg Z) W := fun W => by rw [hZ]; exact zero52 W
  have HZ := Lib.hid hZ
  clear hZ
  conv => arg 3; unfold fv arr4
  go_enter Tryd.func109, Tryd.ntmps109
  go_wp2_with fail
  have hpl2 := HPL.out
  unfold fv at hpl2
  refine (hpl2 _ (HG.out.keep (by repeat (first | exact Below.refl _ _ | refine Below.drew ?_ | refine Below.alloc ?_ (by simp; try omega) _)))).mono ?_
  rintro e w1 ⟨rfl, hB⟩
  have hP : BW w (w1.alloc (.cells #[.int .u64 (wd n 0), .int .u64 (wd n 1), .int .u64 (wd n 2), .int .u64 (wd n 3)] 26)) w1.heap.size n Z 0 :=
    ⟨Below.alloc (Below.trans (by repeat (first | exact Below.refl _ _ | refine Below.drew ?_ | refine Below.alloc ?_ (by simp; try omega) _)) (hB.mono (by simp; try omega))) (by have := hB.size; simp at this; omega) _, (((bump1 w _ _ _).alloc _).keep hB).alloc _, (((bump2 w _ _ _ _).keep hB).alloc _).cast (by rw [HZ.out]; simp [lo]), Blk.new w1 _ _, by have := hB.size; simp at this; omega⟩
  have HP := Lib.hid hP
  clear hB hP hpl2 hz52
  unfold arr4
  go_wp2_with fail
  obtain ⟨g4, hg4⟩ : ∃ g, g = w1.heap.size := ⟨_, rfl⟩
  rw [← hg4] at HP ⊢
  clear hg4
  go_loopw [5, 8] (fun _ i wr => ∃ k : Nat, k ≤ 32 ∧ i = .int .i64 (k : Int) ∧ BW w wr g4 n Z k) (fun _ i _ => 32 - (intOf i).toNat)
  case atStart => exact ⟨0, Nat.zero_le _, rfl, HP.out⟩
  case round =>
    obtain ⟨k, hk, rfl, hW⟩ := hrel
    clear HP
    by_cases hlt : k < 32
    · have hk4 : k / 8 < 4 := by omega
      have cw := word4_at hW.b4 (k / 8) hk4
      have hb := HBY.out k
      obtain ⟨v, hv⟩ : ∃ v, v = wd n (k / 8) := ⟨_, rfl⟩
      rw [← hv] at cw hb
      have cb := hW.bb.at_ (ag8_at _ (31 - k) (by simp [lo_len]; omega))
      have fb := hW.bb.frozen (31 - k)
      obtain ⟨u0, hu0⟩ : ∃ u, u = Value.int .u8 (gt (List.replicate (32 - k) 0 ++ lo n k) (31 - k)) := ⟨_, rfl⟩
      rw [← hu0] at cb
      have W1 := Lib.hid (hW.step hlt)
      have HB := Lib.hid hb
      clear hW hv hb hu0
      have i1 : (k : Int) < 32 := by omega
      have i4 : (k : Int) / 8 < 4 := by omega
      have i5 : 0 ≤ 31 - (k : Int) := by omega
      have i6 : 31 - (k : Int) < 32 := by omega
      go_wp2_with fail
      exact ⟨⟨k + 1, by omega, by go_num, by rw [HB.out]; exact W1.out⟩, by simp [intOf]; omega⟩
    · obtain rfl : k = 32 := by omega
      obtain ⟨D, hD⟩ : ∃ D, D = ag8 (lo n 32) := ⟨_, rfl⟩
      have hDz : D.size = 32 := by rw [hD, ag8_size, lo_len]
      have hZz : Z.size = 32 := by rw [HZ.out, ag8_size]; simp
      have hDi : (Tryd.prog.info? 109).map (·.size) = some D.size := by rw [hDz]; kernel_rfl
      have hDf : 0 + D.size ≤ Z.size := by rw [hDz, hZz]; omega
      have hD1 : D.all (·.oneCell') = true := by rw [hD]; exact ag8_one _
      have X1 : Hid (Blk wr (w.heap.size + 1 + 1) 109 D) := Lib.hid (hW.bb.cast (by rw [hD]; simp))
      have X3 := Lib.hid hW.br
      have X4 := Lib.hid hW.be
      have D1 := Lib.hid hD
      have D2 : Hid (Z.size = D.size) := Lib.hid (by rw [hDz, hZz])
      have D3 := Lib.hid hDi
      have D4 := Lib.hid hDf
      have D5 := Lib.hid hD1
      have hsz := hW.h4
      have hb4 := hW.b4.lt
      clear hW hD hDz hZz hDi hDf hD1
      go_wp2_with (first | ((with_reducible refine wpList_load_at (dst := some 24) (ty := 109) (w.heap.size + 1 + 1) 0 D _ ?_ X1.out.range Tryd.underlying109 ?_ D3.out ?_); exact rfl; exact rfl) | ((with_reducible refine wpList_store_at (ty := 109) (x := .tmp 2) (y := .tmp 24) (w.heap.size + 1) 0 109 _ D ?_ ?_ X3.out D3.out D4.out D5.out ?_); exact rfl; exact rfl; intro w5 HB5 HG5))
      have hB5 : Blk w5 (w.heap.size + 1) 109 D := HB5.out.cast (by rw [splice_all _ _ (by rw [Array.length_toList, Array.length_toList, D2.out]), Array.toArray_toList])
      refine bodyPost_ret (results_cell_row Tryd.results109 _ _ _ _ _ _ _ rfl hB5 Tryd.underlying109 rfl D3.out) rfl ⟨by rw [D1.out], ?_⟩
      exact X4.out.grown HG5.out X4.out.size (fun i hi => by cases hi; omega)
end Go.Proofs.YtclfmdaafpachaaDoor
