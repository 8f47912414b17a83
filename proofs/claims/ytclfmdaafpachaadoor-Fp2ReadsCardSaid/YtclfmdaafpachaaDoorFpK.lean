/-
  fp: the contract of Bytes.
-/
import Derived.Test.YtclfmdaafpachaaDoorFpF
import Derived.Test.YtclfmdaafpachaaDoorFrK
namespace Go.Proofs.YtclfmdaafpachaaDoor
open Go.RowKit
theorem word6_at {w : World} {g : Nat} {t : TypeId} {n : Int} (h : Blk w g t #[.int .u64 (wd n 0), .int .u64 (wd n 1), .int .u64 (wd n 2), .int .u64 (wd n 3), .int .u64 (wd n 4), .int .u64 (wd n 5)]) (k : Nat) (hk : k < 6) : w.cell? ⟨g, k, none⟩ = some (.int .u64 (wd n k)) := by
  match k, hk with
  | 0, _ => exact h.at_ rfl
  | 1, _ => exact h.at_ rfl
  | 2, _ => exact h.at_ rfl
  | 3, _ => exact h.at_ rfl
  | 4, _ => exact h.at_ rfl
  | 5, _ => exact h.at_ rfl
/-- The world in Bytes' rounds. -/
structure BWp (w wr : World) (g4 : Nat) (n : Int) (Z : Array Value) (k : Nat) : Prop where
  be : Below w.heap.size w wr
  br : Blk wr (w.heap.size + 1) 73 Z
  bb : Blk wr (w.heap.size + 1 + 1) 73 (ag8 (List.replicate (48 - k) 0 ++ lo n k))
  b4 : Blk wr g4 50 #[.int .u64 (wd n 0), .int .u64 (wd n 1), .int .u64 (wd n 2), .int .u64 (wd n 3), .int .u64 (wd n 4), .int .u64 (wd n 5)]
  h4 : w.heap.size + 1 + 1 < g4
theorem BWp.step {w wr : World} {g4 : Nat} {n : Int} {Z : Array Value} {k : Nat} (h : BWp w wr g4 n Z k) (hk : k < 48) : BWp w (wr.setCell ⟨w.heap.size + 1 + 1, 47 - k, none⟩ (.int .u8 (n / 256 ^ k % 256))) g4 n Z (k + 1) :=
  ⟨h.be.setCell (by simp; omega) _, h.br.far (by simp) _, (h.bb.set_ _ _).cast (by rw [ag8_set, show 47 - k = 48 - 1 - k by omega, set_lo n 48 k hk]), h.b4.far (by have := h.h4; simp; omega) _, h.h4⟩
theorem zero71 (w : World) : (zeroValue 73).run Tryd.prog w = .ok (.agg (ag8 (List.replicate 48 0))) w := by kernel_rfl
set_option maxRecDepth 100000 in
set_option maxHeartbeats 4000000 in
theorem fp_bytes (x : Int) (w : World) (hG : GMp w) :
    Calls Tryd.prog 66 #[pv x] w fun e w' => e = .returned (.agg (ag8 (lo (x % Mp) 48))) ∧ Below w.heap.size w w' := by
  have HG := Lib.hid hG
  have hpl := fp_plain x
  have hn0 : 0 ≤ x % Mp := Int.emod_nonneg _ (by simp [Mp])
  obtain ⟨n, hn⟩ : ∃ n, n = x % Mp := ⟨_, rfl⟩
  rw [← hn] at hpl hn0 ⊢
  obtain ⟨m, rfl⟩ := Int.eq_ofNat_of_zero_le hn0
  have hby := byte_words m
  obtain ⟨n, hnn⟩ : ∃ n : Int, n = (m : Int) := ⟨_, rfl⟩
  rw [← hnn] at hpl hby ⊢
  have HBY := Lib.hid hby
  have HPL := Lib.hid hpl
  clear hby hpl hnn hn0 hn hG
  obtain ⟨Z, hZ⟩ : ∃ Z, Z = ag8 (List.replicate 48 0) := ⟨_, rfl⟩
  have hz52 : ∀ W : World, (zeroValue 73).run Tryd.prog W = .ok (.agg Z) W := fun W => by rw [hZ]; exact zero71 W
  have HZ := Lib.hid hZ
  clear hZ
  conv => arg 3; unfold pv arr6
  go_enter Tryd.func66, Tryd.ntmps66
  go_wp2_with fail
  have hpl2 := HPL.out
  unfold pv at hpl2
  refine (hpl2 _ (HG.out.keep (by repeat (first | (with_reducible exact Below.refl _ _) | (with_reducible refine Below.drew ?_) | (with_reducible refine Below.alloc ?_ (by simp; try omega) _))))).mono ?_
  rintro e w1 ⟨rfl, hB⟩
  have hP : BWp w (w1.alloc (.cells #[.int .u64 (wd n 0), .int .u64 (wd n 1), .int .u64 (wd n 2), .int .u64 (wd n 3), .int .u64 (wd n 4), .int .u64 (wd n 5)] 50)) w1.heap.size n Z 0 :=
    ⟨Below.alloc (Below.trans (by repeat (first | (with_reducible exact Below.refl _ _) | (with_reducible refine Below.drew ?_) | (with_reducible refine Below.alloc ?_ (by simp; try omega) _))) (hB.mono (by simp; try omega))) (by have := hB.size; simp at this; omega) _, (((bump1 w _ _ _).alloc _).keep hB).alloc _, (((bump2 w _ _ _ _).keep hB).alloc _).cast (by rw [HZ.out]; simp [lo]), Blk.new w1 _ _, by have := hB.size; simp at this; omega⟩
  have HP := Lib.hid hP
  clear hB hP hpl2 hz52
  unfold arr6
  go_wp2_with fail
  obtain ⟨g4, hg4⟩ : ∃ g, g = w1.heap.size := ⟨_, rfl⟩
  rw [← hg4] at HP ⊢
  clear hg4
  go_loopw [5, 8] (fun _ i wr => ∃ k : Nat, k ≤ 48 ∧ i = .int .i64 (k : Int) ∧ BWp w wr g4 n Z k) (fun _ i _ => 48 - (intOf i).toNat)
  case atStart => exact ⟨0, Nat.zero_le _, rfl, HP.out⟩
  case round =>
    obtain ⟨k, hk, rfl, hW⟩ := hrel
    clear HP
    by_cases hlt : k < 48
    · have hk4 : k / 8 < 6 := by omega
      have cw := word6_at hW.b4 (k / 8) hk4
      have hb := HBY.out k
      obtain ⟨v, hv⟩ : ∃ v, v = wd n (k / 8) := ⟨_, rfl⟩
      rw [← hv] at cw hb
      have cb := hW.bb.at_ (ag8_at _ (47 - k) (by simp [lo_len]; omega))
      have fb := hW.bb.frozen (47 - k)
      obtain ⟨u0, hu0⟩ : ∃ u, u = Value.int .u8 (gt (List.replicate (48 - k) 0 ++ lo n k) (47 - k)) := ⟨_, rfl⟩
      rw [← hu0] at cb
      have W1 := Lib.hid (hW.step hlt)
      have HB := Lib.hid hb
      clear hW hv hb hu0
      have i1 : (k : Int) < 48 := by omega
      have i4 : (k : Int) / 8 < 6 := by omega
      have i5 : 0 ≤ 47 - (k : Int) := by omega
      have i6 : 47 - (k : Int) < 48 := by omega
      go_wp2_with fail
      exact ⟨⟨k + 1, by omega, by go_num, by rw [HB.out]; exact W1.out⟩, by simp [intOf]; omega⟩
    · obtain rfl : k = 48 := by omega
      obtain ⟨D, hD⟩ : ∃ D, D = ag8 (lo n 48) := ⟨_, rfl⟩
      have hDz : D.size = 48 := by rw [hD, ag8_size, lo_len]
      have hZz : Z.size = 48 := by rw [HZ.out, ag8_size]; simp
      have hDi : (Tryd.prog.info? 73).map (·.size) = some D.size := by rw [hDz]; kernel_rfl
      have hDf : 0 + D.size ≤ Z.size := by rw [hDz, hZz]; omega
      have hD1 : D.all (·.oneCell') = true := by rw [hD]; exact ag8_one _
      have X1 : Hid (Blk wr (w.heap.size + 1 + 1) 73 D) := Lib.hid (hW.bb.cast (by rw [hD]; simp))
      have X3 := Lib.hid hW.br
      have X4 := Lib.hid hW.be
      have D1 := Lib.hid hD
      have D2 : Hid (Z.size = D.size) := Lib.hid (by rw [hDz, hZz])
      have D3 := Lib.hid hDi
      have D4 := Lib.hid hDf
      have D5 := Lib.hid hD1
      have hsz := hW.h4
      have hb4 := hW.b4.lt
      clear hW hD hDz hZz hDi hDf hD1
      go_wp2_with (first | ((with_reducible refine wpList_load_at (dst := some 24) (ty := 73) (w.heap.size + 1 + 1) 0 D _ ?_ X1.out.range Tryd.underlying73 ?_ D3.out ?_); exact rfl; exact rfl) | ((with_reducible refine wpList_store_at (ty := 73) (x := .tmp 2) (y := .tmp 24) (w.heap.size + 1) 0 73 _ D ?_ ?_ X3.out D3.out D4.out D5.out ?_); exact rfl; exact rfl; intro w5 HB5 HG5))
      have hB5 : Blk w5 (w.heap.size + 1) 73 D := HB5.out.cast (by rw [splice_all _ _ (by rw [Array.length_toList, Array.length_toList, D2.out]), Array.toArray_toList])
      refine bodyPost_ret (results_cell_row Tryd.results66 _ _ _ _ _ _ _ rfl hB5 Tryd.underlying73 rfl D3.out) rfl ⟨by rw [D1.out], ?_⟩
      exact X4.out.grown HG5.out X4.out.size (fun i hi => by cases hi; omega)
end Go.Proofs.YtclfmdaafpachaaDoor
