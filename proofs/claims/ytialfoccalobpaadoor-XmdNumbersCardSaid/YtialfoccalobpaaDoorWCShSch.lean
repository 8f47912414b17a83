/-
  Contracts of the digest's small functions: putWord, padding, turn, word, schedule.
-/
import Derived.Test.YtialfoccalobpaaDoorProg
import Derived.Test.YtialfoccalobpaaDoorWCShMod
namespace Go.Proofs.YtialfoccalobpaaDoor
open Go.RowKit
set_option maxHeartbeats 400000 in
theorem put_any (b o c : Nat) (n : Nat) (w : World) (x : Int) (t : TypeId) (cs : Array Value) (hb : Blk w b t cs) (hn : 4 ≤ n) (ho : o + 4 ≤ cs.size) :
    Calls Tryd.prog 62 #[.slice (some ⟨b, o, none⟩) n c, .int .u32 x] w fun e w' => e = .returned (.tuple #[]) ∧ w.grownBy w' (some b) ∧ Blk w' b t (putN cs o x 4) := by
  go_enter Tryd.func62, Tryd.ntmps62
  go_wp2
  go_loopw [4, 5] (fun u i wr => ∃ k : Nat, k ≤ 4 ∧ i = .int .i64 k ∧ w.grownBy wr (some b) ∧ Blk wr b t (putN cs o x k)) (fun _ i _ => 4 - (intOf i).toNat)
  case atStart => exact ⟨0, Nat.zero_le _, rfl, only_refl _ _, hb⟩
  case round =>
    obtain ⟨k, hk, rfl, hg, hB⟩ := hrel
    by_cases hlt : k < 4
    · have hs : o + k < (putN cs o x k).size := by rw [putN_size]; omega
      obtain ⟨v0, hc⟩ := hB.some_ hs
      have hf := hB.frozen (o + k)
      have i1 : (k : Int) < n := by omega
      have HG := Lib.hid (only_setCell hg (p := ⟨b, o + k, none⟩) (.inl rfl) (.int .u8 (byteOf x k)))
      have HB := Lib.hid (hB.set_ (o + k) (.int .u8 (byteOf x k)))
      clear hg hB hs hb
      go_wp2
      exact ⟨⟨k + 1, by omega, by go_num, HG.out, HB.out⟩, by simp [intOf]; omega⟩
    · obtain rfl : k = 4 := by omega
      have HG := Lib.hid hg
      have HB := Lib.hid hB
      clear hg hB hb
      go_wp2
      go_end0
      exact ⟨rfl, HG.out, HB.out⟩

set_option maxHeartbeats 400000 in
theorem pad_any (n : Nat) (w : World) (hn : n ≤ 1125899906842624) :
    Calls Tryd.prog 61 #[.int .i64 n] w fun e w' => ∃ g, e = .returned (.slice (some ⟨g, 0, none⟩) (padLen n) (padLen n)) ∧ w.heap.size ≤ g ∧ Blk w' g 5 (padCells n) ∧ Below w.heap.size w w' := by
  have hL := padLen_le n
  obtain ⟨hL1, hL2⟩ := hL
  have hv : (9 : Int) + -(((n : Int) + 9) % 64) % 64 = (padLen n : Int) := by unfold padLen; omega
  have HV := Lib.hid hv
  have hP : padCells n = putN (putN ((Array.replicate (padLen n) (.int .u8 0)).setIfInBounds 0 (.int .u8 128)) (padLen n - 8) (8 * (n : Int) / 4294967296) 4) (padLen n - 4) (8 * (n : Int) % 4294967296) 4 := rfl
  have HP := Lib.hid hP
  clear hv hP
  generalize padLen n = L at *
  generalize padCells n = PC at *
  have i8 : (L : Int) - 8 = ((L - 8 : Nat) : Int) := by omega
  have i4 : (L : Int) - 4 = ((L - 4 : Nat) : Int) := by omega
  have z8 : (L - 8 : Nat) ≤ L := by omega
  have z4 : (L - 4 : Nat) ≤ L := by omega
  have i0 : (0 : Int) < L := by omega
  go_enter Tryd.func61, Tryd.ntmps61
  go_wp2_with (at_make; refine wpList_make_new _ rfl _ _ _ rfl 5 _ 1 Tryd.underlying22 byte_info rfl .i64 .i64 _ L rfl rfl HV.out (by omega) (by omega) ?_; intro w1 hb1 hs1 hB1; have HB1 := Lib.hid hb1; have hf1 := hB1.frozen 0; obtain ⟨v0, hc1⟩ := hB1.some_ (i := 0) (by simp; omega); have HC := Lib.hid (hB1.set_ 0 (.int .u8 128)); clear hB1 hb1)
  refine (put_any _ _ _ _ _ _ _ _ HC.out (by omega) (by simp; omega)).mono ?_
  rintro e w2 ⟨rfl, hg2, hB2⟩
  have HG2 := Lib.hid hg2
  have HB2 := Lib.hid hB2
  clear hg2 hB2 hc1 hf1
  go_wp2_with fail
  refine (put_any _ _ _ _ _ _ _ _ HB2.out (by omega) (by simp [putN_size]; omega)).mono ?_
  rintro e w3 ⟨rfl, hg3, hB3⟩
  have HG3 := Lib.hid hg3
  have HB3 := Lib.hid hB3
  clear hg3 hB3
  go_wp2_with fail
  go_ret
  exact ⟨_, rfl, Nat.le_refl _, HP.out ▸ HB3.out, ((HB1.out.setCell (Nat.le_refl _) _).keepB' HG2.out (by simp; omega) (Nat.le_refl _)).keepB' HG3.out (by have := HG2.out.size; simp at this; omega) (Nat.le_refl _)⟩
set_option maxHeartbeats 400000 in
theorem turn_any' (x : Int) (n : Nat) (w : World) (h1 : 1 ≤ n)  (h2 : n ≤ 31) :
    Calls Tryd.prog 117 #[.int .u32 x, .int .i64 n] w fun e w' => e = .returned (.int .u32 (rotr n x)) ∧ w = w' := by
  have hc := cnt_eq n h1 h2
  have e1 : IntKind.u64.wrap (32 - ((32 - n : Nat) : Int)) = n := by
    simp [IntKind.wrap, IntKind.bits, IntKind.signed]; omega
  go_enter Tryd.func117, Tryd.ntmps117
  go_wp2
  go_ret
  exact ⟨rfl, rfl⟩
theorem turn_any (x n : Int) (w : World) (h1 : 1 ≤ n) (h2 : n ≤ 31) :
    Calls Tryd.prog 117 #[.int .u32 x, .int .i64 n] w fun e w' => e = .returned (.int .u32 (rotr n.toNat x)) ∧ w = w' := by
  have h := turn_any' x n.toNat w (by omega) (by omega)
  rwa [show ((n.toNat : Nat) : Int) = n by omega] at h
set_option maxHeartbeats 400000 in
theorem word_any (b o c : Nat) (n : Nat) (a0 a1 a2 a3 : Int) (w : World) (hn : 4 ≤ n) (hm : n ≤ 64)
   (h0 : w.cell? ⟨b, o, none⟩ = some (.int .u8 a0)) (h1 : w.cell? ⟨b, o+1, none⟩ = some (.int .u8 a1)) (h2 : w.cell? ⟨b, o+2, none⟩ = some (.int .u8 a2)) (h3 : w.cell? ⟨b, o+3, none⟩ = some (.int .u8 a3)) :
    Calls Tryd.prog 148 #[.slice (some ⟨b, o, none⟩) n c] w fun e w' => e = .returned (.int .u32 (be32 a0 a1 a2 a3)) ∧ ∃ m, w' = w.drewN m := by
  have i0 : (0 : Int) < n := by omega
  have i1 : (1 : Int) < n := by omega
  have i2 : (2 : Int) < n := by omega
  have i3 : (3 : Int) < n := by omega
  go_enter Tryd.func148, Tryd.ntmps148
  go_wp2
  go_quiet (fail)
  go_wp2
  go_ret
  exact ⟨rfl, _, rfl⟩

theorem arr48 : Tryd.prog.arrayLen 104 = 64 := by kernel_rfl
theorem und48 : Tryd.prog.underlying 104 = some (.array (Tryd.prog.arrayLen 104) (Tryd.prog.elem 104)) := by kernel_rfl
theorem el48 : Tryd.prog.elem 104 = 5 := by kernel_rfl
theorem size5 (w : World) : (sizeOf 5).run Tryd.prog w = .ok 1 w := by kernel_rfl
theorem slice48 (g o : Nat) (v : Int) (l : Nat) (hv : v = (l : Int)) (hl : l < 64) (w : World) :
    (Instr.sliceAt 104 (.pointer (some ⟨g, o, none⟩)) (some (.int .i64 v)) none none).run Tryd.prog w = .ok (.slice (some ⟨g, o + l, none⟩) (64 - l) (64 - l)) w := by
  subst hv
  have h := run_sliceAt_array_l (P := Tryd.prog) w 104 ⟨g, o, none⟩ und48 .i64 (l : Int) (by omega) (by rw [arr48]; omega)
  rw [h, el48, size5, arr48]
  have e : ¬ (64 = l) := by omega
  simp [slicedAt, Result.andThen, e, add_plain]
set_option maxHeartbeats 400000 in
theorem sched_any (g : Nat) (w : World) (s : S8) (blk : List Int) (n : Int) (hb : blk.length = 64) (hg : Blk w g 106 (hcells s blk n)) :
    Calls Tryd.prog 116 #[.pointer (some ⟨g, 0, none⟩)] w fun e w' => e = .returned (.agg (fillArr 64 (extW blk 48))) ∧ Below w.heap.size w w' := by
  have hlt := hg.lt
  go_enter Tryd.func116, Tryd.ntmps116
  go_wp2
  go_loopw [4, 10] (fun u i wr => ∃ k : Nat, k ≤ 16 ∧ i = .int .i64 k ∧ Below w.heap.size w wr ∧ w.heap.size + 2 ≤ wr.heap.size ∧ Blk wr w.heap.size 157 (fillArr 64 []) ∧ Blk wr (w.heap.size + 1) 157 (fillArr 64 (firstW blk k))) (fun _ i _ => 16 - (intOf i).toNat)
  case atStart =>
    refine ⟨0, Nat.zero_le _, rfl, ?_, ?_, ?_, ?_⟩
    · exact ((Below.refl _ _).alloc (Nat.le_refl _) _).alloc (by simp) _
    · simp
    · exact ((Blk.new w 157 _).alloc _).cast rfl
    · exact (bump_arr w _ 157 _).cast rfl
  case round =>
    obtain ⟨k, hk, rfl, hW, hsz, h1, h2⟩ := hrel
    by_cases hlt : k < 16
    · have G := hg.keep hW
      have c0 := G.at_ (hcells_blk s blk n hb (4 * k) (by omega))
      have c1 := G.at_ (hcells_blk s blk n hb (4 * k + 1) (by omega))
      have c2 := G.at_ (hcells_blk s blk n hb (4 * k + 2) (by omega))
      have c3 := G.at_ (hcells_blk s blk n hb (4 * k + 3) (by omega))
      have hs := slice48 g 8 (4 * (k : Int)) (4 * k) (by omega) (by omega)
      have HW := Lib.hid hW
      have hf := h2.frozen k
      obtain ⟨v0, hv⟩ := h2.some_ (i := k) (by rw [fillArr_size _ _ (by rw [firstW_len]; omega)]; omega)
      have e2 := fillArr_set 64 (firstW blk k) (be32 (gt blk (4 * k)) (gt blk (4 * k + 1)) (gt blk (4 * k + 2)) (gt blk (4 * k + 3))) (by rw [firstW_len]; omega)
      rw [firstW_len] at e2
      have H1 := Lib.hid h1
      have H2 := Lib.hid h2
      have E2 := Lib.hid e2
      clear h1 h2 hW e2
      go_wp2_with fail
      refine (word_any _ _ _ _ _ _ _ _ _ (by omega) (by omega) c0 c1 c2 c3).mono ?_
      rintro e w' ⟨rfl, m, rfl⟩
      go_wp2_with fail
      refine ⟨⟨k + 1, by omega, by go_num, (below_drewN HW.out m).setCell (by simp) _, by simpa [World.setCell] using hsz, (H1.out.drewN m).far (by simp) _, ((H2.out.drewN m).set_ k _).cast E2.out⟩, by simp [intOf]; omega⟩
    · obtain rfl : k = 16 := by omega
      have HW := Lib.hid hW
      have H1 := Lib.hid h1
      have H2 := Lib.hid h2
      clear h1 h2 hW hg
      rw [show ((16 : Nat) : Int) = 16 from rfl]
      go_wp2_with fail
      go_loopw [5, 6, 7, 8, 9, 23] (fun u5 u6 u7 u8 u9 i wq => ∃ k : Nat, k ≤ 48 ∧ i = .int .i64 k ∧ Below w.heap.size w wq ∧ w.heap.size + 2 ≤ wq.heap.size ∧ Blk wq w.heap.size 157 (fillArr 64 []) ∧ Blk wq (w.heap.size + 1) 157 (fillArr 64 (extW blk k))) (fun _ _ _ _ _ i _ => 48 - (intOf i).toNat)
      case atStart => exact ⟨0, by omega, rfl, HW.out, hsz, H1.out, H2.out⟩
      case round =>
        obtain ⟨k, hk, rfl, hW, hsz, h1, h2⟩ := hrel
        by_cases hlt : k < 48
        · have HW := Lib.hid hW
          have hl := extW_len blk k
          have d0 := h2.at_ (fillArr_get 64 _ k (by omega))
          have d1 := h2.at_ (fillArr_get 64 _ (k + 1) (by omega))
          have d9 := h2.at_ (fillArr_get 64 _ (k + 9) (by omega))
          have d14 := h2.at_ (fillArr_get 64 _ (k + 14) (by omega))
          obtain ⟨v0, hv⟩ := h2.some_ (i := k + 16) (by rw [fillArr_size _ _ (by omega)]; omega)
          have hf := h2.frozen (k + 16)
          have hfr := h2.frozen
          have e2 := fillArr_set 64 (extW blk k) (nextW (gt (extW blk k) k) (gt (extW blk k) (k + 1)) (gt (extW blk k) (k + 9)) (gt (extW blk k) (k + 14))) (by omega)
          rw [hl] at e2
          have H1 := Lib.hid h1
          have H2 := Lib.hid h2
          have E2 := Lib.hid e2
          clear h1 h2 hW e2 hl hfr
          go_wp2_with fail
          go_quiet (fail)
          go_wp2_with (go_at_call 117; refine (turn_any _ _ _ (by omega) (by omega)).mono ?_; rintro e w' ⟨rfl, rfl⟩)
          go_region
          go_wp2_with fail
          refine ⟨⟨k + 1, by omega, by go_num, (below_drewN HW.out _).setCell (by simp) _, by simpa [World.setCell] using hsz, (H1.out.drewN _).far (by simp) _, ((H2.out.drewN _).set_ (k + 16) _).cast E2.out⟩, by simp [intOf]; omega⟩
        · obtain rfl : k = 48 := by omega
          have hl := extW_len blk 48
          obtain ⟨W, hWe⟩ : ∃ W, W = extW blk 48 := ⟨_, rfl⟩
          rw [← hWe] at h2 hl
          have hWS := Lib.hid hWe
          have hs1 : (fillArr 64 W).size = 64 := fillArr_size _ _ (by omega)
          have hs0 : (fillArr 64 []).size = 64 := fillArr_size _ _ (by simp)
          obtain ⟨FW, hFW⟩ : ∃ FW, FW = fillArr 64 W := ⟨_, rfl⟩
          obtain ⟨F0, hF0⟩ : ∃ F0, F0 = fillArr 64 [] := ⟨_, rfl⟩
          rw [← hFW] at h2 hs1
          rw [← hF0] at h1 hs0
          have h1c : FW.all (·.oneCell') = true := by
            rw [hFW, Array.all_eq_true_iff_forall_mem]
            intro v hv
            simp only [fillArr, List.mem_toArray, List.mem_append, List.mem_map, List.mem_replicate] at hv
            rcases hv with ⟨_, _, rfl⟩ | ⟨_, rfl⟩ <;> rfl
          have HF := Lib.hid hFW
          have HW := Lib.hid hW
          have H1 := Lib.hid h1
          have H2 := Lib.hid h2
          have HR := Lib.hid (Blk.range h2)
          have S1 := Lib.hid hs1
          have S0 := Lib.hid hs0
          have C1 := Lib.hid h1c
          clear h1 h2 hW hWe hFW hF0 hs1 hs0 h1c hl
          have hi : (Tryd.prog.info? 157).map (·.size) = some FW.size := by rw [S1.out]; kernel_rfl
          have hfit : 0 + FW.size ≤ F0.size := by rw [S1.out, S0.out]; omega
          have HI := Lib.hid hi
          clear hi
          go_wp2_with (first | ((with_reducible refine wpList_load_at (dst := some 66) (ty := 157) (w.heap.size + 1) 0 FW _ ?_ HR.out Tryd.underlying157 ?_ HI.out ?_); exact rfl; exact rfl) | ((with_reducible refine wpList_store_at (ty := 157) (x := .tmp 2) (y := .tmp 66) w.heap.size 0 157 _ FW ?_ ?_ H1.out HI.out hfit C1.out ?_); exact rfl; exact rfl; intro w2 HB2 HG2))
          have hB : Blk w2 w.heap.size 157 FW := HB2.out.cast (by rw [splice_all _ _ (by rw [Array.length_toList, Array.length_toList, S1.out, S0.out]), Array.toArray_toList])
          refine bodyPost_ret (results_cell_row Tryd.results116 _ _ _ _ _ _ _ rfl hB Tryd.underlying157 rfl HI.out) rfl ⟨by rw [HF.out, hWS.out], ?_⟩
          exact HW.out.keepB' HG2.out (by omega) (Nat.le_refl _)
end Go.Proofs.YtialfoccalobpaaDoor
