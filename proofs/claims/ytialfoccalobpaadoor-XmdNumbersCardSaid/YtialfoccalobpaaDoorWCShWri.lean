/-
  The contract of Write.
-/
import Derived.Test.YtialfoccalobpaaDoorWCShStr
namespace Go.Proofs.YtialfoccalobpaaDoor
open Go.RowKit
def lenOf : Value → Nat | .slice _ n _ => n | _ => 0
theorem und24 : Tryd.prog.underlying 22 = some (.slice (Tryd.prog.elem 22)) := by kernel_rfl
theorem size24 (w : World) : (sizeOf (Tryd.prog.elem 22)).run Tryd.prog w = .ok 1 w := by kernel_rfl
theorem byte_size : (Tryd.prog.info? 5).map (·.size) = some 1 := by kernel_rfl
set_option maxRecDepth 100000 in
set_option maxHeartbeats 1000000 in
/-- The loop of Write, the state begun. -/
theorem write_begun (g : Nat) (w : World) (S : S8) (blk L bs : List Int) (A : Option Addr) (m c : Nat) (hI : Inv S blk L) (hB : Blk w g 106 (hcells S blk (L.length : Nat))) (h0 : 0 < L.length)
    (hs : Src w g A m (bs.map (Value.int .u8))) (hmc : m ≤ c) (hgl : Glob w) (h2 : 3 ≤ g) (hn : L.length + m ≤ 1125899906842624) :
    Calls Tryd.prog 21 #[.pointer (some ⟨g, 0, none⟩), .slice A m c] w fun e w' => e = .returned (.tuple #[]) ∧ w.grownBy w' (some g) ∧ HashIs w' g (L ++ bs) := by
  have hlt := hB.lt
  have hlm : bs.length = m := by have := hs.1; simpa using this
  have q72 := hB.at_ (hcells_n S blk (L.length : Nat) hI.len)
  have hne : ((L.length : Int) == 0) = false := by rw [beq_eq_false_iff_ne]; omega
  have NE := Lib.hid hne
  generalize hN : L.length = N at *
  have HN := Lib.hid hN
  clear hN
  have HS := Lib.hid hs
  have HI := Lib.hid hI
  have HB := Lib.hid hB
  have HGL := Lib.hid hgl
  have HM := Lib.hid hlm
  clear hs hI hB hgl hlm NE
  go_enter Tryd.func21, Tryd.ntmps21
  go_wp2_with fail
  go_loopw [1] (fun b wr => ∃ (k : Nat) (A' : Option Addr), k ≤ m ∧ b = .slice A' (m - k) (c - k) ∧ Src wr g A' (m - k) ((bs.drop k).map (Value.int .u8)) ∧ Glob wr ∧ w.grownBy wr (some g) ∧
      ∃ S blk, Inv S blk (L ++ bs.take k) ∧ Blk wr g 106 (hcells S blk ((N + k : Nat) : Int))) (fun b _ => lenOf b)
  case atStart => exact ⟨0, A, Nat.zero_le _, by simp, by simpa using HS.out, HGL.out, only_refl _ _, S, blk, by simpa using HI.out, HB.out⟩
  case round =>
    obtain ⟨k, A', hk, rfl, hs, hgl, hG, S', blk', hI, hB⟩ := hrel
    clear HS HI HB HGL q72
    have hlen : blk'.length = 64 := hI.len
    have hgr := hB.lt
    have hwr := hG.size
    by_cases hlt : k < m
    · have hLk : (L ++ bs.take k).length = N + k := by rw [List.length_append, HN.out, List.length_take, HM.out]; omega
      obtain ⟨P, hP⟩ : ∃ P, P = N + k := ⟨_, rfl⟩
      have hPn : P + (m - k) ≤ 1125899906842624 := by omega
      rw [← hP] at hLk hB
      have HP := Lib.hid hP
      clear hP
      obtain ⟨b0, o0, rfl, hb0, hb1, hsrc⟩ := hs.2 (by omega)
      obtain ⟨q, hq⟩ : ∃ q, q = min (m - k) (64 - P % 64) := ⟨_, rfl⟩
      obtain ⟨cs, hcs⟩ : ∃ cs, cs = (bs.drop k).take q := ⟨_, rfl⟩
      have hcl : cs.length = q := by rw [hcs, List.length_take, List.length_drop, HM.out]; omega
      obtain ⟨CS, hCS⟩ : ∃ CS, CS = cs.map (Value.int .u8) := ⟨_, rfl⟩
      have hCl : CS.length = q := by rw [hCS, List.length_map]; exact hcl
      have hsrc' : ∀ (j : Nat) v, CS[j]? = some v → wr.cell? ((⟨b0, o0, none⟩ : Addr).add j) = some v := by
        intro j v hv
        rw [add_plain]
        refine hsrc j v ?_
        rw [hCS, hcs, List.map_take, List.getElem?_take] at hv
        split at hv
        · exact hv
        · cases hv
      have h1c : ∀ v ∈ CS, v.oneCell' = true := by
        intro v hv
        rw [hCS] at hv
        simp only [List.mem_map] at hv
        obtain ⟨_, _, rfl⟩ := hv
        rfl
      have hcut := hs.cut (k := q) (cap := c - k) (by omega) (by omega)
      obtain ⟨A2, hA2, hrun2⟩ := run_cut1 (P := Tryd.prog) 22 und24 size24 (some ⟨b0, o0, none⟩) (m - k) (c - k) q (by omega) (by omega)
      rw [← hA2] at hcut
      clear hA2
      have e1 : m - (k + q) = m - k - q := by omega
      have e2 : c - (k + q) = c - k - q := by omega
      have hq1 : 0 < q := by omega
      have hq2 : q ≤ m - k := by omega
      have hq3 : P % 64 + q ≤ 64 := by omega
      have hqn : q = Nat.min (m - k) (64 - P % 64) := hq
      have q72 := hB.at_ (hcells_n S' blk' (P : Int) hlen)
      have hfit : 8 + P % 64 + CS.length ≤ (S'.cells ++ (blk'.map (Value.int .u8) ++ [Value.int .i64 (P : Int)])).length := by
        rw [hCl]; simp [S8.cells, hlen]; omega
      have hnext : (L ++ bs.take k) ++ cs = L ++ bs.take (k + q) := by rw [hcs, List.append_assoc, List.take_add]
      have hdrop : ((bs.drop k).map (Value.int .u8)).drop q = (bs.drop (k + q)).map (Value.int .u8) := by rw [← List.map_drop, List.drop_drop]
      rw [hdrop] at hcut
      have X5 := Lib.hid hcut
      have E1 := Lib.hid e1
      have E2 := Lib.hid e2
      clear e1 e2
      have htm : ((P : Int)).tmod 64 = (P : Int) % 64 := Int.tmod_eq_emod_of_nonneg (by omega)
      have hsl := slice48 g 8 ((P : Int) % 64) (P % 64) (by omega) (by omega)
      have X1 := Lib.hid hI
      have X2 := Lib.hid hB
      have X3 := Lib.hid hgl
      have X4 := Lib.hid hG
      have X6 := Lib.hid hCl
      have X7 := Lib.hid hCS
      have X8 := Lib.hid hqn
      have X9 := Lib.hid hLk
      have Y1 := Lib.hid hsrc'
      have Y2 := Lib.hid h1c
      have Y3 := Lib.hid hnext
      have Y4 := Lib.hid hfit
      have Y5 := Lib.hid hcl
      have Y6 := Lib.hid hlen
      clear hI hB hgl hG hcut hCl hCS hqn hLk hsrc' h1c hnext hfit hcl hcs hq hsrc hs hdrop hlen
      generalize hR : m - k = R at *
      have HR := Lib.hid hR
      clear hR
      generalize hC : c - k = C at *
      have HC := Lib.hid hC
      clear hC
      have i0 : (0 : Int) < R := by omega
      go_wp2_with fail
      go_region_law ((refine step_copy_only rfl (.tmp 27) (.tmp 28) 22 22 rfl 5 Tryd.underlying22 byte_size _ _ _ _ _ _ rfl rfl g (8 + P % 64) _ 106 X2.out CS q X6.out X8.out ?_ Y4.out Y2.out ?_); exact (fun _ => ⟨rfl, _, rfl, Y1.out⟩); intro w4 B4 G4)
      obtain ⟨blk2, hblk2⟩ : ∃ b, b = splice blk' (P % 64) cs := ⟨_, rfl⟩
      have hb2 : blk2.length = 64 := by rw [hblk2, length_splice _ _ _ (by rw [Y5.out, Y6.out]; omega)]; exact Y6.out
      have hE : Blk w4 g 106 (hcells S' blk2 (P : Int)) := by
        rw [hblk2, ← hcells_splice S' blk' cs (P : Int) (P % 64) (by rw [Y5.out, Y6.out]; omega), ← X7.out]
        exact B4.out
      have c72 := hE.at_ (hcells_n S' blk2 (P : Int) hb2)
      have f72 := hE.frozen 72
      have hE2 : Blk (w4.setCell ⟨g, 72, none⟩ (.int .i64 ((P : Int) + (q : Int)))) g 106 (hcells S' blk2 ((P : Int) + (q : Int))) := (hE.set_ 72 _).cast (hcells_taken S' blk2 _ _ hb2)
      have hG2 : wr.grownBy (w4.setCell ⟨g, 72, none⟩ (.int .i64 ((P : Int) + (q : Int)))) (some g) := by
        have h := G4.out
        exact only_setCell (p := ⟨g, 72, none⟩) (show wr.grownBy w4 (some g) from ⟨h.os, h.tape, h.output, h.size, h.block⟩) (.inl rfl) _
      have hgl2 := X3.out.only hG2 h2 (by omega)
      have hS2 := X5.out.only hG2
      have hGw := only_trans X4.out hG2
      have Z1 := Lib.hid hE2
      have Z2 := Lib.hid hG2
      have Z3 := Lib.hid hgl2
      have Z4 := Lib.hid hS2
      have Z5 := Lib.hid hGw
      have Z6 := Lib.hid hblk2
      have Z7 := Lib.hid hb2
      clear hE hE2 hG2 hgl2 hS2 hGw hblk2 hb2 B4 G4 q72 htm hsl X5
      have i1 : (q : Int) ≤ (R : Int) := by omega
      have iP : (P : Int) + (q : Int) ≤ 1125899906842624 := by omega
      by_cases hz : P % 64 + q = 64
      · have hz1 : (((P : Int) + (q : Int)) % 64 == 0) = true := by rw [beq_iff_eq]; omega
        go_wp2_with fail
        refine (mix_any g _ S' blk2 _ Z7.out Z1.out Z3.out h2).mono ?_
        rintro e w5 ⟨rfl, hG5, hB5⟩
        have V1 := Lib.hid hG5
        have V2 := Lib.hid hB5
        clear hG5 hB5
        go_wp2_with fail
        have hw : 3 ≤ (w4.setCell ⟨g, 72, none⟩ (.int .i64 ((P : Int) + (q : Int)))).heap.size := by have := Z2.out.size; omega
        refine ⟨⟨k + q, A2, by have := HR.out; omega, by rw [E1.out, E2.out], ?_, Z3.out.only V1.out h2 hw, only_trans Z5.out V1.out, mixF S' blk2, blk2, ?_, ?_⟩, by simp only [lenOf]; omega⟩
        · rw [E1.out]; exact Z4.out.only V1.out
        · have h := X1.out.full (bs := cs) (by rw [X9.out, Y5.out]; exact hz)
          rw [X9.out, ← Z6.out, Y3.out] at h
          exact h
        · refine V2.out.cast ?_
          rw [show ((N + (k + q) : Nat) : Int) = (P : Int) + (q : Int) by rw [HP.out]; omega]
      · have hz1 : (((P : Int) + (q : Int)) % 64 == 0) = false := by rw [beq_eq_false_iff_ne]; omega
        go_wp2_with fail
        refine ⟨⟨k + q, A2, by have := HR.out; omega, by rw [E1.out, E2.out], ?_, Z3.out, Z5.out, S', blk2, ?_, ?_⟩, by simp only [lenOf]; omega⟩
        · rw [E1.out]; exact Z4.out
        · have h := X1.out.part (bs := cs) (by rw [X9.out, Y5.out]; omega)
          rw [X9.out, ← Z6.out, Y3.out] at h
          exact h
        · refine Z1.out.cast ?_
          rw [show ((N + (k + q) : Nat) : Int) = (P : Int) + (q : Int) by rw [HP.out]; omega]
    · obtain rfl : k = m := by omega
      have V1 := Lib.hid hG
      have V2 : HashIs wr g (L ++ bs) := by
        have hlL : (L ++ bs).length = N + k := by rw [List.length_append, HN.out, HM.out]
        have hbk : bs.take k = bs := List.take_of_length_le (by rw [HM.out]; omega)
        rw [hbk] at hI
        exact ⟨S', blk', by rw [hlL]; exact hB, hlen, fun _ => hI⟩
      have V3 := Lib.hid V2
      have i0 : k - k = 0 := by omega
      rw [i0]
      clear hG V2 hI hB hgl hs i0
      go_wp2_with fail
      go_end0
      exact ⟨rfl, V1.out, V3.out⟩
set_option maxRecDepth 100000 in
set_option maxHeartbeats 1000000 in
/-- Write, nothing taken before. -/
theorem write_fresh (g : Nat) (w : World) (S0 : S8) (blk L bs : List Int) (A : Option Addr) (m c : Nat) (hl : blk.length = 64) (hB0 : Blk w g 106 (hcells S0 blk (L.length : Nat))) (h0 : L.length = 0)
    (hs : Src w g A m (bs.map (Value.int .u8))) (hmc : m ≤ c) (hgl : Glob w) (h2 : 3 ≤ g) (hn : L.length + m ≤ 1125899906842624) :
    Calls Tryd.prog 21 #[.pointer (some ⟨g, 0, none⟩), .slice A m c] w fun e w' => e = .returned (.tuple #[]) ∧ w.grownBy w' (some g) ∧ HashIs w' g (L ++ bs) := by
  have hlt := hB0.lt
  have hlm : bs.length = m := by have := hs.1; simpa using this
  have q72 := hB0.at_ (hcells_n S0 blk (L.length : Nat) hl)
  have hne : ((L.length : Int) == 0) = true := by rw [beq_iff_eq]; omega
  have hI : Inv startS blk L := by rw [List.eq_nil_of_length_eq_zero h0]; exact Inv.begin_ hl
  have HH0 := Lib.hid h0
  clear h0
  generalize hN : L.length = N at *
  have HN := Lib.hid hN
  clear hN
  have HS0 := Lib.hid hs
  have HI := Lib.hid hI
  have HB0 := Lib.hid hB0
  have HGL0 := Lib.hid hgl
  have HM := Lib.hid hlm
  have hi : (Tryd.prog.info? 103).map (·.size) = some startS.cells.toArray.size := by kernel_rfl
  have HI47 := Lib.hid hi
  have HF := Lib.hid (show 0 + startS.cells.toArray.size ≤ (hcells S0 blk (N : Int)).size by rw [hcells_size _ _ _ hl]; simp [S8.cells])
  have HC1 := Lib.hid (show startS.cells.toArray.all (·.oneCell') = true by simp [startS, S8.cells, Value.oneCell'])
  have HST := Lib.hid (hcells_start S0 blk (N : Int))
  have HGS := Lib.hid hgl.start
  clear hs hI hB0 hgl hlm hi
  go_enter Tryd.func21, Tryd.ntmps21
  go_wp2_with (first | ((with_reducible refine wpList_load_at (dst := some 13) (ty := 103) 0 0 startS.cells.toArray _ ?_ HGS.out Tryd.underlying103 ?_ HI47.out ?_); exact rfl; exact rfl) | ((with_reducible refine wpList_store_at (ty := 103) (x := .tmp 15) (y := .tmp 13) g 0 106 _ startS.cells.toArray ?_ ?_ HB0.out HI47.out HF.out HC1.out ?_); exact rfl; exact rfl; intro w2 HB2 HG2))
  have HB : Hid (Blk w2 g 106 (hcells startS blk (N : Int))) := Lib.hid (HB2.out.cast HST.out)
  have HS : Hid (Src w2 g A m (bs.map (Value.int .u8))) := Lib.hid (HS0.out.only HG2.out)
  have HGL : Hid (Glob w2) := Lib.hid (HGL0.out.only HG2.out h2 (by omega))
  clear HB2 HST HS0 HGL0 HGS
  try go_frame
  go_wp2_with fail
  go_loopw [1] (fun b wr => ∃ (k : Nat) (A' : Option Addr), k ≤ m ∧ b = .slice A' (m - k) (c - k) ∧ Src wr g A' (m - k) ((bs.drop k).map (Value.int .u8)) ∧ Glob wr ∧ w.grownBy wr (some g) ∧
      ∃ S blk, Inv S blk (L ++ bs.take k) ∧ Blk wr g 106 (hcells S blk ((N + k : Nat) : Int))) (fun b _ => lenOf b)
  case atStart => exact ⟨0, A, Nat.zero_le _, by simp, by simpa using HS.out, HGL.out, HG2.out, startS, blk, by simpa using HI.out, HB.out⟩
  case round =>
    obtain ⟨k, A', hk, rfl, hs, hgl, hG, S', blk', hI, hB⟩ := hrel
    clear HS HI HB HGL q72
    have hlen : blk'.length = 64 := hI.len
    have hgr := hB.lt
    have hwr := hG.size
    by_cases hlt : k < m
    · have hLk : (L ++ bs.take k).length = N + k := by rw [List.length_append, HN.out, List.length_take, HM.out]; omega
      obtain ⟨P, hP⟩ : ∃ P, P = N + k := ⟨_, rfl⟩
      have hPn : P + (m - k) ≤ 1125899906842624 := by omega
      rw [← hP] at hLk hB
      have HP := Lib.hid hP
      clear hP
      obtain ⟨b0, o0, rfl, hb0, hb1, hsrc⟩ := hs.2 (by omega)
      obtain ⟨q, hq⟩ : ∃ q, q = min (m - k) (64 - P % 64) := ⟨_, rfl⟩
      obtain ⟨cs, hcs⟩ : ∃ cs, cs = (bs.drop k).take q := ⟨_, rfl⟩
      have hcl : cs.length = q := by rw [hcs, List.length_take, List.length_drop, HM.out]; omega
      obtain ⟨CS, hCS⟩ : ∃ CS, CS = cs.map (Value.int .u8) := ⟨_, rfl⟩
      have hCl : CS.length = q := by rw [hCS, List.length_map]; exact hcl
      have hsrc' : ∀ (j : Nat) v, CS[j]? = some v → wr.cell? ((⟨b0, o0, none⟩ : Addr).add j) = some v := by
        intro j v hv
        rw [add_plain]
        refine hsrc j v ?_
        rw [hCS, hcs, List.map_take, List.getElem?_take] at hv
        split at hv
        · exact hv
        · cases hv
      have h1c : ∀ v ∈ CS, v.oneCell' = true := by
        intro v hv
        rw [hCS] at hv
        simp only [List.mem_map] at hv
        obtain ⟨_, _, rfl⟩ := hv
        rfl
      have hcut := hs.cut (k := q) (cap := c - k) (by omega) (by omega)
      obtain ⟨A2, hA2, hrun2⟩ := run_cut1 (P := Tryd.prog) 22 und24 size24 (some ⟨b0, o0, none⟩) (m - k) (c - k) q (by omega) (by omega)
      rw [← hA2] at hcut
      clear hA2
      have e1 : m - (k + q) = m - k - q := by omega
      have e2 : c - (k + q) = c - k - q := by omega
      have hq1 : 0 < q := by omega
      have hq2 : q ≤ m - k := by omega
      have hq3 : P % 64 + q ≤ 64 := by omega
      have hqn : q = Nat.min (m - k) (64 - P % 64) := hq
      have q72 := hB.at_ (hcells_n S' blk' (P : Int) hlen)
      have hfit : 8 + P % 64 + CS.length ≤ (S'.cells ++ (blk'.map (Value.int .u8) ++ [Value.int .i64 (P : Int)])).length := by
        rw [hCl]; simp [S8.cells, hlen]; omega
      have hnext : (L ++ bs.take k) ++ cs = L ++ bs.take (k + q) := by rw [hcs, List.append_assoc, List.take_add]
      have hdrop : ((bs.drop k).map (Value.int .u8)).drop q = (bs.drop (k + q)).map (Value.int .u8) := by rw [← List.map_drop, List.drop_drop]
      rw [hdrop] at hcut
      have X5 := Lib.hid hcut
      have E1 := Lib.hid e1
      have E2 := Lib.hid e2
      clear e1 e2
      have htm : ((P : Int)).tmod 64 = (P : Int) % 64 := Int.tmod_eq_emod_of_nonneg (by omega)
      have hsl := slice48 g 8 ((P : Int) % 64) (P % 64) (by omega) (by omega)
      have X1 := Lib.hid hI
      have X2 := Lib.hid hB
      have X3 := Lib.hid hgl
      have X4 := Lib.hid hG
      have X6 := Lib.hid hCl
      have X7 := Lib.hid hCS
      have X8 := Lib.hid hqn
      have X9 := Lib.hid hLk
      have Y1 := Lib.hid hsrc'
      have Y2 := Lib.hid h1c
      have Y3 := Lib.hid hnext
      have Y4 := Lib.hid hfit
      have Y5 := Lib.hid hcl
      have Y6 := Lib.hid hlen
      clear hI hB hgl hG hcut hCl hCS hqn hLk hsrc' h1c hnext hfit hcl hcs hq hsrc hs hdrop hlen
      generalize hR : m - k = R at *
      have HR := Lib.hid hR
      clear hR
      generalize hC : c - k = C at *
      have HC := Lib.hid hC
      clear hC
      have i0 : (0 : Int) < R := by omega
      go_wp2_with fail
      go_region_law ((refine step_copy_only rfl (.tmp 27) (.tmp 28) 22 22 rfl 5 Tryd.underlying22 byte_size _ _ _ _ _ _ rfl rfl g (8 + P % 64) _ 106 X2.out CS q X6.out X8.out ?_ Y4.out Y2.out ?_); exact (fun _ => ⟨rfl, _, rfl, Y1.out⟩); intro w4 B4 G4)
      obtain ⟨blk2, hblk2⟩ : ∃ b, b = splice blk' (P % 64) cs := ⟨_, rfl⟩
      have hb2 : blk2.length = 64 := by rw [hblk2, length_splice _ _ _ (by rw [Y5.out, Y6.out]; omega)]; exact Y6.out
      have hE : Blk w4 g 106 (hcells S' blk2 (P : Int)) := by
        rw [hblk2, ← hcells_splice S' blk' cs (P : Int) (P % 64) (by rw [Y5.out, Y6.out]; omega), ← X7.out]
        exact B4.out
      have c72 := hE.at_ (hcells_n S' blk2 (P : Int) hb2)
      have f72 := hE.frozen 72
      have hE2 : Blk (w4.setCell ⟨g, 72, none⟩ (.int .i64 ((P : Int) + (q : Int)))) g 106 (hcells S' blk2 ((P : Int) + (q : Int))) := (hE.set_ 72 _).cast (hcells_taken S' blk2 _ _ hb2)
      have hG2 : wr.grownBy (w4.setCell ⟨g, 72, none⟩ (.int .i64 ((P : Int) + (q : Int)))) (some g) := by
        have h := G4.out
        exact only_setCell (p := ⟨g, 72, none⟩) (show wr.grownBy w4 (some g) from ⟨h.os, h.tape, h.output, h.size, h.block⟩) (.inl rfl) _
      have hgl2 := X3.out.only hG2 h2 (by omega)
      have hS2 := X5.out.only hG2
      have hGw := only_trans X4.out hG2
      have Z1 := Lib.hid hE2
      have Z2 := Lib.hid hG2
      have Z3 := Lib.hid hgl2
      have Z4 := Lib.hid hS2
      have Z5 := Lib.hid hGw
      have Z6 := Lib.hid hblk2
      have Z7 := Lib.hid hb2
      clear hE hE2 hG2 hgl2 hS2 hGw hblk2 hb2 B4 G4 q72 htm hsl X5
      have i1 : (q : Int) ≤ (R : Int) := by omega
      have iP : (P : Int) + (q : Int) ≤ 1125899906842624 := by omega
      by_cases hz : P % 64 + q = 64
      · have hz1 : (((P : Int) + (q : Int)) % 64 == 0) = true := by rw [beq_iff_eq]; omega
        go_wp2_with fail
        refine (mix_any g _ S' blk2 _ Z7.out Z1.out Z3.out h2).mono ?_
        rintro e w5 ⟨rfl, hG5, hB5⟩
        have V1 := Lib.hid hG5
        have V2 := Lib.hid hB5
        clear hG5 hB5
        go_wp2_with fail
        have hw : 3 ≤ (w4.setCell ⟨g, 72, none⟩ (.int .i64 ((P : Int) + (q : Int)))).heap.size := by have := Z2.out.size; omega
        refine ⟨⟨k + q, A2, by have := HR.out; omega, by rw [E1.out, E2.out], ?_, Z3.out.only V1.out h2 hw, only_trans Z5.out V1.out, mixF S' blk2, blk2, ?_, ?_⟩, by simp only [lenOf]; omega⟩
        · rw [E1.out]; exact Z4.out.only V1.out
        · have h := X1.out.full (bs := cs) (by rw [X9.out, Y5.out]; exact hz)
          rw [X9.out, ← Z6.out, Y3.out] at h
          exact h
        · refine V2.out.cast ?_
          rw [show ((N + (k + q) : Nat) : Int) = (P : Int) + (q : Int) by rw [HP.out]; omega]
      · have hz1 : (((P : Int) + (q : Int)) % 64 == 0) = false := by rw [beq_eq_false_iff_ne]; omega
        go_wp2_with fail
        refine ⟨⟨k + q, A2, by have := HR.out; omega, by rw [E1.out, E2.out], ?_, Z3.out, Z5.out, S', blk2, ?_, ?_⟩, by simp only [lenOf]; omega⟩
        · rw [E1.out]; exact Z4.out
        · have h := X1.out.part (bs := cs) (by rw [X9.out, Y5.out]; omega)
          rw [X9.out, ← Z6.out, Y3.out] at h
          exact h
        · refine Z1.out.cast ?_
          rw [show ((N + (k + q) : Nat) : Int) = (P : Int) + (q : Int) by rw [HP.out]; omega]
    · obtain rfl : k = m := by omega
      have V1 := Lib.hid hG
      have V2 : HashIs wr g (L ++ bs) := by
        have hlL : (L ++ bs).length = N + k := by rw [List.length_append, HN.out, HM.out]
        have hbk : bs.take k = bs := List.take_of_length_le (by rw [HM.out]; omega)
        rw [hbk] at hI
        exact ⟨S', blk', by rw [hlL]; exact hB, hlen, fun _ => hI⟩
      have V3 := Lib.hid V2
      have i0 : k - k = 0 := by omega
      rw [i0]
      clear hG V2 hI hB hgl hs i0
      go_wp2_with fail
      go_end0
      exact ⟨rfl, V1.out, V3.out⟩
/-- The contract of Write. -/
theorem write_any (g : Nat) (w : World) (L bs : List Int) (A : Option Addr) (m c : Nat) (hH : HashIs w g L) (hs : Src w g A m (bs.map (Value.int .u8))) (hmc : m ≤ c) (hgl : Glob w) (h2 : 3 ≤ g)
    (hn : L.length + m ≤ 1125899906842624) :
    Calls Tryd.prog 21 #[.pointer (some ⟨g, 0, none⟩), .slice A m c] w fun e w' => e = .returned (.tuple #[]) ∧ w.grownBy w' (some g) ∧ HashIs w' g (L ++ bs) := by
  obtain ⟨S, blk, hB, hl, hI⟩ := hH
  rcases Nat.eq_zero_or_pos L.length with h0 | h0
  · exact write_fresh g w S blk L bs A m c hl hB h0 hs hmc hgl h2 hn
  · exact write_begun g w S blk L bs A m c (hI h0) hB h0 hs hmc hgl h2 hn
end Go.Proofs.YtialfoccalobpaaDoor
