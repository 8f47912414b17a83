/-
  fr: the contract of Wide.
-/
import Derived.Test.YtclfmdaafpachaaDoorFrG
namespace Go.Proofs.YtclfmdaafpachaaDoor
open Go.RowKit
structure GSh (w : World) : Prop where
  c0 : w.cell? ⟨1, 0, none⟩ = some (.int .u64 (wd (fe Mr (Wd ^ 4) Wd) 0))
  c1 : w.cell? ⟨1, 1, none⟩ = some (.int .u64 (wd (fe Mr (Wd ^ 4) Wd) 1))
  c2 : w.cell? ⟨1, 2, none⟩ = some (.int .u64 (wd (fe Mr (Wd ^ 4) Wd) 2))
  c3 : w.cell? ⟨1, 3, none⟩ = some (.int .u64 (wd (fe Mr (Wd ^ 4) Wd) 3))
theorem GSh.keep {w w' : World} (h : GSh w) (hb : Below w.heap.size w w') : GSh w' := by
  have hl := World.block_lt_of_cell? w _ h.c0
  exact ⟨(hb.cell (p := ⟨_, _, none⟩) hl).trans h.c0, (hb.cell (p := ⟨_, 1, none⟩) hl).trans h.c1, (hb.cell (p := ⟨_, 2, none⟩) hl).trans h.c2, (hb.cell (p := ⟨_, 3, none⟩) hl).trans h.c3⟩
/-- One piece more: all but the first have eight bytes. -/
theorem wide_step (bs : List Int) (d q : Nat) (hq : q ≤ 8) (h : d = 0 ∨ q = 8) (hl : d + q ≤ bs.length) :
    ((num (bs.take d) % Mr) * Wd % Mr + num ((bs.drop d).take q)) % Mr = num (bs.take (d + q)) % Mr := by
  rw [List.take_add, num_app, emm, Int.emod_add_emod]
  have e : ((bs.drop d).take q).length = q := by simp; omega
  rw [e]
  rcases h with rfl | rfl
  · simp [num]
  · rfl
/-- The world in Wide's rounds. -/
structure WW (w wr : World) (t : Int) : Prop where
  be : Below w.heap.size w wr
  br : Blk wr w.heap.size 28 #[.int .u64 0, .int .u64 0, .int .u64 0, .int .u64 0]
  bt : Blk wr (w.heap.size + 1) 28 #[.int .u64 (wd t 0), .int .u64 (wd t 1), .int .u64 (wd t 2), .int .u64 (wd t 3)]
theorem WW.drewN {w wr : World} {t : Int} (h : WW w wr t) (n : Nat) : WW w (wr.drewN n) t := ⟨below_drewN h.be n, h.br.drewN n, h.bt.drewN n⟩
theorem WW.drew {w wr : World} {t : Int} (h : WW w wr t) : WW w wr.drew t := ⟨below_drewN h.be 1, h.br.drew, h.bt.drew⟩
theorem WW.keep {w wr w' : World} {t : Int} (h : WW w wr t) (hb : Below wr.heap.size wr w') : WW w w' t := ⟨h.be.trans (hb.mono h.be.size), h.br.keep hb, h.bt.keep hb⟩
theorem WW.set_ {w wr : World} {t : Int} (h : WW w wr t) (a b c d : Int) (z : Int) (hz : (.agg #[.int .u64 a, .int .u64 b, .int .u64 c, .int .u64 d] : Value) = arr4 z) :
    WW w ((((wr.setCell ⟨w.heap.size + 1, 0, none⟩ (.int .u64 a)).setCell ⟨w.heap.size + 1, 1, none⟩ (.int .u64 b)).setCell ⟨w.heap.size + 1, 2, none⟩ (.int .u64 c)).setCell ⟨w.heap.size + 1, 3, none⟩ (.int .u64 d)) z := by
  simp only [arr4, Value.agg.injEq, Array.mk.injEq, List.cons.injEq, Value.int.injEq, true_and, and_true] at hz
  obtain ⟨rfl, rfl, rfl, rfl⟩ := hz
  exact ⟨(((h.be.setCell (by simp) _).setCell (by simp) _).setCell (by simp) _).setCell (by simp) _, (((h.br.far (by simp) _).far (by simp) _).far (by simp) _).far (by simp) _, (((h.bt.set_ 0 _).set_ 1 _).set_ 2 _).set_ 3 _⟩
theorem WW.cells {w wr : World} {t : Int} (h : WW w wr t) : wr.cell? ⟨w.heap.size + 1, 0, none⟩ = some (.int .u64 (wd t 0)) ∧ wr.cell? ⟨w.heap.size + 1, 1, none⟩ = some (.int .u64 (wd t 1)) ∧ wr.cell? ⟨w.heap.size + 1, 2, none⟩ = some (.int .u64 (wd t 2)) ∧ wr.cell? ⟨w.heap.size + 1, 3, none⟩ = some (.int .u64 (wd t 3)) ∧
    wr.frozen? ⟨w.heap.size + 1, 0, none⟩ = false ∧ wr.frozen? ⟨w.heap.size + 1, 1, none⟩ = false ∧ wr.frozen? ⟨w.heap.size + 1, 2, none⟩ = false ∧ wr.frozen? ⟨w.heap.size + 1, 3, none⟩ = false :=
  ⟨h.bt.at_ rfl, h.bt.at_ rfl, h.bt.at_ rfl, h.bt.at_ rfl, h.bt.frozen 0, h.bt.frozen 1, h.bt.frozen 2, h.bt.frozen 3⟩
theorem fr_mulW (t : Int) (h0 : 0 ≤ t) (h : t < Mr) (W : World) (hG : GMr W) :
    Calls Tryd.prog 40 #[arr4 t, arr4 (fe Mr (Wd ^ 4) Wd)] W fun e w' => e = .returned (arr4 (t * Wd % Mr)) ∧ Below W.heap.size W w' := by
  have hM := Mr_lo
  have hf := fe_in Wd
  have h1 := fr_mul0 t _ W hG h0 (by omega) hf.1 hf.2
  rwa [fe_shift Rir_ok] at h1
theorem fr_addW (p z : Int) (p0 : 0 ≤ p) (hp : p < Mr) (z0 : 0 ≤ z) (hz : z < Wd) (W : World) (hG : GMr W) :
    Calls Tryd.prog 36 #[arr4 p, .agg #[.int .u64 z, .int .u64 0, .int .u64 0, .int .u64 0]] W fun e w' => e = .returned (arr4 ((p + z) % Mr)) ∧ Below W.heap.size W w' := by
  rw [arr4_small z z0 hz]
  exact fr_add0 p z W hG p0 hp z0 (by unfold Wd Mr at *; omega)
theorem und22 : Tryd.prog.underlying 22 = some (.slice (Tryd.prog.elem 22)) := by kernel_rfl
theorem size22 (w : World) : (sizeOf (Tryd.prog.elem 22)).run Tryd.prog w = .ok 1 w := by kernel_rfl
set_option maxRecDepth 100000 in
set_option maxHeartbeats 4000000 in
theorem fr_wide (w : World) (hG : GMr w) (hS : GSq w) (hH : GSh w) (A : Option Addr) (L c : Nat) (bs : List Int) (hr : Reads w w.heap.size A L (bs.map (Value.int .u8))) (ho : Oct bs) (hLc : L ≤ c) (hc63 : c ≤ 9223372036854775807) :
    Calls Tryd.prog 33 #[.slice A L c] w fun e w' => e = .returned (fv (num bs)) ∧ Below w.heap.size w w' := by
  have HG := Lib.hid hG
  have HS := Lib.hid hS
  have HH := Lib.hid hH
  have HR := Lib.hid hr
  have HO := Lib.hid ho
  have HL := Lib.hid (show bs.length = L by simpa using hr.1)
  clear hG hS hH hr ho
  go_enter Tryd.func33, Tryd.ntmps33
  go_wp2_with fail
  have hI : WW w ((w.alloc (Obj.cells #[Value.int IntKind.u64 0, Value.int IntKind.u64 0, Value.int IntKind.u64 0, Value.int IntKind.u64 0] 28)).alloc (Obj.cells #[Value.int IntKind.u64 0, Value.int IntKind.u64 0, Value.int IntKind.u64 0, Value.int IntKind.u64 0] 28)) 0 :=
    ⟨by repeat (first | exact Below.refl _ _ | refine Below.drew ?_ | refine Below.alloc ?_ (by simp; try omega) _), (Blk.new w _ _).alloc _, bump1 w _ _ _⟩
  have HI := Lib.hid hI
  clear hI
  go_loopw [0, 4] (fun bsl _ wr => ∃ (d R : Nat) (A' : Option Addr) (c' : Nat), bsl = .slice A' R c' ∧ d + R = L ∧ R ≤ c' ∧ c' ≤ c ∧ (d = 0 ∨ R % 8 = 0) ∧ Reads w w.heap.size A' R ((bs.drop d).map (Value.int .u8)) ∧ WW w wr (num (bs.take d) % Mr)) (fun bsl _ _ => match bsl with | .slice _ n _ => n | _ => 0)
  case atStart => exact ⟨0, L, A, c, rfl, by omega, hLc, Nat.le_refl _, .inl rfl, HR.out, HI.out⟩
  case round =>
    obtain ⟨d, R, A', c', rfl, hdR, hRc, hcc, h8, hRd, hW⟩ := hrel
    by_cases hlt : 0 < R
    · obtain ⟨q, hq⟩ : ∃ q : Nat, q = (R - 1) % 8 + 1 := ⟨_, rfl⟩
      have hq1 : ((R : Int) - 1) % 8 + 1 = (q : Int) := by omega
      have hqR : q ≤ R := by omega
      have hq8 : q ≤ 8 := by omega
      have hstep := wide_step bs d q hq8 (by omega) (by rw [HL.out]; omega)
      have hfront := hRd.front hqR
      have hcut := hRd.cut hqR hRc
      obtain ⟨A2, hA2, hrun2⟩ := run_cut1 (P := Tryd.prog) 22 und22 size22 A' R c' q hqR hRc
      rw [← hA2, ← List.map_drop, List.drop_drop] at hcut
      rw [← List.map_take] at hfront
      have hoq : Oct ((bs.drop d).take q) := (HO.out.drop d).take q
      have hnl := num_lt _ hoq
      have hnlt : num ((bs.drop d).take q) < Wd := by
        have e : ((bs.drop d).take q).length ≤ 8 := by simp; omega
        have := Nat.pow_le_pow_right (n := 256) (by omega) e
        have h2 : (256 : Int) ^ ((bs.drop d).take q).length ≤ 256 ^ 8 := by exact_mod_cast this
        unfold Wd
        omega
      obtain ⟨z, hz⟩ : ∃ z, z = num ((bs.drop d).take q) := ⟨_, rfl⟩
      rw [← hz] at hstep hnl hnlt
      obtain ⟨t, ht⟩ : ∃ t, t = num (bs.take d) % Mr := ⟨_, rfl⟩
      rw [← ht] at hstep hW
      have ht0 : 0 ≤ t ∧ t < Mr := by rw [ht]; exact ⟨Int.emod_nonneg _ (by simp [Mr]), Int.emod_lt_of_pos _ (by simp [Mr])⟩
      have i0 : (0 : Int) < R := by omega
      obtain ⟨w0, hw0⟩ : ∃ W, W = wr := ⟨_, rfl⟩
      subst hw0
      have hMw := fr_mulW t ht0.1 ht0.2
      obtain ⟨s, hs⟩ : ∃ s, s = fe Mr (Wd ^ 4) Wd := ⟨_, rfl⟩
      obtain ⟨g0, g1, g2, g3⟩ := HH.out.keep hW.be
      rw [← hs] at g0 g1 g2 g3 hMw
      obtain ⟨p, hp⟩ : ∃ p, p = t * Wd % Mr := ⟨_, rfl⟩
      have hAd := fr_addW p z (by rw [hp]; exact Int.emod_nonneg _ (by simp [Mr])) (by rw [hp]; exact Int.emod_lt_of_pos _ (by simp [Mr])) hnl.1 hnlt
      rw [← hp] at hMw hstep
      rw [hstep] at hAd
      obtain ⟨t', ht'⟩ : ∃ t', t' = num (bs.take (d + q)) % Mr := ⟨_, rfl⟩
      rw [← ht'] at hAd
      have hNu : ∀ W, Below w.heap.size w W → Calls Tryd.prog 112 #[.slice A' q c'] W fun e w' => e = .returned (.int .u64 z) ∧ W = w' := fun W hb => by
        rw [hz]
        exact fr_number W _ A' q c' _ (hfront.below hb) hoq hq8
      have HMw := Lib.hid hMw
      have HAd := Lib.hid hAd
      have HNu := Lib.hid hNu
      have HQ1 := Lib.hid hq1
      have HT' := Lib.hid ht'
      have HC := Lib.hid hcut
      have HD := Lib.hid hdR
      have H8 := Lib.hid h8
      have HQ := Lib.hid hq
      have W1 := Lib.hid hW
      clear hW hMw hAd hNu hq1 ht' hcut hdR h8 hq hs hp ht hz hA2 hstep hfront hoq hnl hnlt ht0 hRd
      obtain ⟨c0, c1, c2, c3, z0, z1, z2, z3⟩ := W1.out.cells
      unfold arr4 at HMw HAd
      go_wp2_with fail
      rw [HQ1.out]
      have i2 : (q : Int) ≤ R := by omega
      go_region_with (first
        | (go_at_call 40; refine (HMw.out _ (HG.out.keep W1.out.drew.be)).mono ?_; rintro e w1 ⟨rfl, hB1⟩; have W2 := Lib.hid (W1.out.drew.keep hB1); clear hB1)
        | (go_at_call 112; refine (HNu.out _ (by first | exact W2.out.be | exact W1.out.drew.be)).mono ?_; rintro e w' ⟨rfl, rfl⟩)
        | (go_at_call 36; refine (HAd.out _ (HG.out.keep W2.out.be)).mono ?_; rintro e w2 ⟨rfl, hB2⟩; have W3 := Lib.hid (W2.out.keep hB2); clear hB2; obtain ⟨d0, d1, d2, d3, y0, y1, y2, y3⟩ := W3.out.cells; clear c0 c1 c2 c3 z0 z1 z2 z3 g0 g1 g2 g3))
      all_goals
        have W4 := Lib.hid (W3.out.set_ (wd t' 0) (wd t' 1) (wd t' 2) (wd t' 3) t' rfl)
        clear d0 d1 d2 d3 y0 y1 y2 y3 W3 W2
        go_wp2_with fail
        refine ⟨⟨d + q, R - q, A2, c' - q, rfl, ?_, ?_, ?_, ?_, HC.out, ?_⟩, ?_⟩
        · have := HD.out; omega
        · omega
        · omega
        · right; have := HQ.out; have := H8.out; omega
        · rw [← HT'.out]; exact W4.out
        · show R - q < R
          have := HQ.out; omega
    · obtain rfl : R = 0 := by omega
      have hf : bs.take d = bs := List.take_of_length_le (by rw [HL.out]; omega)
      rw [hf] at hW
      have hcast := fv_cast (show num bs % Mr % Mr = num bs % Mr from Int.emod_emod _ _)
      obtain ⟨t, ht⟩ : ∃ t, t = num bs % Mr := ⟨_, rfl⟩
      rw [← ht] at hW hcast
      have ht0 : 0 ≤ t ∧ t < Wd ^ 4 := by
        have hM := Mr_lo
        have h1 := Int.emod_nonneg (num bs) (by omega : Mr ≠ 0)
        have h2 := Int.emod_lt_of_pos (num bs) hM.1
        rw [ht]
        omega
      have T0 := Lib.hid ht0
      have W1 := Lib.hid hW
      have HC := Lib.hid hcast
      clear hW ht ht0 hcast hf h8 hRd hdR
      obtain ⟨c0, c1, c2, c3, z0, z1, z2, z3⟩ := W1.out.cells
      have j1 : decide ((0 : Int) < ((0 : Nat) : Int)) = false := by decide
      go_wp2_with fail
      refine (fr_formed t _ (HG.out.keep W1.out.be) (HS.out.keep W1.out.be) T0.out.1 T0.out.2).mono ?_
      rintro e w1 ⟨rfl, hB⟩
      clear c0 c1 c2 c3 z0 z1 z2 z3
      obtain ⟨f0, f1, f2, f3, z0, z1, z2, z3, hg⟩ := res4 W1.out.br hB
      have hW : Below w.heap.size w w1 := W1.out.be.trans (hB.mono W1.out.be.size)
      have HW := Lib.hid hW
      clear hB hW
      unfold fv arr4
      go_wp2_with fail
      refine bodyPost_ret (v := fv t) (by simp [fv, arr4, results, Tryd.results33, go_sem, f0, f1, f2, f3]) rfl ⟨by rw [HC.out], ?_⟩
      repeat (first | exact HW.out | refine Below.drew ?_ | refine Below.alloc ?_ (by first | assumption | (simp; done) | (simp; omega)) _ | refine Below.setCell ?_ (by simp; try omega) _)
end Go.Proofs.YtclfmdaafpachaaDoor
