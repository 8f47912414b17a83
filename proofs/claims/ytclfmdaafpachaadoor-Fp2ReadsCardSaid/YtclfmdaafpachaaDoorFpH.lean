/-
  fp: the contract of Wide.
-/
import Derived.Test.YtclfmdaafpachaaDoorFpG
import Derived.Test.YtclfmdaafpachaaDoorFrH
namespace Go.Proofs.YtclfmdaafpachaaDoor
open Go.RowKit
structure GShp (w : World) : Prop where
  c0 : w.cell? ⟨3, 0, none⟩ = some (.int .u64 (wd (fe Mp (Wd ^ 6) Wd) 0))
  c1 : w.cell? ⟨3, 1, none⟩ = some (.int .u64 (wd (fe Mp (Wd ^ 6) Wd) 1))
  c2 : w.cell? ⟨3, 2, none⟩ = some (.int .u64 (wd (fe Mp (Wd ^ 6) Wd) 2))
  c3 : w.cell? ⟨3, 3, none⟩ = some (.int .u64 (wd (fe Mp (Wd ^ 6) Wd) 3))
  c4 : w.cell? ⟨3, 4, none⟩ = some (.int .u64 (wd (fe Mp (Wd ^ 6) Wd) 4))
  c5 : w.cell? ⟨3, 5, none⟩ = some (.int .u64 (wd (fe Mp (Wd ^ 6) Wd) 5))
theorem GShp.keep {w w' : World} (h : GShp w) (hb : Below w.heap.size w w') : GShp w' := by
  have hl := World.block_lt_of_cell? w _ h.c0
  exact ⟨(hb.cell (p := ⟨_, 0, none⟩) hl).trans h.c0, (hb.cell (p := ⟨_, 1, none⟩) hl).trans h.c1, (hb.cell (p := ⟨_, 2, none⟩) hl).trans h.c2, (hb.cell (p := ⟨_, 3, none⟩) hl).trans h.c3, (hb.cell (p := ⟨_, 4, none⟩) hl).trans h.c4, (hb.cell (p := ⟨_, 5, none⟩) hl).trans h.c5⟩
/-- One piece more: all but the first have eight bytes. -/
theorem wide_stepp (bs : List Int) (d q : Nat) (hq : q ≤ 8) (h : d = 0 ∨ q = 8) (hl : d + q ≤ bs.length) :
    ((num (bs.take d) % Mp) * Wd % Mp + num ((bs.drop d).take q)) % Mp = num (bs.take (d + q)) % Mp := by
  rw [List.take_add, num_app, emm, Int.emod_add_emod]
  have e : ((bs.drop d).take q).length = q := by simp; omega
  rw [e]
  rcases h with rfl | rfl
  · simp [num]
  · rfl
/-- The world in Wide's rounds. -/
structure WWp (w wr : World) (t : Int) : Prop where
  be : Below w.heap.size w wr
  br : Blk wr w.heap.size 52 #[.int .u64 0, .int .u64 0, .int .u64 0, .int .u64 0, .int .u64 0, .int .u64 0]
  bt : Blk wr (w.heap.size + 1) 52 #[.int .u64 (wd t 0), .int .u64 (wd t 1), .int .u64 (wd t 2), .int .u64 (wd t 3), .int .u64 (wd t 4), .int .u64 (wd t 5)]
theorem WWp.drewN {w wr : World} {t : Int} (h : WWp w wr t) (n : Nat) : WWp w (wr.drewN n) t := ⟨below_drewN h.be n, h.br.drewN n, h.bt.drewN n⟩
theorem WWp.drew {w wr : World} {t : Int} (h : WWp w wr t) : WWp w wr.drew t := ⟨below_drewN h.be 1, h.br.drew, h.bt.drew⟩
theorem WWp.keep {w wr w' : World} {t : Int} (h : WWp w wr t) (hb : Below wr.heap.size wr w') : WWp w w' t := ⟨h.be.trans (hb.mono h.be.size), h.br.keep hb, h.bt.keep hb⟩
theorem WWp.set_ {w wr : World} {t : Int} (h : WWp w wr t) (a b c d m n : Int) (z : Int) (hz : (.agg #[.int .u64 a, .int .u64 b, .int .u64 c, .int .u64 d, .int .u64 m, .int .u64 n] : Value) = arr6 z) :
    WWp w ((((((wr.setCell ⟨w.heap.size + 1, 0, none⟩ (.int .u64 a)).setCell ⟨w.heap.size + 1, 1, none⟩ (.int .u64 b)).setCell ⟨w.heap.size + 1, 2, none⟩ (.int .u64 c)).setCell ⟨w.heap.size + 1, 3, none⟩ (.int .u64 d)).setCell ⟨w.heap.size + 1, 4, none⟩ (.int .u64 m)).setCell ⟨w.heap.size + 1, 5, none⟩ (.int .u64 n)) z := by
  simp only [arr6, Value.agg.injEq, Array.mk.injEq, List.cons.injEq, Value.int.injEq, true_and, and_true] at hz
  obtain ⟨rfl, rfl, rfl, rfl, rfl, rfl⟩ := hz
  exact ⟨((((((h.be.setCell (by simp) _).setCell (by simp) _).setCell (by simp) _).setCell (by simp) _).setCell (by simp) _).setCell (by simp) _), ((((((h.br.far (by simp) _).far (by simp) _).far (by simp) _).far (by simp) _).far (by simp) _).far (by simp) _), ((((((h.bt.set_ 0 _).set_ 1 _).set_ 2 _).set_ 3 _).set_ 4 _).set_ 5 _)⟩
theorem WWp.cells {w wr : World} {t : Int} (h : WWp w wr t) : wr.cell? ⟨w.heap.size + 1, 0, none⟩ = some (.int .u64 (wd t 0)) ∧ wr.cell? ⟨w.heap.size + 1, 1, none⟩ = some (.int .u64 (wd t 1)) ∧ wr.cell? ⟨w.heap.size + 1, 2, none⟩ = some (.int .u64 (wd t 2)) ∧ wr.cell? ⟨w.heap.size + 1, 3, none⟩ = some (.int .u64 (wd t 3)) ∧ wr.cell? ⟨w.heap.size + 1, 4, none⟩ = some (.int .u64 (wd t 4)) ∧ wr.cell? ⟨w.heap.size + 1, 5, none⟩ = some (.int .u64 (wd t 5)) ∧
    wr.frozen? ⟨w.heap.size + 1, 0, none⟩ = false ∧ wr.frozen? ⟨w.heap.size + 1, 1, none⟩ = false ∧ wr.frozen? ⟨w.heap.size + 1, 2, none⟩ = false ∧ wr.frozen? ⟨w.heap.size + 1, 3, none⟩ = false ∧ wr.frozen? ⟨w.heap.size + 1, 4, none⟩ = false ∧ wr.frozen? ⟨w.heap.size + 1, 5, none⟩ = false :=
  ⟨h.bt.at_ rfl, h.bt.at_ rfl, h.bt.at_ rfl, h.bt.at_ rfl, h.bt.at_ rfl, h.bt.at_ rfl, h.bt.frozen 0, h.bt.frozen 1, h.bt.frozen 2, h.bt.frozen 3, h.bt.frozen 4, h.bt.frozen 5⟩
theorem fp_mulW (t : Int) (h0 : 0 ≤ t) (h : t < Mp) (W : World) (hG : GMp W) :
    Calls Tryd.prog 54 #[arr6 t, arr6 (fe Mp (Wd ^ 6) Wd)] W fun e w' => e = .returned (arr6 (t * Wd % Mp)) ∧ Below W.heap.size W w' := by
  have hM := Mp_lo
  have hf := pe_in Wd
  have h1 := fp_mul0 t _ W hG h0 (by omega) hf.1 hf.2
  rwa [fe_shift Rip_ok] at h1
theorem fp_addW (p z : Int) (p0 : 0 ≤ p) (hp : p < Mp) (z0 : 0 ≤ z) (hz : z < Wd) (W : World) (_hG : GMp W) :
    Calls Tryd.prog 52 #[arr6 p, .agg #[.int .u64 z, .int .u64 0, .int .u64 0, .int .u64 0, .int .u64 0, .int .u64 0]] W fun e w' => e = .returned (arr6 ((p + z) % Mp)) ∧ Below W.heap.size W w' := by
  rw [arr6_small z z0 hz]
  exact fp_add0 p z W p0 hp z0 (by unfold Wd Mp at *; omega)
set_option maxRecDepth 100000 in
set_option maxHeartbeats 4000000 in
theorem fp_wide (w : World) (hG : GMp w) (hS : GSqp w) (hH : GShp w) (A : Option Addr) (L c : Nat) (bs : List Int) (hr : Reads w w.heap.size A L (bs.map (Value.int .u8))) (ho : Oct bs) (hLc : L ≤ c) (hc63 : c ≤ 9223372036854775807) :
    Calls Tryd.prog 50 #[.slice A L c] w fun e w' => e = .returned (pv (num bs)) ∧ Below w.heap.size w w' := by
  have HG := Lib.hid hG
  have HS := Lib.hid hS
  have HH := Lib.hid hH
  have HR := Lib.hid hr
  have HO := Lib.hid ho
  have HL := Lib.hid (show bs.length = L by simpa using hr.1)
  clear hG hS hH hr ho
  go_enter Tryd.func50, Tryd.ntmps50
  go_wp2_with fail
  have hI : WWp w ((w.alloc (Obj.cells #[Value.int IntKind.u64 0, Value.int IntKind.u64 0, Value.int IntKind.u64 0, Value.int IntKind.u64 0, Value.int IntKind.u64 0, Value.int IntKind.u64 0] 52)).alloc (Obj.cells #[Value.int IntKind.u64 0, Value.int IntKind.u64 0, Value.int IntKind.u64 0, Value.int IntKind.u64 0, Value.int IntKind.u64 0, Value.int IntKind.u64 0] 52)) 0 :=
    ⟨by repeat (first | (with_reducible exact Below.refl _ _) | (with_reducible refine Below.drew ?_) | (with_reducible refine Below.alloc ?_ (by simp; try omega) _)), (Blk.new w _ _).alloc _, bump1 w _ _ _⟩
  have HI := Lib.hid hI
  clear hI
  go_loopw [0, 4] (fun bsl _ wr => ∃ (d R : Nat) (A' : Option Addr) (c' : Nat), bsl = .slice A' R c' ∧ d + R = L ∧ R ≤ c' ∧ c' ≤ c ∧ (d = 0 ∨ R % 8 = 0) ∧ Reads w w.heap.size A' R ((bs.drop d).map (Value.int .u8)) ∧ WWp w wr (num (bs.take d) % Mp)) (fun bsl _ _ => match bsl with | .slice _ n _ => n | _ => 0)
  case atStart => exact ⟨0, L, A, c, rfl, by omega, hLc, Nat.le_refl _, .inl rfl, HR.out, HI.out⟩
  case round =>
    obtain ⟨d, R, A', c', rfl, hdR, hRc, hcc, h8, hRd, hW⟩ := hrel
    by_cases hlt : 0 < R
    · obtain ⟨q, hq⟩ : ∃ q : Nat, q = (R - 1) % 8 + 1 := ⟨_, rfl⟩
      have hq1 : ((R : Int) - 1) % 8 + 1 = (q : Int) := by omega
      have hqR : q ≤ R := by omega
      have hq8 : q ≤ 8 := by omega
      have hstep := wide_stepp bs d q hq8 (by omega) (by rw [HL.out]; omega)
      have hfront := hRd.front hqR
      have hcut := hRd.cut hqR hRc
      obtain ⟨A2, hA2, hrun2⟩ := run_cut1 (P := Tryd.prog) 22 und22 size22 A' R c' q hqR hRc
      rw [← hA2, ← List.map_drop, List.drop_drop] at hcut
      rw [← List.map_take] at hfront
      have hoq : Oct ((bs.drop d).take q) := (HO.out.drop d).take q
      have hnl := num_lt _ hoq
      have hnlt : num ((bs.drop d).take q) < Wd := by
        have e : ((bs.drop d).take q).length ≤ 8 := by simp; omega
        have := Nat.pow_le_pow_right (n := 256) (by omega) e
        have h2 : (256 : Int) ^ ((bs.drop d).take q).length ≤ 256 ^ 8 := by exact_mod_cast this
        unfold Wd
        omega
      obtain ⟨z, hz⟩ : ∃ z, z = num ((bs.drop d).take q) := ⟨_, rfl⟩
      rw [← hz] at hstep hnl hnlt
      obtain ⟨t, ht⟩ : ∃ t, t = num (bs.take d) % Mp := ⟨_, rfl⟩
      rw [← ht] at hstep hW
      have ht0 : 0 ≤ t ∧ t < Mp := by rw [ht]; exact ⟨Int.emod_nonneg _ (by simp [Mp]), Int.emod_lt_of_pos _ (by simp [Mp])⟩
      have i0 : (0 : Int) < R := by omega
      obtain ⟨w0, hw0⟩ : ∃ W, W = wr := ⟨_, rfl⟩
      subst hw0
      have hMw := fp_mulW t ht0.1 ht0.2
      obtain ⟨s, hs⟩ : ∃ s, s = fe Mp (Wd ^ 6) Wd := ⟨_, rfl⟩
      obtain ⟨g0, g1, g2, g3, g4, g5⟩ := HH.out.keep hW.be
      rw [← hs] at g0 g1 g2 g3 g4 g5 hMw
      obtain ⟨p, hp⟩ : ∃ p, p = t * Wd % Mp := ⟨_, rfl⟩
      have hAd := fp_addW p z (by rw [hp]; exact Int.emod_nonneg _ (by simp [Mp])) (by rw [hp]; exact Int.emod_lt_of_pos _ (by simp [Mp])) hnl.1 hnlt
      rw [← hp] at hMw hstep
      rw [hstep] at hAd
      obtain ⟨t', ht'⟩ : ∃ t', t' = num (bs.take (d + q)) % Mp := ⟨_, rfl⟩
      rw [← ht'] at hAd
      have hNu : ∀ W, Below w.heap.size w W → Calls Tryd.prog 124 #[.slice A' q c'] W fun e w' => e = .returned (.int .u64 z) ∧ W = w' := fun W hb => by
        rw [hz]
        exact fp_number W _ A' q c' _ (hfront.below hb) hoq hq8
      have HMw := Lib.hid hMw
      have HAd := Lib.hid hAd
      have HNu := Lib.hid hNu
      have HQ1 := Lib.hid hq1
      have HT' := Lib.hid ht'
      have HC := Lib.hid hcut
      have HD := Lib.hid hdR
      have H8 := Lib.hid h8
      have HQ := Lib.hid hq
      have W1 := Lib.hid hW
      clear hW hMw hAd hNu hq1 ht' hcut hdR h8 hq hs hp ht hz hA2 hstep hfront hoq hnl hnlt ht0 hRd
      obtain ⟨c0, c1, c2, c3, c4, c5, z0, z1, z2, z3, z4, z5⟩ := W1.out.cells
      unfold arr6 at HMw HAd
      go_wp2_with fail
      rw [HQ1.out]
      have i2 : (q : Int) ≤ R := by omega
      go_region_with (first
        | (go_at_call 54; refine (HMw.out _ (HG.out.keep W1.out.drew.be)).mono ?_; rintro e w1 ⟨rfl, hB1⟩; have W2 := Lib.hid (W1.out.drew.keep hB1); clear hB1)
        | (go_at_call 124; refine (HNu.out _ (by first | exact W2.out.be | exact W1.out.drew.be)).mono ?_; rintro e w' ⟨rfl, rfl⟩)
        | (go_at_call 52; refine (HAd.out _ (HG.out.keep W2.out.be)).mono ?_; rintro e w2 ⟨rfl, hB2⟩; have W3 := Lib.hid (W2.out.keep hB2); clear hB2; obtain ⟨d0, d1, d2, d3, d4, d5, y0, y1, y2, y3, y4, y5⟩ := W3.out.cells; clear c0 c1 c2 c3 c4 c5 z0 z1 z2 z3 z4 z5 g0 g1 g2 g3 g4 g5))
      all_goals
        have W4 := Lib.hid (W3.out.set_ (wd t' 0) (wd t' 1) (wd t' 2) (wd t' 3) (wd t' 4) (wd t' 5) t' rfl)
        clear d0 d1 d2 d3 d4 d5 y0 y1 y2 y3 y4 y5 W3 W2
        go_wp2_with fail
        refine ⟨⟨d + q, R - q, A2, c' - q, rfl, ?_, ?_, ?_, ?_, HC.out, ?_⟩, ?_⟩
        · have := HD.out; omega
        · omega
        · omega
        · right; have := HQ.out; have := H8.out; omega
        · rw [← HT'.out]; exact W4.out
        · show R - q < R
          have := HQ.out; omega
    · obtain rfl : R = 0 := by omega
      have hf : bs.take d = bs := List.take_of_length_le (by rw [HL.out]; omega)
      rw [hf] at hW
      have hcast := pv_cast (show num bs % Mp % Mp = num bs % Mp from Int.emod_emod _ _)
      obtain ⟨t, ht⟩ : ∃ t, t = num bs % Mp := ⟨_, rfl⟩
      rw [← ht] at hW hcast
      have ht0 : 0 ≤ t ∧ t < Wd ^ 6 := by
        have hM := Mp_lo
        have h1 := Int.emod_nonneg (num bs) (by omega : Mp ≠ 0)
        have h2 := Int.emod_lt_of_pos (num bs) hM.1
        rw [ht]
        omega
      have T0 := Lib.hid ht0
      have W1 := Lib.hid hW
      have HC := Lib.hid hcast
      clear hW ht ht0 hcast hf h8 hRd hdR
      obtain ⟨c0, c1, c2, c3, c4, c5, z0, z1, z2, z3, z4, z5⟩ := W1.out.cells
      have j1 : decide ((0 : Int) < ((0 : Nat) : Int)) = false := by decide
      go_wp2_with fail
      refine (fp_formed t _ (HG.out.keep W1.out.be) (HS.out.keep W1.out.be) T0.out.1 T0.out.2).mono ?_
      rintro e w1 ⟨rfl, hB⟩
      clear c0 c1 c2 c3 c4 c5 z0 z1 z2 z3 z4 z5
      obtain ⟨f0, f1, f2, f3, f4, f5, z0, z1, z2, z3, z4, z5, hg⟩ := res6 W1.out.br hB
      have hW : Below w.heap.size w w1 := W1.out.be.trans (hB.mono W1.out.be.size)
      have HW := Lib.hid hW
      clear hB hW
      unfold pv arr6
      go_wp2_with fail
      refine bodyPost_ret (v := pv t) (by simp [pv, arr6, results, Tryd.results50, go_sem, f0, f1, f2, f3, f4, f5]) rfl ⟨by rw [HC.out], ?_⟩
      repeat (first | (with_reducible exact HW.out) | (with_reducible refine Below.drew ?_) | (with_reducible refine Below.alloc ?_ (by first | assumption | (simp; done) | (simp; omega)) _) | (with_reducible refine Below.setCell ?_ (by simp; try omega) _))
end Go.Proofs.YtclfmdaafpachaaDoor
