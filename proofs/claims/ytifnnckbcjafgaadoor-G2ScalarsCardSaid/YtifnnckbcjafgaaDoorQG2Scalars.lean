/-
  The law G2Scalars.
-/
import Derived.Test.YtifnnckbcjafgaaDoorQGi
namespace Go.Proofs.YtifnnckbcjafgaaDoor
set_option linter.unusedSimpArgs false
set_option linter.unusedVariables false
open Go.RowKit
attribute [local irreducible] wpL wpF fr Code.wp bodyPost
set_option maxRecDepth 100000 in
set_option maxHeartbeats 4000000 in
theorem g2_scalars_long (A0 : Option Addr) (L0 C0 : Nat) (bs0 : List Int) (A1 : Option Addr) (L1 C1 : Nat) (bs1 : List Int) (A2 : Option Addr) (L2 C2 : Nat) (bs2 : List Int) (v : World) (hG : Glo v) (hR : GloR v) (hH : GSh v) (hr0 : Reads v v.heap.size A0 L0 (bs0.map (Value.int .u8))) (ho0 : Oct bs0) (hr1 : Reads v v.heap.size A1 L1 (bs1.map (Value.int .u8))) (ho1 : Oct bs1) (hr2 : Reads v v.heap.size A2 L2 (bs2.map (Value.int .u8))) (ho2 : Oct bs2) (hlong : 100 < L0 ∨ 100 < L1 ∨ 100 < L2) : Rets 11 #[.slice A0 L0 C0, .slice A1 L1 C1, .slice A2 L2 C2] v (.bool true) := by
  refine calls_fr3 Tryd.func11 rfl (by rfl : _ = 83) (by rfl) ?_
  have hw := Hbl.nil v
  refine seq_plain hw [0] (by rfl) ?_
  refine L_val (.bool false) (by rfl) (by rfl) (gives_value _ fun _ => by rfl) ?_
  refine L_end ?_
  intro w1 hw1
  refine wp_seq ?_
  refine seq_plain hw1 [0, 1] (by rfl) ?_
  refine L_val (.bool true) (by rfl) (by rfl) (gives_call (vl := []) (by kernel_rfl) (by rfl) (fun w h => k2_head w (hG.keep h.below))) ?_
  refine L_val (.bool false) (by rfl) (by rfl) (gives_value _ fun _ => by rfl) ?_
  refine L_end ?_
  intro w2 hw2
  refine wp_cond_false (fr_at _ _ (by rfl) _) ?_
  refine wp_skip ?_
  change Code.wp _ _ _ _ _
  refine wp_seq ?_
  refine seq_plain hw2 [0, 1, 2, 3] (by rfl) ?_
  refine L_val (.slice A0 L0 C0) (by rfl) (by rfl) (gives_value _ fun _ => by rfl) ?_
  refine L_val (.slice A1 L1 C1) (by rfl) (by rfl) (gives_value _ fun _ => by rfl) ?_
  refine L_val (.slice A2 L2 C2) (by rfl) (by rfl) (gives_value _ fun _ => by rfl) ?_
  refine L_val (.bool true) (by rfl) (by rfl) (gives_call (vl := [.slice A0 L0 C0, .slice A1 L1 C1, .slice A2 L2 C2]) (by kernel_rfl) (by rfl) (fun w h => k2_long_yes _ _ _ _ _ _ _ _ _ w (by omega))) ?_
  refine L_end ?_
  intro w3 hw3
  refine wp_cond_true (fr_at _ _ (by rfl) _) ?_
  refine seq_plain hw3 [0] (by rfl) ?_
  refine L_val (.bool true) (by rfl) (by rfl) (gives_value _ fun _ => by rfl) ?_
  refine L_end ?_
  intro w4 hw4
  refine wp_ret ?_
  change bodyPost _ _ _ Exit.ret _ _
  refine (ret_tmp (by rfl) (by rfl) (by rfl) ⟨rfl, hw4.below⟩)
set_option maxRecDepth 100000 in
set_option maxHeartbeats 4000000 in
theorem g2_scalars_short (A0 : Option Addr) (L0 C0 : Nat) (bs0 : List Int) (A1 : Option Addr) (L1 C1 : Nat) (bs1 : List Int) (A2 : Option Addr) (L2 C2 : Nat) (bs2 : List Int) (v : World) (hG : Glo v) (hR : GloR v) (hH : GSh v) (hr0 : Reads v v.heap.size A0 L0 (bs0.map (Value.int .u8))) (ho0 : Oct bs0) (hr1 : Reads v v.heap.size A1 L1 (bs1.map (Value.int .u8))) (ho1 : Oct bs1) (hr2 : Reads v v.heap.size A2 L2 (bs2.map (Value.int .u8))) (ho2 : Oct bs2) (hs0 : L0 ≤ 100) (hs1 : L1 ≤ 100) (hs2 : L2 ≤ 100) : Rets 11 #[.slice A0 L0 C0, .slice A1 L1 C1, .slice A2 L2 C2] v (.bool true) := by
  obtain ⟨k0, hk0⟩ : ∃ k : Pt F2, k = gen2 := ⟨_, rfl⟩
  refine calls_fr3 Tryd.func11 rfl (by rfl : _ = 83) (by rfl) ?_
  have hw := Hbl.nil v
  refine seq_plain hw [0] (by rfl) ?_
  refine L_val (.bool false) (by rfl) (by rfl) (gives_value _ fun _ => by rfl) ?_
  refine L_end ?_
  intro w1 hw1
  refine wp_seq ?_
  refine seq_plain hw1 [0, 1] (by rfl) ?_
  refine L_val (.bool true) (by rfl) (by rfl) (gives_call (vl := []) (by kernel_rfl) (by rfl) (fun w h => k2_head w (hG.keep h.below))) ?_
  refine L_val (.bool false) (by rfl) (by rfl) (gives_value _ fun _ => by rfl) ?_
  refine L_end ?_
  intro w2 hw2
  refine wp_cond_false (fr_at _ _ (by rfl) _) ?_
  refine wp_skip ?_
  change Code.wp _ _ _ _ _
  refine wp_seq ?_
  refine seq_plain hw2 [0, 1, 2, 3] (by rfl) ?_
  refine L_val (.slice A0 L0 C0) (by rfl) (by rfl) (gives_value _ fun _ => by rfl) ?_
  refine L_val (.slice A1 L1 C1) (by rfl) (by rfl) (gives_value _ fun _ => by rfl) ?_
  refine L_val (.slice A2 L2 C2) (by rfl) (by rfl) (gives_value _ fun _ => by rfl) ?_
  refine L_val (.bool false) (by rfl) (by rfl) (gives_call (vl := [.slice A0 L0 C0, .slice A1 L1 C1, .slice A2 L2 C2]) (by kernel_rfl) (by rfl) (fun w h => k2_long_no _ _ _ _ _ _ _ _ _ w (by omega) (by omega) (by omega))) ?_
  refine L_end ?_
  intro w3 hw3
  refine wp_cond_false (fr_at _ _ (by rfl) _) ?_
  refine wp_skip ?_
  change Code.wp _ _ _ _ _
  refine seq_plain hw3 [0, 1, 2, 3] (by rfl) ?_
  refine L_val (.slice A0 L0 C0) (by rfl) (by rfl) (gives_value _ fun _ => by rfl) ?_
  refine L_val (.agg (frc (num bs0))) (by rfl) (by rfl) (gives_call (vl := [.slice A0 L0 C0]) (by kernel_rfl) (by rfl) (fun w h => k2_scalar A0 L0 C0 bs0 w (hR.keep h.below) (hH.keep h.below) ((hr0.below h.below).more h.below.size) ho0 (by omega))) ?_
  refine L_alloc _ (by rfl) (by rfl) z_fr (frc (0 : Int)) rfl ?_; intro g1
  refine L_store (t := 36) 0 g1 _ _ (by rfl) (by rfl) (by rfl) (by rfl) (by rfl) (hi_fr _) ((frc_size _).trans (frc_size _).symm) (frc_one _) ?_
  simp only [List.set_cons_zero, List.set_cons_succ]
  refine L_end ?_
  intro w4 hw4
  refine seq_plain hw4 [0, 1, 2, 3] (by rfl) ?_
  refine L_val (.slice A1 L1 C1) (by rfl) (by rfl) (gives_value _ fun _ => by rfl) ?_
  refine L_val (.agg (frc (num bs1))) (by rfl) (by rfl) (gives_call (vl := [.slice A1 L1 C1]) (by kernel_rfl) (by rfl) (fun w h => k2_scalar A1 L1 C1 bs1 w (hR.keep h.below) (hH.keep h.below) ((hr1.below h.below).more h.below.size) ho1 (by omega))) ?_
  refine L_alloc _ (by rfl) (by rfl) z_fr (frc (0 : Int)) rfl ?_; intro g2
  refine L_store (t := 36) 0 g2 _ _ (by rfl) (by rfl) (by rfl) (by rfl) (by rfl) (hi_fr _) ((frc_size _).trans (frc_size _).symm) (frc_one _) ?_
  simp only [List.set_cons_zero, List.set_cons_succ]
  refine L_end ?_
  intro w5 hw5
  refine seq_plain hw5 [0, 1, 2, 3, 4, 5] (by rfl) ?_
  refine L_val (.agg (cg2 (k0))) (by rfl) (by rfl) (gives_call (vl := []) (by kernel_rfl) (by rfl) (fun w h => by rw [hk0]; exact k2_gen w (hG.keep h.below))) ?_
  refine L_val (.slice A2 L2 C2) (by rfl) (by rfl) (gives_value _ fun _ => by rfl) ?_
  refine L_val (.agg (frc (num bs2))) (by rfl) (by rfl) (gives_call (vl := [.slice A2 L2 C2]) (by kernel_rfl) (by rfl) (fun w h => k2_scalar A2 L2 C2 bs2 w (hR.keep h.below) (hH.keep h.below) ((hr2.below h.below).more h.below.size) ho2 (by omega))) ?_
  refine L_val (.agg (cg2 (gMul F2.inv (k0) (num bs2)))) (by rfl) (by rfl) (gives_call (vl := [.agg (cg2 (k0)), .agg (frc (num bs2))]) (by kernel_rfl) (by rfl) (fun w h => k2_gmul _ _ w (hG.keep h.below) (hR.keep h.below))) ?_
  refine L_alloc _ (by rfl) (by rfl) z_g2 (cg2 (0 : Pt F2)) rfl ?_; intro g3
  refine L_store (t := 59) 0 g3 _ _ (by rfl) (by rfl) (by rfl) (by rfl) (by rfl) (hi_g2 _) ((cg2_size _).trans (cg2_size _).symm) (cg2_one _) ?_
  simp only [List.set_cons_zero, List.set_cons_succ]
  refine L_end ?_
  intro w6 hw6
  refine wp_seq ?_
  refine seq_flow (by kernel_rfl) hw6 [] [(g3, 59, (cg2 (gMul F2.inv (k0) (num bs2)))), (g2, 36, (frc (num bs1))), (g1, 36, (frc (num bs0)))] 37 (by rfl) ?_
  refine fT (i := 0) (g := (gL g3 59 (cg2 (gMul F2.inv (k0) (num bs2))) 0 Tryd.underlying59 (hi_g2 _))) (h := ?_)
  refine fT (i := 1) (g := (gL g1 36 (frc (num bs0)) 2 Tryd.underlying36 (hi_fr _))) (h := ?_)
  refine fT (i := 2) (g := (gives_call (vl := [.agg (cg2 (gMul F2.inv (k0) (num bs2))), .agg (frc (num bs0))]) (by kernel_rfl) (by rfl) (fun w h => k2_gmul _ _ w (hG.keep h.below) (hR.keep h.below)))) (h := ?_)
  refine fT (i := 3) (g := (gL g3 59 (cg2 (gMul F2.inv (k0) (num bs2))) 0 Tryd.underlying59 (hi_g2 _))) (h := ?_)
  refine fT (i := 4) (g := (gL g2 36 (frc (num bs1)) 1 Tryd.underlying36 (hi_fr _))) (h := ?_)
  refine fT (i := 5) (g := (gives_call (vl := [.agg (cg2 (gMul F2.inv (k0) (num bs2))), .agg (frc (num bs1))]) (by kernel_rfl) (by rfl) (fun w h => k2_gmul _ _ w (hG.keep h.below) (hR.keep h.below)))) (h := ?_)
  refine fT (i := 6) (g := (gives_call (vl := [.agg (cg2 (gMul F2.inv (gMul F2.inv (k0) (num bs2)) (num bs0))), .agg (cg2 (gMul F2.inv (gMul F2.inv (k0) (num bs2)) (num bs1)))]) (by kernel_rfl) (by rfl) (fun w h => k2_gadd _ _ w (hG.keep h.below)))) (h := ?_)
  refine fT (i := 7) (g := (gL g3 59 (cg2 (gMul F2.inv (k0) (num bs2))) 0 Tryd.underlying59 (hi_g2 _))) (h := ?_)
  refine fT (i := 8) (g := (gL g1 36 (frc (num bs0)) 2 Tryd.underlying36 (hi_fr _))) (h := ?_)
  refine fT (i := 9) (g := (gL g2 36 (frc (num bs1)) 1 Tryd.underlying36 (hi_fr _))) (h := ?_)
  refine fT (i := 10) (g := (gives_call (vl := [.agg (frc (num bs0)), .agg (frc (num bs1))]) (by kernel_rfl) (by rfl) (fun w h => u_add _ _ w (hR.keep h.below)))) (h := ?_)
  refine fT (i := 11) (g := (gives_call (vl := [.agg (cg2 (gMul F2.inv (k0) (num bs2))), .agg (frc ((num bs0) + (num bs1)))]) (by kernel_rfl) (by rfl) (fun w h => k2_gmul _ _ w (hG.keep h.below) (hR.keep h.below)))) (h := ?_)
  refine fT (i := 12) (u := (.bool false)) (g := (gives_neq (cg2 (gAdd F2.inv (gMul F2.inv (gMul F2.inv (k0) (num bs2)) (num bs0)) (gMul F2.inv (gMul F2.inv (k0) (num bs2)) (num bs1)))) (cg2 (gMul F2.inv (gMul F2.inv (k0) (num bs2)) ((num bs0) + (num bs1)))) true (by rfl) (by rfl) (by kernel_rfl) (fun w => eq_g2_t (d := 9995) w (mul_sum ec2 F2.inv_zero (ing2 hk0 _) _ _)))) (h := ?_)
  refine fT (i := 13) (u := (.bool false)) (g := (gives_value _ fun _ => by rfl)) (h := ?_)
  refine fG (i := 14) (dj := 37) (g := (gL g3 59 (cg2 (gMul F2.inv (k0) (num bs2))) 0 Tryd.underlying59 (hi_g2 _))) (h := ?_)
  refine fG (i := 15) (dj := 37) (g := (gL g1 36 (frc (num bs0)) 2 Tryd.underlying36 (hi_fr _))) (h := ?_)
  refine fG (i := 16) (dj := 37) (g := (gives_call (vl := [.agg (cg2 (gMul F2.inv (k0) (num bs2))), .agg (frc (num bs0))]) (by kernel_rfl) (by rfl) (fun w h => k2_gmul _ _ w (hG.keep h.below) (hR.keep h.below)))) (h := ?_)
  refine fG (i := 17) (dj := 37) (g := (gL g2 36 (frc (num bs1)) 1 Tryd.underlying36 (hi_fr _))) (h := ?_)
  refine fG (i := 18) (dj := 37) (g := (gives_call (vl := [.agg (cg2 (gMul F2.inv (gMul F2.inv (k0) (num bs2)) (num bs0))), .agg (frc (num bs1))]) (by kernel_rfl) (by rfl) (fun w h => k2_gmul _ _ w (hG.keep h.below) (hR.keep h.below)))) (h := ?_)
  refine fG (i := 19) (dj := 37) (g := (gL g3 59 (cg2 (gMul F2.inv (k0) (num bs2))) 0 Tryd.underlying59 (hi_g2 _))) (h := ?_)
  refine fG (i := 20) (dj := 37) (g := (gL g1 36 (frc (num bs0)) 2 Tryd.underlying36 (hi_fr _))) (h := ?_)
  refine fG (i := 21) (dj := 37) (g := (gL g2 36 (frc (num bs1)) 1 Tryd.underlying36 (hi_fr _))) (h := ?_)
  refine fG (i := 22) (dj := 37) (g := (gives_call (vl := [.agg (frc (num bs0)), .agg (frc (num bs1))]) (by kernel_rfl) (by rfl) (fun w h => u_mul _ _ w (hR.keep h.below)))) (h := ?_)
  refine fG (i := 23) (dj := 37) (g := (gives_call (vl := [.agg (cg2 (gMul F2.inv (k0) (num bs2))), .agg (frc ((num bs0) * (num bs1)))]) (by kernel_rfl) (by rfl) (fun w h => k2_gmul _ _ w (hG.keep h.below) (hR.keep h.below)))) (h := ?_)
  refine fG (i := 24) (dj := 37) (u := (.bool false)) (g := (gives_neq (cg2 (gMul F2.inv (gMul F2.inv (gMul F2.inv (k0) (num bs2)) (num bs0)) (num bs1))) (cg2 (gMul F2.inv (gMul F2.inv (k0) (num bs2)) ((num bs0) * (num bs1)))) true (by rfl) (by rfl) (by kernel_rfl) (fun w => eq_g2_t (d := 9995) w (mul_mul ec2 F2.inv_zero (ing2 hk0 _) _ _)))) (h := ?_)
  refine fT (i := 25) (u := (.bool false)) (g := (gives_value _ fun _ => by rfl)) (h := ?_)
  refine fT (i := 26) (u := (.bool false)) (g := (gives_value _ fun _ => by rfl)) (h := ?_)
  refine fG (i := 27) (dj := 50) (g := (gL g3 59 (cg2 (gMul F2.inv (k0) (num bs2))) 0 Tryd.underlying59 (hi_g2 _))) (h := ?_)
  refine fG (i := 28) (dj := 50) (g := (gL g1 36 (frc (num bs0)) 2 Tryd.underlying36 (hi_fr _))) (h := ?_)
  refine fG (i := 29) (dj := 50) (g := (gives_call (vl := [.agg (cg2 (gMul F2.inv (k0) (num bs2))), .agg (frc (num bs0))]) (by kernel_rfl) (by rfl) (fun w h => k2_gmul _ _ w (hG.keep h.below) (hR.keep h.below)))) (h := ?_)
  refine fG (i := 30) (dj := 50) (g := (gives_call (vl := [.agg (cg2 (gMul F2.inv (gMul F2.inv (k0) (num bs2)) (num bs0)))]) (by kernel_rfl) (by rfl) (fun w h => k2_neg _ w (hG.keep h.below)))) (h := ?_)
  refine fG (i := 31) (dj := 50) (g := (gL g3 59 (cg2 (gMul F2.inv (k0) (num bs2))) 0 Tryd.underlying59 (hi_g2 _))) (h := ?_)
  refine fG (i := 32) (dj := 50) (g := (gL g1 36 (frc (num bs0)) 2 Tryd.underlying36 (hi_fr _))) (h := ?_)
  refine fG (i := 33) (dj := 50) (g := (gives_call (vl := [.agg (frc (num bs0))]) (by kernel_rfl) (by rfl) (fun w h => u_neg _ w (hR.keep h.below)))) (h := ?_)
  refine fG (i := 34) (dj := 50) (g := (gives_call (vl := [.agg (cg2 (gMul F2.inv (k0) (num bs2))), .agg (frc (-(num bs0)))]) (by kernel_rfl) (by rfl) (fun w h => k2_gmul _ _ w (hG.keep h.below) (hR.keep h.below)))) (h := ?_)
  refine fG (i := 35) (dj := 50) (u := (.bool false)) (g := (gives_neq (cg2 (-(gMul F2.inv (gMul F2.inv (k0) (num bs2)) (num bs0)))) (cg2 (gMul F2.inv (gMul F2.inv (k0) (num bs2)) (-(num bs0)))) true (by rfl) (by rfl) (by kernel_rfl) (fun w => eq_g2_t (d := 9995) w (mul_neg ec2 F2.inv_zero (ing2 hk0 _) _)))) (h := ?_)
  refine fT (i := 36) (u := (.bool false)) (g := (gives_value _ fun _ => by rfl)) (h := ?_)
  refine flow_done (by kernel_rfl) ?_
  intro w7 hw7
  refine wp_cond_false (fr_at _ _ (by rfl) _) ?_
  refine wp_skip ?_
  change Code.wp _ _ _ _ _
  refine seq_flow (by kernel_rfl) hw7 [] [(g3, 59, (cg2 (gMul F2.inv (k0) (num bs2)))), (g2, 36, (frc (num bs1))), (g1, 36, (frc (num bs0)))] 23 (by rfl) ?_
  refine fT (i := 0) (g := (gL g3 59 (cg2 (gMul F2.inv (k0) (num bs2))) 0 Tryd.underlying59 (hi_g2 _))) (h := ?_)
  refine fT (i := 1) (g := (gives_call (vl := [.int .u64 1]) (by kernel_rfl) (by rfl) (fun w h => w_of 1 w (hR.keep h.below) (by omega) (by simp only [Wd]; omega)))) (h := ?_)
  refine fT (i := 2) (g := (gives_call (vl := [.agg (cg2 (gMul F2.inv (k0) (num bs2))), .agg (frc (1))]) (by kernel_rfl) (by rfl) (fun w h => k2_gmul _ _ w (hG.keep h.below) (hR.keep h.below)))) (h := ?_)
  refine fT (i := 3) (g := (gL g3 59 (cg2 (gMul F2.inv (k0) (num bs2))) 0 Tryd.underlying59 (hi_g2 _))) (h := ?_)
  refine fT (i := 4) (u := (.bool true)) (g := (gives_eql (cg2 (gMul F2.inv (gMul F2.inv (k0) (num bs2)) (1))) (cg2 (gMul F2.inv (k0) (num bs2))) true (by rfl) (by rfl) (by kernel_rfl) (fun w => eq_g2_t (d := 9995) w (mul_one ec2 F2.inv_zero (ing2 hk0 _).1)))) (h := ?_)
  refine fT (i := 5) (u := (.bool true)) (g := (gives_value _ fun _ => by rfl)) (h := ?_)
  refine fG (i := 6) (dj := 66) (g := (gL g3 59 (cg2 (gMul F2.inv (k0) (num bs2))) 0 Tryd.underlying59 (hi_g2 _))) (h := ?_)
  refine fG (i := 7) (dj := 66) (u := (.agg (frc (0)))) (g := gb0_fr) (h := ?_)
  refine fG (i := 8) (dj := 66) (g := (gives_call (vl := [.agg (cg2 (gMul F2.inv (k0) (num bs2))), .agg (frc (0))]) (by kernel_rfl) (by rfl) (fun w h => k2_gmul _ _ w (hG.keep h.below) (hR.keep h.below)))) (h := ?_)
  refine fG (i := 9) (dj := 66) (u := (.agg (cg2 (0 : Pt F2)))) (g := (gb_g2 [] trivial (by rfl) (cg2 (0 : Pt F2)) (by rfl))) (h := ?_)
  refine fG (i := 10) (dj := 66) (u := (.bool true)) (g := (gives_eql (cg2 (gMul F2.inv (gMul F2.inv (k0) (num bs2)) (0))) (cg2 (0 : Pt F2)) true (by rfl) (by rfl) (by kernel_rfl) (fun w => eq_g2_t (d := 9995) w (mul_zero ec2 F2.inv_zero (ing2 hk0 _).1)))) (h := ?_)
  refine fT (i := 11) (u := (.bool true)) (g := (gives_value _ fun _ => by rfl)) (h := ?_)
  refine fT (i := 12) (u := (.bool true)) (g := (gives_value _ fun _ => by rfl)) (h := ?_)
  refine fG (i := 13) (dj := 73) (g := (gL g3 59 (cg2 (gMul F2.inv (k0) (num bs2))) 0 Tryd.underlying59 (hi_g2 _))) (h := ?_)
  refine fG (i := 14) (dj := 73) (g := (gives_call (vl := [.agg (cg2 (gMul F2.inv (k0) (num bs2)))]) (by kernel_rfl) (by rfl) (fun w h => k2_int _ w (hG.keep h.below) (hR.keep h.below) (ing2 hk0 _).1 (mul_minus ec2 F2.inv_zero (ing2 hk0 _))))) (h := ?_)
  refine fT (i := 15) (u := (.bool true)) (g := (gives_value _ fun _ => by rfl)) (h := ?_)
  refine fT (i := 16) (u := (.bool true)) (g := (gives_value _ fun _ => by rfl)) (h := ?_)
  refine fG (i := 17) (dj := 77) (g := (gL g3 59 (cg2 (gMul F2.inv (k0) (num bs2))) 0 Tryd.underlying59 (hi_g2 _))) (h := ?_)
  refine fG (i := 18) (dj := 77) (g := (gL g1 36 (frc (num bs0)) 2 Tryd.underlying36 (hi_fr _))) (h := ?_)
  refine fG (i := 19) (dj := 77) (g := (gives_call (vl := [.agg (cg2 (gMul F2.inv (k0) (num bs2))), .agg (frc (num bs0))]) (by kernel_rfl) (by rfl) (fun w h => k2_gmul _ _ w (hG.keep h.below) (hR.keep h.below)))) (h := ?_)
  refine fG (i := 20) (dj := 77) (g := (gives_call (vl := [.agg (cg2 (gMul F2.inv (gMul F2.inv (k0) (num bs2)) (num bs0)))]) (by kernel_rfl) (by rfl) (fun w h => k2_on_t _ w (hG.keep h.below) (on_mul ec2 F2.inv_zero (ing2 hk0 _).1 _)))) (h := ?_)
  refine fT (i := 21) (u := (.bool true)) (g := (gives_value _ fun _ => by rfl)) (h := ?_)
  refine fT (i := 22) (u := (.bool true)) (g := (gives_value _ fun _ => by rfl)) (h := ?_)
  refine flow_done (by kernel_rfl) ?_
  intro w8 hw8
  refine wp_ret ?_
  change bodyPost _ _ _ Exit.ret _ _
  refine (ret_tmp (by rfl) (by rfl) (by rfl) ⟨rfl, hw8.below⟩)
theorem g2_scalars_any (A0 : Option Addr) (L0 C0 : Nat) (bs0 : List Int) (A1 : Option Addr) (L1 C1 : Nat) (bs1 : List Int) (A2 : Option Addr) (L2 C2 : Nat) (bs2 : List Int) (v : World) (hG : Glo v) (hR : GloR v) (hH : GSh v) (hr0 : Reads v v.heap.size A0 L0 (bs0.map (Value.int .u8))) (ho0 : Oct bs0) (hr1 : Reads v v.heap.size A1 L1 (bs1.map (Value.int .u8))) (ho1 : Oct bs1) (hr2 : Reads v v.heap.size A2 L2 (bs2.map (Value.int .u8))) (ho2 : Oct bs2) : Rets 11 #[.slice A0 L0 C0, .slice A1 L1 C1, .slice A2 L2 C2] v (.bool true) := by
  by_cases hlong : 100 < L0 ∨ 100 < L1 ∨ 100 < L2
  · exact g2_scalars_long A0 L0 C0 bs0 A1 L1 C1 bs1 A2 L2 C2 bs2 v hG hR hH hr0 ho0 hr1 ho1 hr2 ho2 hlong
  · exact g2_scalars_short A0 L0 C0 bs0 A1 L1 C1 bs1 A2 L2 C2 bs2 v hG hR hH hr0 ho0 hr1 ho1 hr2 ho2 (by omega) (by omega) (by omega)
end Go.Proofs.YtifnnckbcjafgaaDoor
