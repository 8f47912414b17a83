/-
  The law G2Groups.
-/
import Derived.Test.YtifnnckbcjafgaaDoorQGg
namespace Go.Proofs.YtifnnckbcjafgaaDoor
set_option linter.unusedSimpArgs false
set_option linter.unusedVariables false
open Go.RowKit
attribute [local irreducible] wpL wpF fr Code.wp bodyPost
set_option maxRecDepth 100000 in
set_option maxHeartbeats 4000000 in
theorem g2_groups_long (A0 : Option Addr) (L0 C0 : Nat) (bs0 : List Int) (n : Int) (v : World) (hG : Glo v) (hR : GloR v) (hH : GSh v) (hr0 : Reads v v.heap.size A0 L0 (bs0.map (Value.int .u8))) (ho0 : Oct bs0) (hQ : GQp v) (hm : 0 ≤ n ∧ n < 65536) (hlong : 100 < L0) : Rets 13 #[.slice A0 L0 C0, .int .u16 n] v (.bool true) := by
  refine calls_fr2 Tryd.func13 rfl (by rfl : _ = 75) (by rfl) ?_
  have hw := Hbl.nil v
  refine seq_plain hw [0] (by rfl) ?_
  refine L_val (.bool false) (by rfl) (by rfl) (gives_value _ fun _ => by rfl) ?_
  refine L_end ?_
  intro w1 hw1
  refine wp_seq ?_
  refine seq_plain hw1 [0, 1] (by rfl) ?_
  refine L_val (.bool true) (by rfl) (by rfl) (gives_call (vl := []) (by kernel_rfl) (by rfl) (fun w h => k2_head w (hG.keep h.below))) ?_
  refine L_val (.bool false) (by rfl) (by rfl) (gives_value _ fun _ => by rfl) ?_
  refine L_end ?_
  intro w2 hw2
  refine wp_cond_false (fr_at _ _ (by rfl) _) ?_
  refine wp_skip ?_
  change Code.wp _ _ _ _ _
  refine wp_seq ?_
  refine seq_plain hw2 [0, 1] (by rfl) ?_
  refine L_val (.slice A0 L0 C0) (by rfl) (by rfl) (gives_value _ fun _ => by rfl) ?_
  refine L_val (.bool true) (by rfl) (by rfl) (gives_call (vl := [.slice A0 L0 C0, .slice none 0 0, .slice none 0 0]) (by kernel_rfl) (by rfl) (fun w h => k2_long_yes _ _ _ none 0 0 none 0 0 w (by omega))) ?_
  refine L_end ?_
  intro w3 hw3
  refine wp_cond_true (fr_at _ _ (by rfl) _) ?_
  refine seq_plain hw3 [0] (by rfl) ?_
  refine L_val (.bool true) (by rfl) (by rfl) (gives_value _ fun _ => by rfl) ?_
  refine L_end ?_
  intro w4 hw4
  refine wp_ret ?_
  change bodyPost _ _ _ Exit.ret _ _
  refine (ret_tmp (by rfl) (by rfl) (by rfl) ⟨rfl, hw4.below⟩)
set_option maxRecDepth 100000 in
set_option maxHeartbeats 4000000 in
theorem g2_groups_short (A0 : Option Addr) (L0 C0 : Nat) (bs0 : List Int) (n : Int) (v : World) (hG : Glo v) (hR : GloR v) (hH : GSh v) (hr0 : Reads v v.heap.size A0 L0 (bs0.map (Value.int .u8))) (ho0 : Oct bs0) (hQ : GQp v) (hm : 0 ≤ n ∧ n < 65536) (hs0 : L0 ≤ 100) : Rets 13 #[.slice A0 L0 C0, .int .u16 n] v (.bool true) := by
  obtain ⟨k0, hk0⟩ : ∃ k : Pt F2, k = gen2 := ⟨_, rfl⟩
  obtain ⟨k1, hk1⟩ : ∃ k : Int, k = -1 := ⟨_, rfl⟩
  refine calls_fr2 Tryd.func13 rfl (by rfl : _ = 75) (by rfl) ?_
  have hw := Hbl.nil v
  refine seq_plain hw [0] (by rfl) ?_
  refine L_val (.bool false) (by rfl) (by rfl) (gives_value _ fun _ => by rfl) ?_
  refine L_end ?_
  intro w1 hw1
  refine wp_seq ?_
  refine seq_plain hw1 [0, 1] (by rfl) ?_
  refine L_val (.bool true) (by rfl) (by rfl) (gives_call (vl := []) (by kernel_rfl) (by rfl) (fun w h => k2_head w (hG.keep h.below))) ?_
  refine L_val (.bool false) (by rfl) (by rfl) (gives_value _ fun _ => by rfl) ?_
  refine L_end ?_
  intro w2 hw2
  refine wp_cond_false (fr_at _ _ (by rfl) _) ?_
  refine wp_skip ?_
  change Code.wp _ _ _ _ _
  refine wp_seq ?_
  refine seq_plain hw2 [0, 1] (by rfl) ?_
  refine L_val (.slice A0 L0 C0) (by rfl) (by rfl) (gives_value _ fun _ => by rfl) ?_
  refine L_val (.bool false) (by rfl) (by rfl) (gives_call (vl := [.slice A0 L0 C0, .slice none 0 0, .slice none 0 0]) (by kernel_rfl) (by rfl) (fun w h => k2_long_no _ _ _ none 0 0 none 0 0 w (by omega) (by omega) (by omega))) ?_
  refine L_end ?_
  intro w3 hw3
  refine wp_cond_false (fr_at _ _ (by rfl) _) ?_
  refine wp_skip ?_
  change Code.wp _ _ _ _ _
  refine seq_plain hw3 [0, 1, 2, 3, 4, 5] (by rfl) ?_
  refine L_val (.agg (cg2 (k0))) (by rfl) (by rfl) (gives_call (vl := []) (by kernel_rfl) (by rfl) (fun w h => by rw [hk0]; exact k2_gen w (hG.keep h.below))) ?_
  refine L_val (.slice A0 L0 C0) (by rfl) (by rfl) (gives_value _ fun _ => by rfl) ?_
  refine L_val (.agg (frc (num bs0))) (by rfl) (by rfl) (gives_call (vl := [.slice A0 L0 C0]) (by kernel_rfl) (by rfl) (fun w h => k2_scalar A0 L0 C0 bs0 w (hR.keep h.below) (hH.keep h.below) ((hr0.below h.below).more h.below.size) ho0 (by omega))) ?_
  refine L_val (.agg (cg2 (gMul F2.inv (k0) (num bs0)))) (by rfl) (by rfl) (gives_call (vl := [.agg (cg2 (k0)), .agg (frc (num bs0))]) (by kernel_rfl) (by rfl) (fun w h => k2_gmul _ _ w (hG.keep h.below) (hR.keep h.below))) ?_
  refine L_alloc _ (by rfl) (by rfl) z_g2 (cg2 (0 : Pt F2)) rfl ?_; intro g1
  refine L_store (t := 59) 0 g1 _ _ (by rfl) (by rfl) (by rfl) (by rfl) (by rfl) (hi_g2 _) ((cg2_size _).trans (cg2_size _).symm) (cg2_one _) ?_
  simp only [List.set_cons_zero, List.set_cons_succ]
  refine L_end ?_
  intro w4 hw4
  refine seq_plain hw4 [0, 1, 2, 3] (by rfl) ?_
  refine L_val (.int .u16 n) (by rfl) (by rfl) (gives_value _ fun _ => by rfl) ?_
  refine L_callE (A := Unit) (B := (Pt F2)) (vl := [.int .u16 n]) (fun a b => .agg (cg2 b)) (fun _ x => OnC (F2.sm 4 4) x) (by rfl) (by rfl) Want.none (by kernel_rfl) (by rfl) (fun w h => k2_wild n w (hG.keep h.below) (hQ.keep h.below) hm) ?_; intro u_1 x_1 hu_1
  rcases grp_ways ec2 F2.inv_zero x_1 with ⟨hz, hi⟩ | ⟨hz, hi⟩ | ⟨hz, hi⟩
  ·
    refine L_alloc _ (by rfl) (by rfl) z_g2 (cg2 (0 : Pt F2)) rfl ?_; intro g2
    refine L_store (t := 59) 0 g2 _ _ (by rfl) (by rfl) (by rfl) (by rfl) (by rfl) (hi_g2 _) ((cg2_size _).trans (cg2_size _).symm) (cg2_one _) ?_
    simp only [List.set_cons_zero, List.set_cons_succ]
    refine L_end ?_
    intro w5 hw5
    refine seq_plain hw5 [0, 1, 2, 3, 4] (by rfl) ?_
    refine L_val (.agg (frc (1))) (by rfl) (by rfl) (gives_call (vl := [.int .u64 1]) (by kernel_rfl) (by rfl) (fun w h => w_of 1 w (hR.keep h.below) (by omega) (by simp only [Wd]; omega))) ?_
    refine L_val (.agg (frc (k1))) (by rfl) (by rfl) (gives_call (vl := [.agg (frc (1))]) (by kernel_rfl) (by rfl) (fun w h => by rw [hk1]; exact u_neg _ w (hR.keep h.below))) ?_
    refine L_val (.agg (b32c ((k1) % Mr))) (by rfl) (by rfl) (gives_call (vl := [.agg (frc (k1))]) (by kernel_rfl) (by rfl) (fun w h => u_bytes _ w (hR.keep h.below))) ?_
    refine L_alloc _ (by rfl) (by rfl) z_b32 (b32c (0 : Int)) rfl ?_; intro g3
    refine L_store (t := 48) 0 g3 _ _ (by rfl) (by rfl) (by rfl) (by rfl) (by rfl) (hi_b32 _) ((b32c_size _).trans (b32c_size _).symm) (b32c_one _) ?_
    simp only [List.set_cons_zero, List.set_cons_succ]
    refine L_end ?_
    intro w6 hw6
    refine seq_plain hw6 [0, 1] (by rfl) ?_
    refine L_val (.slice (some ⟨g3, 0, none⟩) 32 32) (by rfl) (by rfl) (gives_slice_arr g3 32 1 (by rfl) und_b32 u8_sz) ?_
    refine L_val (.slice (some ⟨g3, 0, none⟩) 32 32) (by rfl) (by rfl) (gives_value _ fun _ => by rfl) ?_
    refine L_end ?_
    intro w7 hw7
    refine seq_plain hw7 [0, 1, 2, 3, 4, 5] (by rfl) ?_
    refine L_val (.slice (some ⟨g3, 0, none⟩) 32 32) (by rfl) (by rfl) (gives_value _ fun _ => by rfl) ?_
    refine L_val (.pointer (some ⟨g3, 0 + (31), none⟩)) (by rfl) (by rfl) (gives_index g3 0 (32) (32) (31) (31) (by rfl) (by rfl) und_u8s u8_sz (by omega) (by omega)) ?_
    refine L_val (.int .u8 0) (by rfl) (by rfl) (gives_load1 g3 (0 + (31)) _ (b32c ((k1) % Mr)) (.int .u8 0) (by rfl) (fun _ h => h.blk 0 (by rfl)) (r_at hk1) und_u8') ?_
    refine L_val (.int .u8 1) (by rfl) (by rfl) (gives_add (k := .u8) 0 1 1 (by rfl) (by rfl) (by rfl)) ?_
    refine L_val (.pointer (some ⟨g3, 0 + (31), none⟩)) (by rfl) (by rfl) (gives_index g3 0 (32) (32) (31) (31) (by rfl) (by rfl) und_u8s u8_sz (by omega) (by omega)) ?_
    refine L_store1 0 g3 (0 + (31)) _ (b32c ((k1) % Mr)) (.int .u8 1) (by rfl) (by rfl) (by rfl) (by rfl) rfl (by rfl) u8_sz (by rw [b32c_size]; decide) ?_
    simp only [List.set_cons_zero, List.set_cons_succ]
    refine L_end ?_
    intro w8 hw8
    refine wp_seq ?_
    refine seq_flow (by kernel_rfl) hw8 [] [(g3, 48, ((b32c ((k1) % Mr)).setIfInBounds (0 + (31)) (.int .u8 1))), (g2, 59, (cg2 (x_1))), (g1, 59, (cg2 (gMul F2.inv (k0) (num bs0))))] 25 (by rfl) ?_
    refine fT (i := 0) (g := (gL g1 59 (cg2 (gMul F2.inv (k0) (num bs0))) 2 Tryd.underlying59 (hi_g2 _))) (h := ?_)
    refine fT (i := 1) (g := (gives_call (vl := [.agg (cg2 (gMul F2.inv (k0) (num bs0)))]) (by kernel_rfl) (by rfl) (fun w h => k2_int _ w (hG.keep h.below) (hR.keep h.below) (ing2 hk0 _).1 (mul_minus ec2 F2.inv_zero (ing2 hk0 _))))) (h := ?_)
    refine fT (i := 2) (u := (.bool false)) (g := (gives_value _ fun _ => by rfl)) (h := ?_)
    refine fT (i := 3) (u := (.bool false)) (g := (gives_value _ fun _ => by rfl)) (h := ?_)
    refine fG (i := 4) (dj := 31) (g := (gL g2 59 (cg2 (x_1)) 1 Tryd.underlying59 (hi_g2 _))) (h := ?_)
    refine fG (i := 5) (dj := 31) (g := (gives_call (vl := [.agg (cg2 (x_1))]) (by kernel_rfl) (by rfl) (fun w h => k2_int _ w (hG.keep h.below) (hR.keep h.below) hu_1 hi))) (h := ?_)
    refine fG (i := 6) (dj := 31) (g := (gL g2 59 (cg2 (x_1)) 1 Tryd.underlying59 (hi_g2 _))) (h := ?_)
    refine fG (i := 7) (dj := 31) (u := (.slice (some ⟨g3, 0, none⟩) 32 32)) (g := (gives_value _ fun _ => by rfl)) (h := ?_)
    refine fG (i := 8) (dj := 31) (g := (gives_call (vl := [.agg (cg2 (x_1)), .slice (some ⟨g3, 0, none⟩) 32 32]) (by kernel_rfl) (by rfl) (fun w h => k2_gtimes _ _ _ _ (lo Mr 32) w (hG.keep h.below) (copy_reads (blk_cast (r_bytes hk1) (h.blk 0 (by rfl))) (lo_len _ _)) (lo_oct _ _) (by omega)))) (h := ?_)
    refine fG (i := 9) (dj := 31) (u := (.agg (cg2 (0 : Pt F2)))) (g := (gb_g2 [] trivial (by rfl) (cg2 (0 : Pt F2)) (by rfl))) (h := ?_)
    refine fG (i := 10) (dj := 31) (u := (.bool true)) (g := (gives_eql (cg2 (gTimes F2.inv (x_1) (lo Mr 32))) (cg2 (0 : Pt F2)) true (by rfl) (by rfl) (by kernel_rfl) (fun w => eq_g2_t (d := 9995) w (times_r_0 ec2 F2.inv_zero hu_1 hi)))) (h := ?_)
    refine fG (i := 11) (dj := 31) (u := (.bool false)) (g := (gives_value _ fun _ => by rfl)) (h := ?_)
    refine fT (i := 12) (u := (.bool false)) (g := (gives_value _ fun _ => by rfl)) (h := ?_)
    refine fT (i := 13) (u := (.bool false)) (g := (gives_value _ fun _ => by rfl)) (h := ?_)
    refine fG (i := 14) (dj := 41) (g := (gL g2 59 (cg2 (x_1)) 1 Tryd.underlying59 (hi_g2 _))) (h := ?_)
    refine fG (i := 15) (dj := 41) (g := (gives_call (vl := [.agg (cg2 (x_1))]) (by kernel_rfl) (by rfl) (fun w h => k2_on_t _ w (hG.keep h.below) hu_1))) (h := ?_)
    refine fG (i := 16) (dj := 41) (u := (.bool false)) (g := (gives_value _ fun _ => by rfl)) (h := ?_)
    refine fT (i := 17) (u := (.bool false)) (g := (gives_value _ fun _ => by rfl)) (h := ?_)
    refine fT (i := 18) (u := (.bool false)) (g := (gives_value _ fun _ => by rfl)) (h := ?_)
    refine fG (i := 19) (dj := 46) (g := (gL g1 59 (cg2 (gMul F2.inv (k0) (num bs0))) 2 Tryd.underlying59 (hi_g2 _))) (h := ?_)
    refine fG (i := 20) (dj := 46) (u := (.slice (some ⟨g3, 0, none⟩) 32 32)) (g := (gives_value _ fun _ => by rfl)) (h := ?_)
    refine fG (i := 21) (dj := 46) (g := (gives_call (vl := [.agg (cg2 (gMul F2.inv (k0) (num bs0))), .slice (some ⟨g3, 0, none⟩) 32 32]) (by kernel_rfl) (by rfl) (fun w h => k2_gtimes _ _ _ _ (lo Mr 32) w (hG.keep h.below) (copy_reads (blk_cast (r_bytes hk1) (h.blk 0 (by rfl))) (lo_len _ _)) (lo_oct _ _) (by omega)))) (h := ?_)
    refine fG (i := 22) (dj := 46) (u := (.agg (cg2 (0 : Pt F2)))) (g := (gb_g2 [] trivial (by rfl) (cg2 (0 : Pt F2)) (by rfl))) (h := ?_)
    refine fG (i := 23) (dj := 46) (u := (.bool false)) (g := (gives_neq (cg2 (gTimes F2.inv (gMul F2.inv (k0) (num bs0)) (lo Mr 32))) (cg2 (0 : Pt F2)) true (by rfl) (by rfl) (by kernel_rfl) (fun w => eq_g2_t (d := 9995) w (times_r_0 ec2 F2.inv_zero (ing2 hk0 _).1 (mul_minus ec2 F2.inv_zero (ing2 hk0 _)))))) (h := ?_)
    refine fT (i := 24) (u := (.bool false)) (g := (gives_value _ fun _ => by rfl)) (h := ?_)
    refine flow_done (by kernel_rfl) ?_
    intro w9 hw9
    refine wp_cond_false (fr_at _ _ (by rfl) _) ?_
    refine wp_skip ?_
    change Code.wp _ _ _ _ _
    refine seq_flow (by kernel_rfl) hw9 [] [(g3, 48, ((b32c ((k1) % Mr)).setIfInBounds (0 + (31)) (.int .u8 1))), (g2, 59, (cg2 (x_1))), (g1, 59, (cg2 (gMul F2.inv (k0) (num bs0))))] 23 (by rfl) ?_
    refine fT (i := 0) (g := (gL g2 59 (cg2 (x_1)) 1 Tryd.underlying59 (hi_g2 _))) (h := ?_)
    refine fT (i := 1) (g := (gL g1 59 (cg2 (gMul F2.inv (k0) (num bs0))) 2 Tryd.underlying59 (hi_g2 _))) (h := ?_)
    refine fT (i := 2) (g := (gives_call (vl := [.agg (cg2 (x_1)), .agg (cg2 (gMul F2.inv (k0) (num bs0)))]) (by kernel_rfl) (by rfl) (fun w h => k2_gadd _ _ w (hG.keep h.below)))) (h := ?_)
    refine fT (i := 3) (g := (gives_call (vl := [.agg (cg2 (gAdd F2.inv (x_1) (gMul F2.inv (k0) (num bs0))))]) (by kernel_rfl) (by rfl) (fun w h => k2_int _ w (hG.keep h.below) (hR.keep h.below) (on_gadd ec2 F2.inv_zero hu_1 (ing2 hk0 _).1) ((gin_sum ec2 F2.inv_zero hu_1 (ing2 hk0 _)).2 hi)))) (h := ?_)
    refine fT (i := 4) (g := (gL g2 59 (cg2 (x_1)) 1 Tryd.underlying59 (hi_g2 _))) (h := ?_)
    refine fT (i := 5) (g := (gives_call (vl := [.agg (cg2 (x_1))]) (by kernel_rfl) (by rfl) (fun w h => k2_int _ w (hG.keep h.below) (hR.keep h.below) hu_1 hi))) (h := ?_)
    refine fT (i := 6) (u := (.bool true)) (g := (gives_value _ fun _ => by rfl)) (h := ?_)
    refine fT (i := 7) (u := (.bool true)) (g := (gives_value _ fun _ => by rfl)) (h := ?_)
    refine fG (i := 8) (dj := 60) (u := (.pointer (some ⟨g2, 0, none⟩))) (g := (gives_value _ fun _ => by kernel_rfl)) (h := ?_)
    refine fG (i := 9) (dj := 60) (g := (gives_load g2 0 59 (cg2 (x_1)) (c2 ((x_1).x)) _ (by rfl) (fun _ h => h.blk 1 (by rfl)) (sl_g2x (x_1) _ _ (Sl.refl _)) Tryd.underlying57 (by rfl) (hi_2 _))) (h := ?_)
    refine fG (i := 10) (dj := 60) (u := (.pointer (some ⟨g2, 12, none⟩))) (g := (gives_value _ fun _ => by kernel_rfl)) (h := ?_)
    refine fG (i := 11) (dj := 60) (g := (gives_load g2 12 59 (cg2 (x_1)) (c2 ((x_1).y)) _ (by rfl) (fun _ h => h.blk 1 (by rfl)) (sl_g2y (x_1) _ _ 12 (Sl.refl _) (by rfl)) Tryd.underlying57 (by rfl) (hi_2 _))) (h := ?_)
    refine fG (i := 12) (dj := 60) (u := (.pointer (some ⟨g2, 12, none⟩))) (g := (gives_value _ fun _ => by kernel_rfl)) (h := ?_)
    refine fG (i := 13) (dj := 60) (g := (gives_load g2 12 59 (cg2 (x_1)) (c2 ((x_1).y)) _ (by rfl) (fun _ h => h.blk 1 (by rfl)) (sl_g2y (x_1) _ _ 12 (Sl.refl _) (by rfl)) Tryd.underlying57 (by rfl) (hi_2 _))) (h := ?_)
    refine fG (i := 14) (dj := 60) (g := (gives_call (vl := [.agg (c2 ((x_1).y)), .agg (c2 ((x_1).y))]) (by kernel_rfl) (by rfl) (fun w h => q_add _ _ w (hG.keep h.below)))) (h := ?_)
    refine fG (i := 15) (dj := 60) (u := (.agg (cg2 (⟨(x_1).x, ((x_1).y) + ((x_1).y)⟩ : Pt F2)))) (g := (gb_g2 [(0, (c2 ((x_1).x))), (1, (c2 (((x_1).y) + ((x_1).y))))] ⟨congrArg some (c2_size _).symm, congrArg some (c2_size _).symm, trivial⟩ (by rfl) (cg2 (⟨(x_1).x, ((x_1).y) + ((x_1).y)⟩ : Pt F2)) (by rfl))) (h := ?_)
    refine fG (i := 16) (dj := 60) (g := (gives_call (vl := [.agg (cg2 (⟨(x_1).x, ((x_1).y) + ((x_1).y)⟩ : Pt F2))]) (by kernel_rfl) (by rfl) (fun w h => k2_on_t _ w (hG.keep h.below) (on_twice0 ec2 hz)))) (h := ?_)
    refine fG (i := 17) (dj := 60) (g := (gL g2 59 (cg2 (x_1)) 1 Tryd.underlying59 (hi_g2 _))) (h := ?_)
    refine fG (i := 18) (dj := 60) (u := (.agg (cg2 (0 : Pt F2)))) (g := (gb_g2 [] trivial (by rfl) (cg2 (0 : Pt F2)) (by rfl))) (h := ?_)
    refine fG (i := 19) (dj := 60) (u := (.bool true)) (g := (gives_eql (cg2 (x_1)) (cg2 (0 : Pt F2)) true (by rfl) (by rfl) (by kernel_rfl) (fun w => eq_g2_t (d := 9995) w hz))) (h := ?_)
    refine fG (i := 20) (dj := 60) (u := (.bool true)) (g := (gives_value _ fun _ => by rfl)) (h := ?_)
    refine fT (i := 21) (u := (.bool true)) (g := (gives_value _ fun _ => by rfl)) (h := ?_)
    refine fT (i := 22) (u := (.bool true)) (g := (gives_value _ fun _ => by rfl)) (h := ?_)
    refine flow_done (by kernel_rfl) ?_
    intro w10 hw10
    refine wp_ret ?_
    change bodyPost _ _ _ Exit.ret _ _
    refine (ret_tmp (by rfl) (by rfl) (by rfl) ⟨rfl, hw10.below⟩)
  ·
    refine L_alloc _ (by rfl) (by rfl) z_g2 (cg2 (0 : Pt F2)) rfl ?_; intro g2
    refine L_store (t := 59) 0 g2 _ _ (by rfl) (by rfl) (by rfl) (by rfl) (by rfl) (hi_g2 _) ((cg2_size _).trans (cg2_size _).symm) (cg2_one _) ?_
    simp only [List.set_cons_zero, List.set_cons_succ]
    refine L_end ?_
    intro w5 hw5
    refine seq_plain hw5 [0, 1, 2, 3, 4] (by rfl) ?_
    refine L_val (.agg (frc (1))) (by rfl) (by rfl) (gives_call (vl := [.int .u64 1]) (by kernel_rfl) (by rfl) (fun w h => w_of 1 w (hR.keep h.below) (by omega) (by simp only [Wd]; omega))) ?_
    refine L_val (.agg (frc (k1))) (by rfl) (by rfl) (gives_call (vl := [.agg (frc (1))]) (by kernel_rfl) (by rfl) (fun w h => by rw [hk1]; exact u_neg _ w (hR.keep h.below))) ?_
    refine L_val (.agg (b32c ((k1) % Mr))) (by rfl) (by rfl) (gives_call (vl := [.agg (frc (k1))]) (by kernel_rfl) (by rfl) (fun w h => u_bytes _ w (hR.keep h.below))) ?_
    refine L_alloc _ (by rfl) (by rfl) z_b32 (b32c (0 : Int)) rfl ?_; intro g3
    refine L_store (t := 48) 0 g3 _ _ (by rfl) (by rfl) (by rfl) (by rfl) (by rfl) (hi_b32 _) ((b32c_size _).trans (b32c_size _).symm) (b32c_one _) ?_
    simp only [List.set_cons_zero, List.set_cons_succ]
    refine L_end ?_
    intro w6 hw6
    refine seq_plain hw6 [0, 1] (by rfl) ?_
    refine L_val (.slice (some ⟨g3, 0, none⟩) 32 32) (by rfl) (by rfl) (gives_slice_arr g3 32 1 (by rfl) und_b32 u8_sz) ?_
    refine L_val (.slice (some ⟨g3, 0, none⟩) 32 32) (by rfl) (by rfl) (gives_value _ fun _ => by rfl) ?_
    refine L_end ?_
    intro w7 hw7
    refine seq_plain hw7 [0, 1, 2, 3, 4, 5] (by rfl) ?_
    refine L_val (.slice (some ⟨g3, 0, none⟩) 32 32) (by rfl) (by rfl) (gives_value _ fun _ => by rfl) ?_
    refine L_val (.pointer (some ⟨g3, 0 + (31), none⟩)) (by rfl) (by rfl) (gives_index g3 0 (32) (32) (31) (31) (by rfl) (by rfl) und_u8s u8_sz (by omega) (by omega)) ?_
    refine L_val (.int .u8 0) (by rfl) (by rfl) (gives_load1 g3 (0 + (31)) _ (b32c ((k1) % Mr)) (.int .u8 0) (by rfl) (fun _ h => h.blk 0 (by rfl)) (r_at hk1) und_u8') ?_
    refine L_val (.int .u8 1) (by rfl) (by rfl) (gives_add (k := .u8) 0 1 1 (by rfl) (by rfl) (by rfl)) ?_
    refine L_val (.pointer (some ⟨g3, 0 + (31), none⟩)) (by rfl) (by rfl) (gives_index g3 0 (32) (32) (31) (31) (by rfl) (by rfl) und_u8s u8_sz (by omega) (by omega)) ?_
    refine L_store1 0 g3 (0 + (31)) _ (b32c ((k1) % Mr)) (.int .u8 1) (by rfl) (by rfl) (by rfl) (by rfl) rfl (by rfl) u8_sz (by rw [b32c_size]; decide) ?_
    simp only [List.set_cons_zero, List.set_cons_succ]
    refine L_end ?_
    intro w8 hw8
    refine wp_seq ?_
    refine seq_flow (by kernel_rfl) hw8 [] [(g3, 48, ((b32c ((k1) % Mr)).setIfInBounds (0 + (31)) (.int .u8 1))), (g2, 59, (cg2 (x_1))), (g1, 59, (cg2 (gMul F2.inv (k0) (num bs0))))] 25 (by rfl) ?_
    refine fT (i := 0) (g := (gL g1 59 (cg2 (gMul F2.inv (k0) (num bs0))) 2 Tryd.underlying59 (hi_g2 _))) (h := ?_)
    refine fT (i := 1) (g := (gives_call (vl := [.agg (cg2 (gMul F2.inv (k0) (num bs0)))]) (by kernel_rfl) (by rfl) (fun w h => k2_int _ w (hG.keep h.below) (hR.keep h.below) (ing2 hk0 _).1 (mul_minus ec2 F2.inv_zero (ing2 hk0 _))))) (h := ?_)
    refine fT (i := 2) (u := (.bool false)) (g := (gives_value _ fun _ => by rfl)) (h := ?_)
    refine fT (i := 3) (u := (.bool false)) (g := (gives_value _ fun _ => by rfl)) (h := ?_)
    refine fG (i := 4) (dj := 31) (g := (gL g2 59 (cg2 (x_1)) 1 Tryd.underlying59 (hi_g2 _))) (h := ?_)
    refine fG (i := 5) (dj := 31) (g := (gives_call (vl := [.agg (cg2 (x_1))]) (by kernel_rfl) (by rfl) (fun w h => k2_int _ w (hG.keep h.below) (hR.keep h.below) hu_1 hi))) (h := ?_)
    refine fG (i := 6) (dj := 31) (g := (gL g2 59 (cg2 (x_1)) 1 Tryd.underlying59 (hi_g2 _))) (h := ?_)
    refine fG (i := 7) (dj := 31) (u := (.slice (some ⟨g3, 0, none⟩) 32 32)) (g := (gives_value _ fun _ => by rfl)) (h := ?_)
    refine fG (i := 8) (dj := 31) (g := (gives_call (vl := [.agg (cg2 (x_1)), .slice (some ⟨g3, 0, none⟩) 32 32]) (by kernel_rfl) (by rfl) (fun w h => k2_gtimes _ _ _ _ (lo Mr 32) w (hG.keep h.below) (copy_reads (blk_cast (r_bytes hk1) (h.blk 0 (by rfl))) (lo_len _ _)) (lo_oct _ _) (by omega)))) (h := ?_)
    refine fG (i := 9) (dj := 31) (u := (.agg (cg2 (0 : Pt F2)))) (g := (gb_g2 [] trivial (by rfl) (cg2 (0 : Pt F2)) (by rfl))) (h := ?_)
    refine fG (i := 10) (dj := 31) (u := (.bool true)) (g := (gives_eql (cg2 (gTimes F2.inv (x_1) (lo Mr 32))) (cg2 (0 : Pt F2)) true (by rfl) (by rfl) (by kernel_rfl) (fun w => eq_g2_t (d := 9995) w (times_r_0 ec2 F2.inv_zero hu_1 hi)))) (h := ?_)
    refine fG (i := 11) (dj := 31) (u := (.bool false)) (g := (gives_value _ fun _ => by rfl)) (h := ?_)
    refine fT (i := 12) (u := (.bool false)) (g := (gives_value _ fun _ => by rfl)) (h := ?_)
    refine fT (i := 13) (u := (.bool false)) (g := (gives_value _ fun _ => by rfl)) (h := ?_)
    refine fG (i := 14) (dj := 41) (g := (gL g2 59 (cg2 (x_1)) 1 Tryd.underlying59 (hi_g2 _))) (h := ?_)
    refine fG (i := 15) (dj := 41) (g := (gives_call (vl := [.agg (cg2 (x_1))]) (by kernel_rfl) (by rfl) (fun w h => k2_on_t _ w (hG.keep h.below) hu_1))) (h := ?_)
    refine fG (i := 16) (dj := 41) (u := (.bool false)) (g := (gives_value _ fun _ => by rfl)) (h := ?_)
    refine fT (i := 17) (u := (.bool false)) (g := (gives_value _ fun _ => by rfl)) (h := ?_)
    refine fT (i := 18) (u := (.bool false)) (g := (gives_value _ fun _ => by rfl)) (h := ?_)
    refine fG (i := 19) (dj := 46) (g := (gL g1 59 (cg2 (gMul F2.inv (k0) (num bs0))) 2 Tryd.underlying59 (hi_g2 _))) (h := ?_)
    refine fG (i := 20) (dj := 46) (u := (.slice (some ⟨g3, 0, none⟩) 32 32)) (g := (gives_value _ fun _ => by rfl)) (h := ?_)
    refine fG (i := 21) (dj := 46) (g := (gives_call (vl := [.agg (cg2 (gMul F2.inv (k0) (num bs0))), .slice (some ⟨g3, 0, none⟩) 32 32]) (by kernel_rfl) (by rfl) (fun w h => k2_gtimes _ _ _ _ (lo Mr 32) w (hG.keep h.below) (copy_reads (blk_cast (r_bytes hk1) (h.blk 0 (by rfl))) (lo_len _ _)) (lo_oct _ _) (by omega)))) (h := ?_)
    refine fG (i := 22) (dj := 46) (u := (.agg (cg2 (0 : Pt F2)))) (g := (gb_g2 [] trivial (by rfl) (cg2 (0 : Pt F2)) (by rfl))) (h := ?_)
    refine fG (i := 23) (dj := 46) (u := (.bool false)) (g := (gives_neq (cg2 (gTimes F2.inv (gMul F2.inv (k0) (num bs0)) (lo Mr 32))) (cg2 (0 : Pt F2)) true (by rfl) (by rfl) (by kernel_rfl) (fun w => eq_g2_t (d := 9995) w (times_r_0 ec2 F2.inv_zero (ing2 hk0 _).1 (mul_minus ec2 F2.inv_zero (ing2 hk0 _)))))) (h := ?_)
    refine fT (i := 24) (u := (.bool false)) (g := (gives_value _ fun _ => by rfl)) (h := ?_)
    refine flow_done (by kernel_rfl) ?_
    intro w9 hw9
    refine wp_cond_false (fr_at _ _ (by rfl) _) ?_
    refine wp_skip ?_
    change Code.wp _ _ _ _ _
    refine seq_flow (by kernel_rfl) hw9 [] [(g3, 48, ((b32c ((k1) % Mr)).setIfInBounds (0 + (31)) (.int .u8 1))), (g2, 59, (cg2 (x_1))), (g1, 59, (cg2 (gMul F2.inv (k0) (num bs0))))] 23 (by rfl) ?_
    refine fT (i := 0) (g := (gL g2 59 (cg2 (x_1)) 1 Tryd.underlying59 (hi_g2 _))) (h := ?_)
    refine fT (i := 1) (g := (gL g1 59 (cg2 (gMul F2.inv (k0) (num bs0))) 2 Tryd.underlying59 (hi_g2 _))) (h := ?_)
    refine fT (i := 2) (g := (gives_call (vl := [.agg (cg2 (x_1)), .agg (cg2 (gMul F2.inv (k0) (num bs0)))]) (by kernel_rfl) (by rfl) (fun w h => k2_gadd _ _ w (hG.keep h.below)))) (h := ?_)
    refine fT (i := 3) (g := (gives_call (vl := [.agg (cg2 (gAdd F2.inv (x_1) (gMul F2.inv (k0) (num bs0))))]) (by kernel_rfl) (by rfl) (fun w h => k2_int _ w (hG.keep h.below) (hR.keep h.below) (on_gadd ec2 F2.inv_zero hu_1 (ing2 hk0 _).1) ((gin_sum ec2 F2.inv_zero hu_1 (ing2 hk0 _)).2 hi)))) (h := ?_)
    refine fT (i := 4) (g := (gL g2 59 (cg2 (x_1)) 1 Tryd.underlying59 (hi_g2 _))) (h := ?_)
    refine fT (i := 5) (g := (gives_call (vl := [.agg (cg2 (x_1))]) (by kernel_rfl) (by rfl) (fun w h => k2_int _ w (hG.keep h.below) (hR.keep h.below) hu_1 hi))) (h := ?_)
    refine fT (i := 6) (u := (.bool true)) (g := (gives_value _ fun _ => by rfl)) (h := ?_)
    refine fT (i := 7) (u := (.bool true)) (g := (gives_value _ fun _ => by rfl)) (h := ?_)
    refine fG (i := 8) (dj := 60) (u := (.pointer (some ⟨g2, 0, none⟩))) (g := (gives_value _ fun _ => by kernel_rfl)) (h := ?_)
    refine fG (i := 9) (dj := 60) (g := (gives_load g2 0 59 (cg2 (x_1)) (c2 ((x_1).x)) _ (by rfl) (fun _ h => h.blk 1 (by rfl)) (sl_g2x (x_1) _ _ (Sl.refl _)) Tryd.underlying57 (by rfl) (hi_2 _))) (h := ?_)
    refine fG (i := 10) (dj := 60) (u := (.pointer (some ⟨g2, 12, none⟩))) (g := (gives_value _ fun _ => by kernel_rfl)) (h := ?_)
    refine fG (i := 11) (dj := 60) (g := (gives_load g2 12 59 (cg2 (x_1)) (c2 ((x_1).y)) _ (by rfl) (fun _ h => h.blk 1 (by rfl)) (sl_g2y (x_1) _ _ 12 (Sl.refl _) (by rfl)) Tryd.underlying57 (by rfl) (hi_2 _))) (h := ?_)
    refine fG (i := 12) (dj := 60) (u := (.pointer (some ⟨g2, 12, none⟩))) (g := (gives_value _ fun _ => by kernel_rfl)) (h := ?_)
    refine fG (i := 13) (dj := 60) (g := (gives_load g2 12 59 (cg2 (x_1)) (c2 ((x_1).y)) _ (by rfl) (fun _ h => h.blk 1 (by rfl)) (sl_g2y (x_1) _ _ 12 (Sl.refl _) (by rfl)) Tryd.underlying57 (by rfl) (hi_2 _))) (h := ?_)
    refine fG (i := 14) (dj := 60) (g := (gives_call (vl := [.agg (c2 ((x_1).y)), .agg (c2 ((x_1).y))]) (by kernel_rfl) (by rfl) (fun w h => q_add _ _ w (hG.keep h.below)))) (h := ?_)
    refine fG (i := 15) (dj := 60) (u := (.agg (cg2 (⟨(x_1).x, ((x_1).y) + ((x_1).y)⟩ : Pt F2)))) (g := (gb_g2 [(0, (c2 ((x_1).x))), (1, (c2 (((x_1).y) + ((x_1).y))))] ⟨congrArg some (c2_size _).symm, congrArg some (c2_size _).symm, trivial⟩ (by rfl) (cg2 (⟨(x_1).x, ((x_1).y) + ((x_1).y)⟩ : Pt F2)) (by rfl))) (h := ?_)
    refine fG (i := 16) (dj := 60) (g := (gives_call (vl := [.agg (cg2 (⟨(x_1).x, ((x_1).y) + ((x_1).y)⟩ : Pt F2))]) (by kernel_rfl) (by rfl) (fun w h => k2_on_f _ w (hG.keep h.below) (on_twice ec2 three2 hu_1 hz)))) (h := ?_)
    refine fG (i := 17) (dj := 60) (g := (gL g2 59 (cg2 (x_1)) 1 Tryd.underlying59 (hi_g2 _))) (h := ?_)
    refine fG (i := 18) (dj := 60) (u := (.agg (cg2 (0 : Pt F2)))) (g := (gb_g2 [] trivial (by rfl) (cg2 (0 : Pt F2)) (by rfl))) (h := ?_)
    refine fG (i := 19) (dj := 60) (u := (.bool false)) (g := (gives_eql (cg2 (x_1)) (cg2 (0 : Pt F2)) false (by rfl) (by rfl) (by kernel_rfl) (fun w => eq_g2_f (d := 9995) w hz))) (h := ?_)
    refine fG (i := 20) (dj := 60) (u := (.bool true)) (g := (gives_value _ fun _ => by rfl)) (h := ?_)
    refine fT (i := 21) (u := (.bool true)) (g := (gives_value _ fun _ => by rfl)) (h := ?_)
    refine fT (i := 22) (u := (.bool true)) (g := (gives_value _ fun _ => by rfl)) (h := ?_)
    refine flow_done (by kernel_rfl) ?_
    intro w10 hw10
    refine wp_ret ?_
    change bodyPost _ _ _ Exit.ret _ _
    refine (ret_tmp (by rfl) (by rfl) (by rfl) ⟨rfl, hw10.below⟩)
  ·
    refine L_alloc _ (by rfl) (by rfl) z_g2 (cg2 (0 : Pt F2)) rfl ?_; intro g2
    refine L_store (t := 59) 0 g2 _ _ (by rfl) (by rfl) (by rfl) (by rfl) (by rfl) (hi_g2 _) ((cg2_size _).trans (cg2_size _).symm) (cg2_one _) ?_
    simp only [List.set_cons_zero, List.set_cons_succ]
    refine L_end ?_
    intro w5 hw5
    refine seq_plain hw5 [0, 1, 2, 3, 4] (by rfl) ?_
    refine L_val (.agg (frc (1))) (by rfl) (by rfl) (gives_call (vl := [.int .u64 1]) (by kernel_rfl) (by rfl) (fun w h => w_of 1 w (hR.keep h.below) (by omega) (by simp only [Wd]; omega))) ?_
    refine L_val (.agg (frc (k1))) (by rfl) (by rfl) (gives_call (vl := [.agg (frc (1))]) (by kernel_rfl) (by rfl) (fun w h => by rw [hk1]; exact u_neg _ w (hR.keep h.below))) ?_
    refine L_val (.agg (b32c ((k1) % Mr))) (by rfl) (by rfl) (gives_call (vl := [.agg (frc (k1))]) (by kernel_rfl) (by rfl) (fun w h => u_bytes _ w (hR.keep h.below))) ?_
    refine L_alloc _ (by rfl) (by rfl) z_b32 (b32c (0 : Int)) rfl ?_; intro g3
    refine L_store (t := 48) 0 g3 _ _ (by rfl) (by rfl) (by rfl) (by rfl) (by rfl) (hi_b32 _) ((b32c_size _).trans (b32c_size _).symm) (b32c_one _) ?_
    simp only [List.set_cons_zero, List.set_cons_succ]
    refine L_end ?_
    intro w6 hw6
    refine seq_plain hw6 [0, 1] (by rfl) ?_
    refine L_val (.slice (some ⟨g3, 0, none⟩) 32 32) (by rfl) (by rfl) (gives_slice_arr g3 32 1 (by rfl) und_b32 u8_sz) ?_
    refine L_val (.slice (some ⟨g3, 0, none⟩) 32 32) (by rfl) (by rfl) (gives_value _ fun _ => by rfl) ?_
    refine L_end ?_
    intro w7 hw7
    refine seq_plain hw7 [0, 1, 2, 3, 4, 5] (by rfl) ?_
    refine L_val (.slice (some ⟨g3, 0, none⟩) 32 32) (by rfl) (by rfl) (gives_value _ fun _ => by rfl) ?_
    refine L_val (.pointer (some ⟨g3, 0 + (31), none⟩)) (by rfl) (by rfl) (gives_index g3 0 (32) (32) (31) (31) (by rfl) (by rfl) und_u8s u8_sz (by omega) (by omega)) ?_
    refine L_val (.int .u8 0) (by rfl) (by rfl) (gives_load1 g3 (0 + (31)) _ (b32c ((k1) % Mr)) (.int .u8 0) (by rfl) (fun _ h => h.blk 0 (by rfl)) (r_at hk1) und_u8') ?_
    refine L_val (.int .u8 1) (by rfl) (by rfl) (gives_add (k := .u8) 0 1 1 (by rfl) (by rfl) (by rfl)) ?_
    refine L_val (.pointer (some ⟨g3, 0 + (31), none⟩)) (by rfl) (by rfl) (gives_index g3 0 (32) (32) (31) (31) (by rfl) (by rfl) und_u8s u8_sz (by omega) (by omega)) ?_
    refine L_store1 0 g3 (0 + (31)) _ (b32c ((k1) % Mr)) (.int .u8 1) (by rfl) (by rfl) (by rfl) (by rfl) rfl (by rfl) u8_sz (by rw [b32c_size]; decide) ?_
    simp only [List.set_cons_zero, List.set_cons_succ]
    refine L_end ?_
    intro w8 hw8
    refine wp_seq ?_
    refine seq_flow (by kernel_rfl) hw8 [] [(g3, 48, ((b32c ((k1) % Mr)).setIfInBounds (0 + (31)) (.int .u8 1))), (g2, 59, (cg2 (x_1))), (g1, 59, (cg2 (gMul F2.inv (k0) (num bs0))))] 25 (by rfl) ?_
    refine fT (i := 0) (g := (gL g1 59 (cg2 (gMul F2.inv (k0) (num bs0))) 2 Tryd.underlying59 (hi_g2 _))) (h := ?_)
    refine fT (i := 1) (g := (gives_call (vl := [.agg (cg2 (gMul F2.inv (k0) (num bs0)))]) (by kernel_rfl) (by rfl) (fun w h => k2_int _ w (hG.keep h.below) (hR.keep h.below) (ing2 hk0 _).1 (mul_minus ec2 F2.inv_zero (ing2 hk0 _))))) (h := ?_)
    refine fT (i := 2) (u := (.bool false)) (g := (gives_value _ fun _ => by rfl)) (h := ?_)
    refine fT (i := 3) (u := (.bool false)) (g := (gives_value _ fun _ => by rfl)) (h := ?_)
    refine fG (i := 4) (dj := 31) (g := (gL g2 59 (cg2 (x_1)) 1 Tryd.underlying59 (hi_g2 _))) (h := ?_)
    refine fG (i := 5) (dj := 31) (g := (gives_call (vl := [.agg (cg2 (x_1))]) (by kernel_rfl) (by rfl) (fun w h => k2_inn _ w (hG.keep h.below) (hR.keep h.below) hu_1 hi))) (h := ?_)
    refine fG (i := 6) (dj := 31) (g := (gL g2 59 (cg2 (x_1)) 1 Tryd.underlying59 (hi_g2 _))) (h := ?_)
    refine fG (i := 7) (dj := 31) (u := (.slice (some ⟨g3, 0, none⟩) 32 32)) (g := (gives_value _ fun _ => by rfl)) (h := ?_)
    refine fG (i := 8) (dj := 31) (g := (gives_call (vl := [.agg (cg2 (x_1)), .slice (some ⟨g3, 0, none⟩) 32 32]) (by kernel_rfl) (by rfl) (fun w h => k2_gtimes _ _ _ _ (lo Mr 32) w (hG.keep h.below) (copy_reads (blk_cast (r_bytes hk1) (h.blk 0 (by rfl))) (lo_len _ _)) (lo_oct _ _) (by omega)))) (h := ?_)
    refine fG (i := 9) (dj := 31) (u := (.agg (cg2 (0 : Pt F2)))) (g := (gb_g2 [] trivial (by rfl) (cg2 (0 : Pt F2)) (by rfl))) (h := ?_)
    refine fG (i := 10) (dj := 31) (u := (.bool false)) (g := (gives_eql (cg2 (gTimes F2.inv (x_1) (lo Mr 32))) (cg2 (0 : Pt F2)) false (by rfl) (by rfl) (by kernel_rfl) (fun w => eq_g2_f (d := 9995) w (times_r_n ec2 F2.inv_zero hu_1 hi)))) (h := ?_)
    refine fG (i := 11) (dj := 31) (u := (.bool false)) (g := (gives_value _ fun _ => by rfl)) (h := ?_)
    refine fT (i := 12) (u := (.bool false)) (g := (gives_value _ fun _ => by rfl)) (h := ?_)
    refine fT (i := 13) (u := (.bool false)) (g := (gives_value _ fun _ => by rfl)) (h := ?_)
    refine fG (i := 14) (dj := 41) (g := (gL g2 59 (cg2 (x_1)) 1 Tryd.underlying59 (hi_g2 _))) (h := ?_)
    refine fG (i := 15) (dj := 41) (g := (gives_call (vl := [.agg (cg2 (x_1))]) (by kernel_rfl) (by rfl) (fun w h => k2_on_t _ w (hG.keep h.below) hu_1))) (h := ?_)
    refine fG (i := 16) (dj := 41) (u := (.bool false)) (g := (gives_value _ fun _ => by rfl)) (h := ?_)
    refine fT (i := 17) (u := (.bool false)) (g := (gives_value _ fun _ => by rfl)) (h := ?_)
    refine fT (i := 18) (u := (.bool false)) (g := (gives_value _ fun _ => by rfl)) (h := ?_)
    refine fG (i := 19) (dj := 46) (g := (gL g1 59 (cg2 (gMul F2.inv (k0) (num bs0))) 2 Tryd.underlying59 (hi_g2 _))) (h := ?_)
    refine fG (i := 20) (dj := 46) (u := (.slice (some ⟨g3, 0, none⟩) 32 32)) (g := (gives_value _ fun _ => by rfl)) (h := ?_)
    refine fG (i := 21) (dj := 46) (g := (gives_call (vl := [.agg (cg2 (gMul F2.inv (k0) (num bs0))), .slice (some ⟨g3, 0, none⟩) 32 32]) (by kernel_rfl) (by rfl) (fun w h => k2_gtimes _ _ _ _ (lo Mr 32) w (hG.keep h.below) (copy_reads (blk_cast (r_bytes hk1) (h.blk 0 (by rfl))) (lo_len _ _)) (lo_oct _ _) (by omega)))) (h := ?_)
    refine fG (i := 22) (dj := 46) (u := (.agg (cg2 (0 : Pt F2)))) (g := (gb_g2 [] trivial (by rfl) (cg2 (0 : Pt F2)) (by rfl))) (h := ?_)
    refine fG (i := 23) (dj := 46) (u := (.bool false)) (g := (gives_neq (cg2 (gTimes F2.inv (gMul F2.inv (k0) (num bs0)) (lo Mr 32))) (cg2 (0 : Pt F2)) true (by rfl) (by rfl) (by kernel_rfl) (fun w => eq_g2_t (d := 9995) w (times_r_0 ec2 F2.inv_zero (ing2 hk0 _).1 (mul_minus ec2 F2.inv_zero (ing2 hk0 _)))))) (h := ?_)
    refine fT (i := 24) (u := (.bool false)) (g := (gives_value _ fun _ => by rfl)) (h := ?_)
    refine flow_done (by kernel_rfl) ?_
    intro w9 hw9
    refine wp_cond_false (fr_at _ _ (by rfl) _) ?_
    refine wp_skip ?_
    change Code.wp _ _ _ _ _
    refine seq_flow (by kernel_rfl) hw9 [] [(g3, 48, ((b32c ((k1) % Mr)).setIfInBounds (0 + (31)) (.int .u8 1))), (g2, 59, (cg2 (x_1))), (g1, 59, (cg2 (gMul F2.inv (k0) (num bs0))))] 23 (by rfl) ?_
    refine fT (i := 0) (g := (gL g2 59 (cg2 (x_1)) 1 Tryd.underlying59 (hi_g2 _))) (h := ?_)
    refine fT (i := 1) (g := (gL g1 59 (cg2 (gMul F2.inv (k0) (num bs0))) 2 Tryd.underlying59 (hi_g2 _))) (h := ?_)
    refine fT (i := 2) (g := (gives_call (vl := [.agg (cg2 (x_1)), .agg (cg2 (gMul F2.inv (k0) (num bs0)))]) (by kernel_rfl) (by rfl) (fun w h => k2_gadd _ _ w (hG.keep h.below)))) (h := ?_)
    refine fT (i := 3) (g := (gives_call (vl := [.agg (cg2 (gAdd F2.inv (x_1) (gMul F2.inv (k0) (num bs0))))]) (by kernel_rfl) (by rfl) (fun w h => k2_inn _ w (hG.keep h.below) (hR.keep h.below) (on_gadd ec2 F2.inv_zero hu_1 (ing2 hk0 _).1) (fun h => hi ((gin_sum ec2 F2.inv_zero hu_1 (ing2 hk0 _)).1 h))))) (h := ?_)
    refine fT (i := 4) (g := (gL g2 59 (cg2 (x_1)) 1 Tryd.underlying59 (hi_g2 _))) (h := ?_)
    refine fT (i := 5) (g := (gives_call (vl := [.agg (cg2 (x_1))]) (by kernel_rfl) (by rfl) (fun w h => k2_inn _ w (hG.keep h.below) (hR.keep h.below) hu_1 hi))) (h := ?_)
    refine fT (i := 6) (u := (.bool true)) (g := (gives_value _ fun _ => by rfl)) (h := ?_)
    refine fT (i := 7) (u := (.bool true)) (g := (gives_value _ fun _ => by rfl)) (h := ?_)
    refine fG (i := 8) (dj := 60) (u := (.pointer (some ⟨g2, 0, none⟩))) (g := (gives_value _ fun _ => by kernel_rfl)) (h := ?_)
    refine fG (i := 9) (dj := 60) (g := (gives_load g2 0 59 (cg2 (x_1)) (c2 ((x_1).x)) _ (by rfl) (fun _ h => h.blk 1 (by rfl)) (sl_g2x (x_1) _ _ (Sl.refl _)) Tryd.underlying57 (by rfl) (hi_2 _))) (h := ?_)
    refine fG (i := 10) (dj := 60) (u := (.pointer (some ⟨g2, 12, none⟩))) (g := (gives_value _ fun _ => by kernel_rfl)) (h := ?_)
    refine fG (i := 11) (dj := 60) (g := (gives_load g2 12 59 (cg2 (x_1)) (c2 ((x_1).y)) _ (by rfl) (fun _ h => h.blk 1 (by rfl)) (sl_g2y (x_1) _ _ 12 (Sl.refl _) (by rfl)) Tryd.underlying57 (by rfl) (hi_2 _))) (h := ?_)
    refine fG (i := 12) (dj := 60) (u := (.pointer (some ⟨g2, 12, none⟩))) (g := (gives_value _ fun _ => by kernel_rfl)) (h := ?_)
    refine fG (i := 13) (dj := 60) (g := (gives_load g2 12 59 (cg2 (x_1)) (c2 ((x_1).y)) _ (by rfl) (fun _ h => h.blk 1 (by rfl)) (sl_g2y (x_1) _ _ 12 (Sl.refl _) (by rfl)) Tryd.underlying57 (by rfl) (hi_2 _))) (h := ?_)
    refine fG (i := 14) (dj := 60) (g := (gives_call (vl := [.agg (c2 ((x_1).y)), .agg (c2 ((x_1).y))]) (by kernel_rfl) (by rfl) (fun w h => q_add _ _ w (hG.keep h.below)))) (h := ?_)
    refine fG (i := 15) (dj := 60) (u := (.agg (cg2 (⟨(x_1).x, ((x_1).y) + ((x_1).y)⟩ : Pt F2)))) (g := (gb_g2 [(0, (c2 ((x_1).x))), (1, (c2 (((x_1).y) + ((x_1).y))))] ⟨congrArg some (c2_size _).symm, congrArg some (c2_size _).symm, trivial⟩ (by rfl) (cg2 (⟨(x_1).x, ((x_1).y) + ((x_1).y)⟩ : Pt F2)) (by rfl))) (h := ?_)
    refine fG (i := 16) (dj := 60) (g := (gives_call (vl := [.agg (cg2 (⟨(x_1).x, ((x_1).y) + ((x_1).y)⟩ : Pt F2))]) (by kernel_rfl) (by rfl) (fun w h => k2_on_f _ w (hG.keep h.below) (on_twice ec2 three2 hu_1 hz)))) (h := ?_)
    refine fG (i := 17) (dj := 60) (g := (gL g2 59 (cg2 (x_1)) 1 Tryd.underlying59 (hi_g2 _))) (h := ?_)
    refine fG (i := 18) (dj := 60) (u := (.agg (cg2 (0 : Pt F2)))) (g := (gb_g2 [] trivial (by rfl) (cg2 (0 : Pt F2)) (by rfl))) (h := ?_)
    refine fG (i := 19) (dj := 60) (u := (.bool false)) (g := (gives_eql (cg2 (x_1)) (cg2 (0 : Pt F2)) false (by rfl) (by rfl) (by kernel_rfl) (fun w => eq_g2_f (d := 9995) w hz))) (h := ?_)
    refine fG (i := 20) (dj := 60) (u := (.bool true)) (g := (gives_value _ fun _ => by rfl)) (h := ?_)
    refine fT (i := 21) (u := (.bool true)) (g := (gives_value _ fun _ => by rfl)) (h := ?_)
    refine fT (i := 22) (u := (.bool true)) (g := (gives_value _ fun _ => by rfl)) (h := ?_)
    refine flow_done (by kernel_rfl) ?_
    intro w10 hw10
    refine wp_ret ?_
    change bodyPost _ _ _ Exit.ret _ _
    refine (ret_tmp (by rfl) (by rfl) (by rfl) ⟨rfl, hw10.below⟩)
theorem g2_groups_any (A0 : Option Addr) (L0 C0 : Nat) (bs0 : List Int) (n : Int) (v : World) (hG : Glo v) (hR : GloR v) (hH : GSh v) (hr0 : Reads v v.heap.size A0 L0 (bs0.map (Value.int .u8))) (ho0 : Oct bs0) (hQ : GQp v) (hm : 0 ≤ n ∧ n < 65536) : Rets 13 #[.slice A0 L0 C0, .int .u16 n] v (.bool true) := by
  by_cases hlong : 100 < L0
  · exact g2_groups_long A0 L0 C0 bs0 n v hG hR hH hr0 ho0 hQ hm hlong
  · exact g2_groups_short A0 L0 C0 bs0 n v hG hR hH hr0 ho0 hQ hm (by omega)
end Go.Proofs.YtifnnckbcjafgaaDoor
