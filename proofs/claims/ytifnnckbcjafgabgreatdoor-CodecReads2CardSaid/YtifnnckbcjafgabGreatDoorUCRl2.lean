import Derived.Test.YtifnnckbcjafgabGreatDoorUCdl
namespace Go.Proofs.YtifnnckbcjafgabGreatDoor
set_option linter.unusedSimpArgs false
set_option linter.unusedVariables false
open Go.RowKit
attribute [local irreducible] wpL wpF fr Code.wp bodyPost
set_option maxRecDepth 100000 in
set_option maxHeartbeats 4000000 in
theorem codec_reads2_l (b0 o0 L0 C0 : Nat) (bs0 : List Int) (v : World) (hl0 : bs0.length = L0) (ho0 : Oct bs0) (hq0 : b0 < v.heap.size) (hc0 : ∀ j, j < L0 → v.cell? ⟨b0, o0 + j, none⟩ = some (.int .u8 (gt bs0 j))) (hr0 : Reads v v.heap.size (some ⟨b0, o0, none⟩) L0 (bs0.map (Value.int .u8))) (hLC : L0 ≤ C0) (hG : Glo v) (hR : GloR v) (hQ : GQp v) (hU : GUp v) (hA : ¬ 400 < L0) (hB : ¬ (L0 : Int) = 96) (hC : (L0 : Int) = 192) : Rets 4 #[.slice (some ⟨b0, o0, none⟩) L0 C0] v (.bool true) := by
 obtain ⟨k0, hk0⟩ : ∃ k : F2, k = F2.sm 4 4 := ⟨_, rfl⟩
 refine calls_fr1 Tryz.func4 rfl (by rfl : _ = 167) (by rfl) ?_
 have hw := Hbl.nil v
 refine seq_plain hw [0] (by rfl) ?_
 refine lv (.bool false) (h := ?_)
 refine L_end ?_
 intro w1 hw1
 refine wp_seq ?_
 refine seq_plain hw1 [0, 1] (by rfl) ?_
 refine L_val (.bool true) (by rfl) (by rfl) (gives_call (vl := []) (by kernel_rfl) (by rfl) (fun w h => cd_head w (hG.keep h.below) (hU.keep h.below))) ?_
 refine lv (.bool false) (h := ?_)
 refine L_end ?_
 intro w2 hw2
 refine wp_cond_false (fr_at _ _ (by rfl) _) ?_
 refine wp_skip ?_
 change Code.wp _ _ _ _ _
 refine wp_seq ?_
 refine seq_plain hw2 [0, 1] (by rfl) ?_
 refine lv (.slice (some ⟨b0, o0, none⟩) L0 C0) (h := ?_)
 refine L_val (.bool false) (by rfl) (by rfl) (gives_call (vl := [.slice (some ⟨b0, o0, none⟩) L0 C0]) (by kernel_rfl) (by rfl) (fun w h => cd_lng_f _ _ _ w (by omega))) ?_
 refine L_end ?_
 intro w3 hw3
 refine wp_cond_false (fr_at _ _ (by rfl) _) ?_
 refine wp_skip ?_
 change Code.wp _ _ _ _ _
 refine seq_plain hw3 [0, 1, 2] (by rfl) ?_
 refine lv (.slice (some ⟨b0, o0, none⟩) L0 C0) (h := ?_)
 refine L_fresh 5 (ag8 bs0) (fun g => .slice (some ⟨g, 0, none⟩) L0 L0) (by rfl) (by rfl) (by kernel_rfl) (by rfl) (fun w h => copy_any w _ L0 _ bs0 ((hr0.below h.below).more h.below.size) (by omega)) ?_; intro g1
 refine lv (.slice (some ⟨g1, 0, none⟩) L0 L0) (h := ?_)
 refine L_end ?_
 intro w4 hw4
 refine seq_plain hw4 [0, 1, 2, 3, 4, 5, 6, 7] (by rfl) ?_
 refine lv (.slice (some ⟨g1, 0, none⟩) L0 L0) (h := ?_)
 by_cases hf0 : frm bs0 false = true
 ·
  by_cases hf1 : 64 * (gt bs0 0 / 64 % 2) = 0
  ·
   by_cases hf2 : ok2 (seg bs0 0 96)
   ·
    by_cases hf3 : ok2 (seg bs0 96 96)
    ·
     by_cases hf4 : (rd2 (seg bs0 96 96)) * (rd2 (seg bs0 96 96)) = abv2 (rd2 (seg bs0 0 96))
     ·
      by_cases hf5 : gMul F2.inv (⟨(rd2 (seg bs0 0 96)), (rd2 (seg bs0 96 96))⟩ : Pt F2) (-1) = -(⟨(rd2 (seg bs0 0 96)), (rd2 (seg bs0 96 96))⟩ : Pt F2)
      ·
       refine L_val (.tuple #[.agg (cg2 (⟨(rd2 (seg bs0 0 96)), (rd2 (seg bs0 96 96))⟩ : Pt F2)), .int .i64 0]) (by rfl) (by rfl) (gives_call (vl := [.slice (some ⟨g1, 0, none⟩) L0 L0]) (by kernel_rfl) (by rfl) (fun w h => cd_readg2_t _ _ _ _ _ w hl0 ho0 (h.blk 0 (by rfl)).lt (blk_cells (h.blk 0 (by rfl)) hl0) (copy_reads (h.blk 0 (by rfl)) hl0) (Nat.le_refl _) (by omega) (hG.keep h.below) (hR.keep h.below) (hQ.keep h.below) (hU.keep h.below) (rd2 (seg bs0 0 96)) (rd2 (seg bs0 96 96)) (by simp only [pt2, if_neg hB, if_pos hC, if_pos hf0, if_pos hf1, if_pos hf2, if_pos hf3, if_pos hf4]) (on2_xy hf4) hf5)) ?_
       refine lv (.tuple #[.agg (cg2 (⟨(rd2 (seg bs0 0 96)), (rd2 (seg bs0 96 96))⟩ : Pt F2)), .int .i64 0]) (h := ?_)
       refine L_val (.agg (cg2 (⟨(rd2 (seg bs0 0 96)), (rd2 (seg bs0 96 96))⟩ : Pt F2))) (by rfl) (by rfl) gk ?_
       refine L_val (.int .i64 0) (by rfl) (by rfl) gk ?_
       refine L_alloc _ (by rfl) (by rfl) z_g2 (cg2 (0 : Pt F2)) rfl ?_; intro g2
       refine L_store (t := 48) 0 g2 _ _ (by rfl) (by rfl) (by rfl) (by rfl) (by rfl) (hi_g2 _) ((cg2_size _).trans (cg2_size _).symm) (cg2_one _) ?_
       simp only [List.set_cons_zero, List.set_cons_succ]
       refine lv (.int .i64 0) (h := ?_)
       refine L_end ?_
       intro w5 hw5
       refine wp_seq ?_
       refine seq_plain hw5 [0, 1, 2, 3, 4, 5, 6, 7, 8, 9, 10, 11, 12] (by rfl) ?_
       refine lv (.slice (some ⟨g1, 0, none⟩) L0 L0) (h := ?_)
       refine lv (.slice (some ⟨b0, o0, none⟩) L0 C0) (h := ?_)
       refine L_val (.bool true) (by rfl) (by rfl) (gives_call (vl := [.slice (some ⟨g1, 0, none⟩) L0 L0, .slice (some ⟨b0, o0, none⟩) L0 C0]) (by kernel_rfl) (by rfl) (fun w h => same_t w _ _ _ L0 _ _ _ bs0 (copy_reads (h.blk 1 (by rfl)) hl0) ((hr0.below h.below).more h.below.size) (by omega))) ?_
       refine lv (.bool false) (h := ?_)
       refine lv (.bool false) (h := ?_)
       refine L_val_g (dj := 33) (.int .i64 0) (by rfl) (by rfl) (by rfl) (by rfl) (by rfl) gv ?_
       refine L_val_g (dj := 33) (.bool false) (by rfl) (by rfl) (by rfl) (by rfl) (by rfl) (gives_ine (k := .i64) (0) (0) false (by rfl) (by rfl) (by decide)) ?_
       refine L_val_g (dj := 33) (.bool false) (by rfl) (by rfl) (by rfl) (by rfl) (by rfl) gv ?_
       refine lS (dj := 36) (h := ?_)
       refine lS (dj := 36) (h := ?_)
       refine lS (dj := 36) (h := ?_)
       refine L_val_g (dj := 33) (.bool false) (by rfl) (by rfl) (by rfl) (by rfl) (by rfl) gv ?_
       refine lv (.bool false) (h := ?_)
       refine L_end ?_
       intro w6 hw6
       refine wp_cond_false (fr_at _ _ (by rfl) _) ?_
       refine wp_skip ?_
       change Code.wp _ _ _ _ _
       refine seq_plain hw6 [0, 1, 2, 3, 4, 5, 6] (by rfl) ?_
       refine lv (.slice (some ⟨b0, o0, none⟩) L0 C0) (h := ?_)
       refine L_val (.tuple #[.int .i64 0, .bool false]) (by rfl) (by rfl) (gives_call (vl := [.slice (some ⟨b0, o0, none⟩) L0 C0, .int .i64 96]) (by kernel_rfl) (by rfl) (fun w h => marks2_l_near _ _ _ _ _ w hl0 ho0 (Nat.lt_of_lt_of_le hq0 h.below.size) (fun j hj => (h.below.cell (p := ⟨b0, _, none⟩) hq0).trans (hc0 j hj)) (by omega) hLC hf0 hf1)) ?_
       refine lv (.tuple #[.int .i64 0, .bool false]) (h := ?_)
       refine L_val (.int .i64 0) (by rfl) (by rfl) gk ?_
       refine L_val (.bool false) (by rfl) (by rfl) gk ?_
       refine lv (.int .i64 0) (h := ?_)
       refine lv (.bool false) (h := ?_)
       refine L_end ?_
       intro w7 hw7
       refine wp_seq ?_
       refine seq_plain hw7 [0, 1, 2, 3, 4] (by rfl) ?_
       refine lv (.int .i64 0) (h := ?_)
       refine L_val (.bool false) (by rfl) (by rfl) (gives_ine (k := .i64) (0) (0) false (by rfl) (by rfl) (by decide)) ?_
       refine lv (.bool false) (h := ?_)
       refine L_val_g (dj := 49) (.bool false) (by rfl) (by rfl) (by rfl) (by rfl) (by rfl) gv ?_
       refine lv (.bool false) (h := ?_)
       refine L_end ?_
       intro w8 hw8
       refine wp_cond_false (fr_at _ _ (by rfl) _) ?_
       refine wp_skip ?_
       change Code.wp _ _ _ _ _
       refine seq_plain hw8 [0, 1, 2] (by rfl) ?_
       refine lv (.slice (some ⟨b0, o0, none⟩) L0 C0) (h := ?_)
       refine L_fresh 5 (ag8 bs0) (fun g => .slice (some ⟨g, 0, none⟩) L0 L0) (by rfl) (by rfl) (by kernel_rfl) (by rfl) (fun w h => copy_any w _ L0 _ bs0 ((hr0.below h.below).more h.below.size) (by omega)) ?_; intro g3
       refine lv (.slice (some ⟨g3, 0, none⟩) L0 L0) (h := ?_)
       refine L_end ?_
       intro w9 hw9
       refine seq_plain hw9 [0, 1, 2, 3, 4, 5] (by rfl) ?_
       refine lv (.slice (some ⟨g3, 0, none⟩) L0 L0) (h := ?_)
       refine L_val (.pointer (some ⟨g3, 0 + (0), none⟩)) (by rfl) (by rfl) (gives_index g3 0 (L0) (L0) (0) (0) (by rfl) (by rfl) und_u8s u8_sz (by omega) (by omega)) ?_
       refine L_val (.int .u8 (gt bs0 0)) (by rfl) (by rfl) (gives_load1 g3 (0 + (0)) _ (ag8 bs0) (.int .u8 (gt bs0 0)) (by rfl) (fun _ h => h.blk 0 (by rfl)) (ag8_at bs0 0 (by omega)) und_u8') ?_
       refine L_val (.int .u8 (gt bs0 0 % 32)) (by rfl) (by rfl) (gives_and (k := .u8) (gt bs0 0) 31 (gt bs0 0 % 32) (by rfl) (by rfl) (and_31b _ (gt_oct ho0 _).1 (gt_oct ho0 _).2)) ?_
       refine L_val (.pointer (some ⟨g3, 0 + (0), none⟩)) (by rfl) (by rfl) (gives_index g3 0 (L0) (L0) (0) (0) (by rfl) (by rfl) und_u8s u8_sz (by omega) (by omega)) ?_
       refine L_store1 0 g3 (0 + (0)) _ (ag8 bs0) (.int .u8 (gt bs0 0 % 32)) (by rfl) (by rfl) (by rfl) (by rfl) rfl (by rfl) u8_sz (by rw [ag8_size]; omega) ?_
       simp only [List.set_cons_zero, List.set_cons_succ]
       rw [show (ag8 bs0).setIfInBounds (0 + (0)) (.int .u8 (gt bs0 0 % 32)) = ag8 (cln bs0) from ag8_set _ _ _]
       refine L_end ?_
       intro w10 hw10
       refine seq_plain hw10 [0, 1, 2, 3, 4, 5, 6, 7, 8] (by rfl) ?_
       refine lv (.slice (some ⟨g3, 0, none⟩) L0 L0) (h := ?_)
       refine L_val (.slice (some ⟨g3, 0, none⟩) 96 L0) (by rfl) (by rfl) (gives_slice_to g3 L0 L0 96 (96) (by rfl) (by rfl) und_u8s u8_sz (by omega) (by omega)) ?_
       refine L_val (.tuple #[.agg (c2 (rd2 (seg bs0 0 96))), .int .i64 0]) (by rfl) (by rfl) (gives_call (vl := [.slice (some ⟨g3, 0, none⟩) 96 L0]) (by kernel_rfl) (by rfl) (fun w h => rdok2 (seg bs0 0 96) _ _ _ w (hG.keep h.below) (seg_reads2 (h.blk 0 (by rfl)) hl0 0 96 (by omega)) (seg_oct ho0 _ _) (by omega) hf2)) ?_
       refine lv (.tuple #[.agg (c2 (rd2 (seg bs0 0 96))), .int .i64 0]) (h := ?_)
       refine L_val (.agg (c2 (rd2 (seg bs0 0 96)))) (by rfl) (by rfl) gk ?_
       refine L_val (.int .i64 0) (by rfl) (by rfl) gk ?_
       refine L_alloc _ (by rfl) (by rfl) z_2 (c2 (0 : F2)) rfl ?_; intro g4
       refine L_store (t := 46) 0 g4 _ _ (by rfl) (by rfl) (by rfl) (by rfl) (by rfl) (hi_2 _) ((c2_size _).trans (c2_size _).symm) (c2_one _) ?_
       simp only [List.set_cons_zero, List.set_cons_succ]
       refine lv (.int .i64 0) (h := ?_)
       refine L_end ?_
       intro w11 hw11
       refine wp_seq ?_
       refine seq_plain hw11 [0, 1] (by rfl) ?_
       refine lv (.int .i64 0) (h := ?_)
       refine L_val (.bool false) (by rfl) (by rfl) (gives_ine (k := .i64) (0) (0) false (by rfl) (by rfl) (by decide)) ?_
       refine L_end ?_
       intro w12 hw12
       refine wp_cond_false (fr_at _ _ (by rfl) _) ?_
       refine wp_skip ?_
       change Code.wp _ _ _ _ _
       refine seq_flow (by kernel_rfl) hw12 [] [(g4, 46, (c2 (rd2 (seg bs0 0 96)))), (g3, 5, (ag8 (cln bs0))), (g2, 48, (cg2 (⟨(rd2 (seg bs0 0 96)), (rd2 (seg bs0 96 96))⟩ : Pt F2))), (g1, 5, (ag8 bs0))] 8 (by rfl) ?_
       refine fT (i := 0) (g := (gL g4 46 (c2 (rd2 (seg bs0 0 96))) 0 Tryz.underlying46 (hi_2 _))) (h := ?_)
       refine fT (i := 1) (g := (gives_call (vl := [.agg (c2 (rd2 (seg bs0 0 96)))]) (by kernel_rfl) (by rfl) (fun w h => q_square _ w (hG.keep h.below)))) (h := ?_)
       refine fT (i := 2) (g := (gL g4 46 (c2 (rd2 (seg bs0 0 96))) 0 Tryz.underlying46 (hi_2 _))) (h := ?_)
       refine fT (i := 3) (g := (gives_call (vl := [.agg (c2 ((rd2 (seg bs0 0 96)) * (rd2 (seg bs0 0 96)))), .agg (c2 (rd2 (seg bs0 0 96)))]) (by kernel_rfl) (by rfl) (fun w h => q_mul _ _ w (hG.keep h.below)))) (h := ?_)
       refine fT (i := 4) (u := (.agg (c2 (k0)))) (g := (gives_call (vl := [.int .u64 4, .int .u64 4]) (by kernel_rfl) (by rfl) (fun w h => by rw [hk0]; exact q_small _ _ w (hG.keep h.below) (by omega) (by simp only [Wd]; omega) (by omega) (by simp only [Wd]; omega)))) (h := ?_)
       refine fT (i := 5) (g := (gives_call (vl := [.agg (c2 (((rd2 (seg bs0 0 96)) * (rd2 (seg bs0 0 96))) * (rd2 (seg bs0 0 96)))), .agg (c2 (k0))]) (by kernel_rfl) (by rfl) (fun w h => q_add _ _ w (hG.keep h.below)))) (h := ?_)
       refine flow_one 6 (by kernel_rfl) ?_
       refine F_alloc _ (by rfl) (by rfl) z_2 (c2 (0 : F2)) rfl (List.Sublist.refl _) ?_; intro g5
       refine flow_one 7 (by kernel_rfl) ?_
       refine F_store (t := 46) 0 g5 _ _ (by rfl) (by rfl) (by rfl) (by rfl) (by rfl) (hi_2 _) ((c2_size _).trans (c2_size _).symm) (c2_one _) (.inr (List.Sublist.cons _ (List.Sublist.refl _))) ?_
       simp only [List.set_cons_zero, List.set_cons_succ]
       refine flow_done (by kernel_rfl) ?_
       intro w13 hw13
       refine wp_seq ?_
       refine seq_plain hw13 [0, 1, 2] (by rfl) ?_
       refine lv (.slice (some ⟨b0, o0, none⟩) L0 C0) (h := ?_)
       refine L_val (.int .i64 (L0 : Int)) (by rfl) (by rfl) (gives_len _ L0 C0 und_u8s (by rfl)) ?_
       refine L_val (.bool true) (by rfl) (by rfl) (gives_ieq (k := .i64) ((L0 : Int)) (192) true (by rfl) (by rfl) (decide_eq_true (by omega))) ?_
       refine L_end ?_
       intro w14 hw14
       refine wp_cond_true (fr_at _ _ (by rfl) _) ?_
       refine seq_plain hw14 [0, 1, 2, 3, 4, 5, 6, 7, 8] (by rfl) ?_
       refine lv (.slice (some ⟨g3, 0, none⟩) L0 L0) (h := ?_)
       refine L_val (.slice (some ⟨g3, 0 + 96, none⟩) 96 (L0 - 96)) (by rfl) (by rfl) (gives_slice_fromQ g3 (0) L0 L0 96 96 96 (by rfl) (by rfl) und_u8s u8_sz (by rfl) (by omega) (by omega) (by omega)) ?_
       refine L_val (.tuple #[.agg (c2 (rd2 (seg bs0 96 96))), .int .i64 0]) (by rfl) (by rfl) (gives_call (vl := [.slice (some ⟨g3, 0 + 96, none⟩) 96 (L0 - 96)]) (by kernel_rfl) (by rfl) (fun w h => rdok2 (seg bs0 96 96) _ _ _ w (hG.keep h.below) (seg_reads2 (h.blk 2 (by rfl)) hl0 96 96 (by omega)) (seg_oct ho0 _ _) (by omega) hf3)) ?_
       refine lv (.tuple #[.agg (c2 (rd2 (seg bs0 96 96))), .int .i64 0]) (h := ?_)
       refine L_val (.agg (c2 (rd2 (seg bs0 96 96)))) (by rfl) (by rfl) gk ?_
       refine L_val (.int .i64 0) (by rfl) (by rfl) gk ?_
       refine L_alloc _ (by rfl) (by rfl) z_2 (c2 (0 : F2)) rfl ?_; intro g6
       refine L_store (t := 46) 0 g6 _ _ (by rfl) (by rfl) (by rfl) (by rfl) (by rfl) (hi_2 _) ((c2_size _).trans (c2_size _).symm) (c2_one _) ?_
       simp only [List.set_cons_zero, List.set_cons_succ]
       refine lv (.int .i64 0) (h := ?_)
       refine L_end ?_
       intro w15 hw15
       refine wp_seq ?_
       refine seq_plain hw15 [0, 1] (by rfl) ?_
       refine lv (.int .i64 0) (h := ?_)
       refine L_val (.bool false) (by rfl) (by rfl) (gives_ine (k := .i64) (0) (0) false (by rfl) (by rfl) (by decide)) ?_
       refine L_end ?_
       intro w16 hw16
       refine wp_cond_false (fr_at _ _ (by rfl) _) ?_
       refine wp_skip ?_
       change Code.wp _ _ _ _ _
       refine wp_seq ?_
       refine seq_flow (by kernel_rfl) hw16 [] [(g6, 46, (c2 (rd2 (seg bs0 96 96)))), (g5, 46, (c2 ((((rd2 (seg bs0 0 96)) * (rd2 (seg bs0 0 96))) * (rd2 (seg bs0 0 96))) + (k0)))), (g4, 46, (c2 (rd2 (seg bs0 0 96)))), (g3, 5, (ag8 (cln bs0))), (g2, 48, (cg2 (⟨(rd2 (seg bs0 0 96)), (rd2 (seg bs0 96 96))⟩ : Pt F2))), (g1, 5, (ag8 bs0))] 4 (by rfl) ?_
       refine fT (i := 0) (g := (gL g6 46 (c2 (rd2 (seg bs0 96 96))) 0 Tryz.underlying46 (hi_2 _))) (h := ?_)
       refine fT (i := 1) (g := (gives_call (vl := [.agg (c2 (rd2 (seg bs0 96 96)))]) (by kernel_rfl) (by rfl) (fun w h => q_square _ w (hG.keep h.below)))) (h := ?_)
       refine fT (i := 2) (g := (gL g5 46 (c2 ((((rd2 (seg bs0 0 96)) * (rd2 (seg bs0 0 96))) * (rd2 (seg bs0 0 96))) + (k0))) 1 Tryz.underlying46 (hi_2 _))) (h := ?_)
       refine fT (i := 3) (u := (.bool false)) (g := (gives_neq (c2 ((rd2 (seg bs0 96 96)) * (rd2 (seg bs0 96 96)))) (c2 ((((rd2 (seg bs0 0 96)) * (rd2 (seg bs0 0 96))) * (rd2 (seg bs0 0 96))) + (k0))) true (by rfl) (by rfl) (by kernel_rfl) (fun w => eq_2_t (d := 9996) w (by rw [hk0]; exact hf4)))) (h := ?_)
       refine flow_done (by kernel_rfl) ?_
       intro w17 hw17
       refine wp_cond_false (fr_at _ _ (by rfl) _) ?_
       refine wp_skip ?_
       change Code.wp _ _ _ _ _
       refine seq_plain hw17 [0, 1, 2, 3, 4] (by rfl) ?_
       refine L_val (.agg (c2 (rd2 (seg bs0 0 96)))) (by rfl) (by rfl) (gL g4 46 (c2 (rd2 (seg bs0 0 96))) 2 Tryz.underlying46 (hi_2 _)) ?_
       refine L_val (.agg (c2 (rd2 (seg bs0 96 96)))) (by rfl) (by rfl) (gL g6 46 (c2 (rd2 (seg bs0 96 96))) 0 Tryz.underlying46 (hi_2 _)) ?_
       refine L_val (.agg (cg2 (⟨rd2 (seg bs0 0 96), rd2 (seg bs0 96 96)⟩ : Pt F2))) (by rfl) (by rfl) (gb_g2 [(0, (c2 (rd2 (seg bs0 0 96)))), (1, (c2 (rd2 (seg bs0 96 96))))] ⟨congrArg some (c2_size _).symm, congrArg some (c2_size _).symm, trivial⟩ (by rfl) (cg2 (⟨rd2 (seg bs0 0 96), rd2 (seg bs0 96 96)⟩ : Pt F2)) (by rfl)) ?_
       refine L_alloc _ (by rfl) (by rfl) z_g2 (cg2 (0 : Pt F2)) rfl ?_; intro g7
       refine L_store (t := 48) 0 g7 _ _ (by rfl) (by rfl) (by rfl) (by rfl) (by rfl) (hi_g2 _) ((cg2_size _).trans (cg2_size _).symm) (cg2_one _) ?_
       simp only [List.set_cons_zero, List.set_cons_succ]
       refine L_end ?_
       intro w18 hw18
       refine seq_plain hw18 [0, 1, 2, 3, 4, 5, 6, 7, 8, 9, 10, 11, 12, 13, 14, 15, 16, 17, 18, 19, 20] (by rfl) ?_
       refine L_val (.agg (cg2 (⟨rd2 (seg bs0 0 96), rd2 (seg bs0 96 96)⟩ : Pt F2))) (by rfl) (by rfl) (gL g7 48 (cg2 (⟨rd2 (seg bs0 0 96), rd2 (seg bs0 96 96)⟩ : Pt F2)) 0 Tryz.underlying48 (hi_g2 _)) ?_
       refine L_val (.bool true) (by rfl) (by rfl) (gives_call (vl := [.agg (cg2 (⟨rd2 (seg bs0 0 96), rd2 (seg bs0 96 96)⟩ : Pt F2))]) (by kernel_rfl) (by rfl) (fun w h => k2_int _ w (hG.keep h.below) (hR.keep h.below) (on2_xy hf4) hf5)) ?_
       refine lv (.bool true) (h := ?_)
       refine L_val_g (dj := 107) (.int .i64 0) (by rfl) (by rfl) (by rfl) (by rfl) (by rfl) gv ?_
       refine L_val_g (dj := 107) (.bool true) (by rfl) (by rfl) (by rfl) (by rfl) (by rfl) (gives_ieq (k := .i64) (0) (0) true (by rfl) (by rfl) (by decide)) ?_
       refine lv (.bool true) (h := ?_)
       refine lv (.bool true) (h := ?_)
       refine L_val_g (dj := 111) (.agg (cg2 (⟨(rd2 (seg bs0 0 96)), (rd2 (seg bs0 96 96))⟩ : Pt F2))) (by rfl) (by rfl) (by rfl) (by rfl) (by rfl) (gives_load g2 0 48 (cg2 (⟨(rd2 (seg bs0 0 96)), (rd2 (seg bs0 96 96))⟩ : Pt F2)) (cg2 (⟨(rd2 (seg bs0 0 96)), (rd2 (seg bs0 96 96))⟩ : Pt F2)) _ (by rfl) (fun _ h => h.blk 5 (by rfl)) (Sl.refl _) Tryz.underlying48 (by rfl) (hi_g2 _)) ?_
       refine L_val_g (dj := 111) (.agg (cg2 (⟨rd2 (seg bs0 0 96), rd2 (seg bs0 96 96)⟩ : Pt F2))) (by rfl) (by rfl) (by rfl) (by rfl) (by rfl) (gives_load g7 0 48 (cg2 (⟨rd2 (seg bs0 0 96), rd2 (seg bs0 96 96)⟩ : Pt F2)) (cg2 (⟨rd2 (seg bs0 0 96), rd2 (seg bs0 96 96)⟩ : Pt F2)) _ (by rfl) (fun _ h => h.blk 0 (by rfl)) (Sl.refl _) Tryz.underlying48 (by rfl) (hi_g2 _)) ?_
       refine L_val_g (dj := 111) (.bool true) (by rfl) (by rfl) (by rfl) (by rfl) (by rfl) (gives_eql (cg2 (⟨(rd2 (seg bs0 0 96)), (rd2 (seg bs0 96 96))⟩ : Pt F2)) (cg2 (⟨rd2 (seg bs0 0 96), rd2 (seg bs0 96 96)⟩ : Pt F2)) true (by rfl) (by rfl) (by kernel_rfl) (fun w => eq_g2_t (d := 9995) w rfl)) ?_
       refine lv (.bool true) (h := ?_)
       refine lv (.bool true) (h := ?_)
       refine lS (dj := 116) (h := ?_)
       refine lS (dj := 116) (h := ?_)
       refine lS (dj := 116) (h := ?_)
       refine lS (dj := 116) (h := ?_)
       refine lSu (dj := 120) (h := ?_)
       refine lSu (dj := 120) (h := ?_)
       refine lS (dj := 116) (h := ?_)
       refine lv (.bool true) (h := ?_)
       refine lv (.bool true) (h := ?_)
       refine L_end ?_
       intro w19 hw19
       refine wp_ret ?_
       change bodyPost _ _ _ Exit.ret _ _
       refine (ret_tmp (by rfl) (by rfl) (by rfl) ⟨rfl, hw19.below⟩)
      ·
       refine L_val (.tuple #[.agg (cg2 (0 : Pt F2)), .int .i64 14]) (by rfl) (by rfl) (gives_call (vl := [.slice (some ⟨g1, 0, none⟩) L0 L0]) (by kernel_rfl) (by rfl) (fun w h => cd_readg2_n _ _ _ _ _ w hl0 ho0 (h.blk 0 (by rfl)).lt (blk_cells (h.blk 0 (by rfl)) hl0) (copy_reads (h.blk 0 (by rfl)) hl0) (Nat.le_refl _) (by omega) (hG.keep h.below) (hR.keep h.below) (hQ.keep h.below) (hU.keep h.below) (rd2 (seg bs0 0 96)) (rd2 (seg bs0 96 96)) (by simp only [pt2, if_neg hB, if_pos hC, if_pos hf0, if_pos hf1, if_pos hf2, if_pos hf3, if_pos hf4]) (on2_xy hf4) hf5)) ?_
       refine lv (.tuple #[.agg (cg2 (0 : Pt F2)), .int .i64 14]) (h := ?_)
       refine L_val (.agg (cg2 (0 : Pt F2))) (by rfl) (by rfl) gk ?_
       refine L_val (.int .i64 14) (by rfl) (by rfl) gk ?_
       refine L_alloc _ (by rfl) (by rfl) z_g2 (cg2 (0 : Pt F2)) rfl ?_; intro g2
       refine L_store (t := 48) 0 g2 _ _ (by rfl) (by rfl) (by rfl) (by rfl) (by rfl) (hi_g2 _) ((cg2_size _).trans (cg2_size _).symm) (cg2_one _) ?_
       simp only [List.set_cons_zero, List.set_cons_succ]
       refine lv (.int .i64 14) (h := ?_)
       refine L_end ?_
       intro w5 hw5
       refine wp_seq ?_
       refine seq_plain hw5 [0, 1, 2, 3, 4, 5, 6, 7, 8, 9, 10, 11, 12] (by rfl) ?_
       refine lv (.slice (some ⟨g1, 0, none⟩) L0 L0) (h := ?_)
       refine lv (.slice (some ⟨b0, o0, none⟩) L0 C0) (h := ?_)
       refine L_val (.bool true) (by rfl) (by rfl) (gives_call (vl := [.slice (some ⟨g1, 0, none⟩) L0 L0, .slice (some ⟨b0, o0, none⟩) L0 C0]) (by kernel_rfl) (by rfl) (fun w h => same_t w _ _ _ L0 _ _ _ bs0 (copy_reads (h.blk 1 (by rfl)) hl0) ((hr0.below h.below).more h.below.size) (by omega))) ?_
       refine lv (.bool false) (h := ?_)
       refine lv (.bool false) (h := ?_)
       refine L_val_g (dj := 33) (.int .i64 14) (by rfl) (by rfl) (by rfl) (by rfl) (by rfl) gv ?_
       refine L_val_g (dj := 33) (.bool true) (by rfl) (by rfl) (by rfl) (by rfl) (by rfl) (gives_ine (k := .i64) (14) (0) true (by rfl) (by rfl) (by decide)) ?_
       refine L_val_g (dj := 33) (.bool true) (by rfl) (by rfl) (by rfl) (by rfl) (by rfl) gv ?_
       refine L_val_g (dj := 36) (.agg (cg2 (0 : Pt F2))) (by rfl) (by rfl) (by rfl) (by rfl) (by rfl) (gives_load g2 0 48 (cg2 (0 : Pt F2)) (cg2 (0 : Pt F2)) _ (by rfl) (fun _ h => h.blk 0 (by rfl)) (Sl.refl _) Tryz.underlying48 (by rfl) (hi_g2 _)) ?_
       refine L_val_g (dj := 36) (.agg (cg2 (0 : Pt F2))) (by rfl) (by rfl) (by rfl) (by rfl) (by rfl) (gb_g2 [] trivial (by rfl) (cg2 (0 : Pt F2)) (by rfl)) ?_
       refine L_val_g (dj := 36) (.bool false) (by rfl) (by rfl) (by rfl) (by rfl) (by rfl) (gives_neq (cg2 (0 : Pt F2)) (cg2 (0 : Pt F2)) true (by rfl) (by rfl) (by kernel_rfl) (fun w => eq_g2_t (d := 9995) w rfl)) ?_
       refine L_val_g (dj := 33) (.bool false) (by rfl) (by rfl) (by rfl) (by rfl) (by rfl) gv ?_
       refine lv (.bool false) (h := ?_)
       refine L_end ?_
       intro w6 hw6
       refine wp_cond_false (fr_at _ _ (by rfl) _) ?_
       refine wp_skip ?_
       change Code.wp _ _ _ _ _
       refine seq_plain hw6 [0, 1, 2, 3, 4, 5, 6] (by rfl) ?_
       refine lv (.slice (some ⟨b0, o0, none⟩) L0 C0) (h := ?_)
       refine L_val (.tuple #[.int .i64 0, .bool false]) (by rfl) (by rfl) (gives_call (vl := [.slice (some ⟨b0, o0, none⟩) L0 C0, .int .i64 96]) (by kernel_rfl) (by rfl) (fun w h => marks2_l_near _ _ _ _ _ w hl0 ho0 (Nat.lt_of_lt_of_le hq0 h.below.size) (fun j hj => (h.below.cell (p := ⟨b0, _, none⟩) hq0).trans (hc0 j hj)) (by omega) hLC hf0 hf1)) ?_
       refine lv (.tuple #[.int .i64 0, .bool false]) (h := ?_)
       refine L_val (.int .i64 0) (by rfl) (by rfl) gk ?_
       refine L_val (.bool false) (by rfl) (by rfl) gk ?_
       refine lv (.int .i64 0) (h := ?_)
       refine lv (.bool false) (h := ?_)
       refine L_end ?_
       intro w7 hw7
       refine wp_seq ?_
       refine seq_plain hw7 [0, 1, 2, 3, 4] (by rfl) ?_
       refine lv (.int .i64 0) (h := ?_)
       refine L_val (.bool false) (by rfl) (by rfl) (gives_ine (k := .i64) (0) (0) false (by rfl) (by rfl) (by decide)) ?_
       refine lv (.bool false) (h := ?_)
       refine L_val_g (dj := 49) (.bool false) (by rfl) (by rfl) (by rfl) (by rfl) (by rfl) gv ?_
       refine lv (.bool false) (h := ?_)
       refine L_end ?_
       intro w8 hw8
       refine wp_cond_false (fr_at _ _ (by rfl) _) ?_
       refine wp_skip ?_
       change Code.wp _ _ _ _ _
       refine seq_plain hw8 [0, 1, 2] (by rfl) ?_
       refine lv (.slice (some ⟨b0, o0, none⟩) L0 C0) (h := ?_)
       refine L_fresh 5 (ag8 bs0) (fun g => .slice (some ⟨g, 0, none⟩) L0 L0) (by rfl) (by rfl) (by kernel_rfl) (by rfl) (fun w h => copy_any w _ L0 _ bs0 ((hr0.below h.below).more h.below.size) (by omega)) ?_; intro g3
       refine lv (.slice (some ⟨g3, 0, none⟩) L0 L0) (h := ?_)
       refine L_end ?_
       intro w9 hw9
       refine seq_plain hw9 [0, 1, 2, 3, 4, 5] (by rfl) ?_
       refine lv (.slice (some ⟨g3, 0, none⟩) L0 L0) (h := ?_)
       refine L_val (.pointer (some ⟨g3, 0 + (0), none⟩)) (by rfl) (by rfl) (gives_index g3 0 (L0) (L0) (0) (0) (by rfl) (by rfl) und_u8s u8_sz (by omega) (by omega)) ?_
       refine L_val (.int .u8 (gt bs0 0)) (by rfl) (by rfl) (gives_load1 g3 (0 + (0)) _ (ag8 bs0) (.int .u8 (gt bs0 0)) (by rfl) (fun _ h => h.blk 0 (by rfl)) (ag8_at bs0 0 (by omega)) und_u8') ?_
       refine L_val (.int .u8 (gt bs0 0 % 32)) (by rfl) (by rfl) (gives_and (k := .u8) (gt bs0 0) 31 (gt bs0 0 % 32) (by rfl) (by rfl) (and_31b _ (gt_oct ho0 _).1 (gt_oct ho0 _).2)) ?_
       refine L_val (.pointer (some ⟨g3, 0 + (0), none⟩)) (by rfl) (by rfl) (gives_index g3 0 (L0) (L0) (0) (0) (by rfl) (by rfl) und_u8s u8_sz (by omega) (by omega)) ?_
       refine L_store1 0 g3 (0 + (0)) _ (ag8 bs0) (.int .u8 (gt bs0 0 % 32)) (by rfl) (by rfl) (by rfl) (by rfl) rfl (by rfl) u8_sz (by rw [ag8_size]; omega) ?_
       simp only [List.set_cons_zero, List.set_cons_succ]
       rw [show (ag8 bs0).setIfInBounds (0 + (0)) (.int .u8 (gt bs0 0 % 32)) = ag8 (cln bs0) from ag8_set _ _ _]
       refine L_end ?_
       intro w10 hw10
       refine seq_plain hw10 [0, 1, 2, 3, 4, 5, 6, 7, 8] (by rfl) ?_
       refine lv (.slice (some ⟨g3, 0, none⟩) L0 L0) (h := ?_)
       refine L_val (.slice (some ⟨g3, 0, none⟩) 96 L0) (by rfl) (by rfl) (gives_slice_to g3 L0 L0 96 (96) (by rfl) (by rfl) und_u8s u8_sz (by omega) (by omega)) ?_
       refine L_val (.tuple #[.agg (c2 (rd2 (seg bs0 0 96))), .int .i64 0]) (by rfl) (by rfl) (gives_call (vl := [.slice (some ⟨g3, 0, none⟩) 96 L0]) (by kernel_rfl) (by rfl) (fun w h => rdok2 (seg bs0 0 96) _ _ _ w (hG.keep h.below) (seg_reads2 (h.blk 0 (by rfl)) hl0 0 96 (by omega)) (seg_oct ho0 _ _) (by omega) hf2)) ?_
       refine lv (.tuple #[.agg (c2 (rd2 (seg bs0 0 96))), .int .i64 0]) (h := ?_)
       refine L_val (.agg (c2 (rd2 (seg bs0 0 96)))) (by rfl) (by rfl) gk ?_
       refine L_val (.int .i64 0) (by rfl) (by rfl) gk ?_
       refine L_alloc _ (by rfl) (by rfl) z_2 (c2 (0 : F2)) rfl ?_; intro g4
       refine L_store (t := 46) 0 g4 _ _ (by rfl) (by rfl) (by rfl) (by rfl) (by rfl) (hi_2 _) ((c2_size _).trans (c2_size _).symm) (c2_one _) ?_
       simp only [List.set_cons_zero, List.set_cons_succ]
       refine lv (.int .i64 0) (h := ?_)
       refine L_end ?_
       intro w11 hw11
       refine wp_seq ?_
       refine seq_plain hw11 [0, 1] (by rfl) ?_
       refine lv (.int .i64 0) (h := ?_)
       refine L_val (.bool false) (by rfl) (by rfl) (gives_ine (k := .i64) (0) (0) false (by rfl) (by rfl) (by decide)) ?_
       refine L_end ?_
       intro w12 hw12
       refine wp_cond_false (fr_at _ _ (by rfl) _) ?_
       refine wp_skip ?_
       change Code.wp _ _ _ _ _
       refine seq_flow (by kernel_rfl) hw12 [] [(g4, 46, (c2 (rd2 (seg bs0 0 96)))), (g3, 5, (ag8 (cln bs0))), (g2, 48, (cg2 (0 : Pt F2))), (g1, 5, (ag8 bs0))] 8 (by rfl) ?_
       refine fT (i := 0) (g := (gL g4 46 (c2 (rd2 (seg bs0 0 96))) 0 Tryz.underlying46 (hi_2 _))) (h := ?_)
       refine fT (i := 1) (g := (gives_call (vl := [.agg (c2 (rd2 (seg bs0 0 96)))]) (by kernel_rfl) (by rfl) (fun w h => q_square _ w (hG.keep h.below)))) (h := ?_)
       refine fT (i := 2) (g := (gL g4 46 (c2 (rd2 (seg bs0 0 96))) 0 Tryz.underlying46 (hi_2 _))) (h := ?_)
       refine fT (i := 3) (g := (gives_call (vl := [.agg (c2 ((rd2 (seg bs0 0 96)) * (rd2 (seg bs0 0 96)))), .agg (c2 (rd2 (seg bs0 0 96)))]) (by kernel_rfl) (by rfl) (fun w h => q_mul _ _ w (hG.keep h.below)))) (h := ?_)
       refine fT (i := 4) (u := (.agg (c2 (k0)))) (g := (gives_call (vl := [.int .u64 4, .int .u64 4]) (by kernel_rfl) (by rfl) (fun w h => by rw [hk0]; exact q_small _ _ w (hG.keep h.below) (by omega) (by simp only [Wd]; omega) (by omega) (by simp only [Wd]; omega)))) (h := ?_)
       refine fT (i := 5) (g := (gives_call (vl := [.agg (c2 (((rd2 (seg bs0 0 96)) * (rd2 (seg bs0 0 96))) * (rd2 (seg bs0 0 96)))), .agg (c2 (k0))]) (by kernel_rfl) (by rfl) (fun w h => q_add _ _ w (hG.keep h.below)))) (h := ?_)
       refine flow_one 6 (by kernel_rfl) ?_
       refine F_alloc _ (by rfl) (by rfl) z_2 (c2 (0 : F2)) rfl (List.Sublist.refl _) ?_; intro g5
       refine flow_one 7 (by kernel_rfl) ?_
       refine F_store (t := 46) 0 g5 _ _ (by rfl) (by rfl) (by rfl) (by rfl) (by rfl) (hi_2 _) ((c2_size _).trans (c2_size _).symm) (c2_one _) (.inr (List.Sublist.cons _ (List.Sublist.refl _))) ?_
       simp only [List.set_cons_zero, List.set_cons_succ]
       refine flow_done (by kernel_rfl) ?_
       intro w13 hw13
       refine wp_seq ?_
       refine seq_plain hw13 [0, 1, 2] (by rfl) ?_
       refine lv (.slice (some ⟨b0, o0, none⟩) L0 C0) (h := ?_)
       refine L_val (.int .i64 (L0 : Int)) (by rfl) (by rfl) (gives_len _ L0 C0 und_u8s (by rfl)) ?_
       refine L_val (.bool true) (by rfl) (by rfl) (gives_ieq (k := .i64) ((L0 : Int)) (192) true (by rfl) (by rfl) (decide_eq_true (by omega))) ?_
       refine L_end ?_
       intro w14 hw14
       refine wp_cond_true (fr_at _ _ (by rfl) _) ?_
       refine seq_plain hw14 [0, 1, 2, 3, 4, 5, 6, 7, 8] (by rfl) ?_
       refine lv (.slice (some ⟨g3, 0, none⟩) L0 L0) (h := ?_)
       refine L_val (.slice (some ⟨g3, 0 + 96, none⟩) 96 (L0 - 96)) (by rfl) (by rfl) (gives_slice_fromQ g3 (0) L0 L0 96 96 96 (by rfl) (by rfl) und_u8s u8_sz (by rfl) (by omega) (by omega) (by omega)) ?_
       refine L_val (.tuple #[.agg (c2 (rd2 (seg bs0 96 96))), .int .i64 0]) (by rfl) (by rfl) (gives_call (vl := [.slice (some ⟨g3, 0 + 96, none⟩) 96 (L0 - 96)]) (by kernel_rfl) (by rfl) (fun w h => rdok2 (seg bs0 96 96) _ _ _ w (hG.keep h.below) (seg_reads2 (h.blk 2 (by rfl)) hl0 96 96 (by omega)) (seg_oct ho0 _ _) (by omega) hf3)) ?_
       refine lv (.tuple #[.agg (c2 (rd2 (seg bs0 96 96))), .int .i64 0]) (h := ?_)
       refine L_val (.agg (c2 (rd2 (seg bs0 96 96)))) (by rfl) (by rfl) gk ?_
       refine L_val (.int .i64 0) (by rfl) (by rfl) gk ?_
       refine L_alloc _ (by rfl) (by rfl) z_2 (c2 (0 : F2)) rfl ?_; intro g6
       refine L_store (t := 46) 0 g6 _ _ (by rfl) (by rfl) (by rfl) (by rfl) (by rfl) (hi_2 _) ((c2_size _).trans (c2_size _).symm) (c2_one _) ?_
       simp only [List.set_cons_zero, List.set_cons_succ]
       refine lv (.int .i64 0) (h := ?_)
       refine L_end ?_
       intro w15 hw15
       refine wp_seq ?_
       refine seq_plain hw15 [0, 1] (by rfl) ?_
       refine lv (.int .i64 0) (h := ?_)
       refine L_val (.bool false) (by rfl) (by rfl) (gives_ine (k := .i64) (0) (0) false (by rfl) (by rfl) (by decide)) ?_
       refine L_end ?_
       intro w16 hw16
       refine wp_cond_false (fr_at _ _ (by rfl) _) ?_
       refine wp_skip ?_
       change Code.wp _ _ _ _ _
       refine wp_seq ?_
       refine seq_flow (by kernel_rfl) hw16 [] [(g6, 46, (c2 (rd2 (seg bs0 96 96)))), (g5, 46, (c2 ((((rd2 (seg bs0 0 96)) * (rd2 (seg bs0 0 96))) * (rd2 (seg bs0 0 96))) + (k0)))), (g4, 46, (c2 (rd2 (seg bs0 0 96)))), (g3, 5, (ag8 (cln bs0))), (g2, 48, (cg2 (0 : Pt F2))), (g1, 5, (ag8 bs0))] 4 (by rfl) ?_
       refine fT (i := 0) (g := (gL g6 46 (c2 (rd2 (seg bs0 96 96))) 0 Tryz.underlying46 (hi_2 _))) (h := ?_)
       refine fT (i := 1) (g := (gives_call (vl := [.agg (c2 (rd2 (seg bs0 96 96)))]) (by kernel_rfl) (by rfl) (fun w h => q_square _ w (hG.keep h.below)))) (h := ?_)
       refine fT (i := 2) (g := (gL g5 46 (c2 ((((rd2 (seg bs0 0 96)) * (rd2 (seg bs0 0 96))) * (rd2 (seg bs0 0 96))) + (k0))) 1 Tryz.underlying46 (hi_2 _))) (h := ?_)
       refine fT (i := 3) (u := (.bool false)) (g := (gives_neq (c2 ((rd2 (seg bs0 96 96)) * (rd2 (seg bs0 96 96)))) (c2 ((((rd2 (seg bs0 0 96)) * (rd2 (seg bs0 0 96))) * (rd2 (seg bs0 0 96))) + (k0))) true (by rfl) (by rfl) (by kernel_rfl) (fun w => eq_2_t (d := 9996) w (by rw [hk0]; exact hf4)))) (h := ?_)
       refine flow_done (by kernel_rfl) ?_
       intro w17 hw17
       refine wp_cond_false (fr_at _ _ (by rfl) _) ?_
       refine wp_skip ?_
       change Code.wp _ _ _ _ _
       refine seq_plain hw17 [0, 1, 2, 3, 4] (by rfl) ?_
       refine L_val (.agg (c2 (rd2 (seg bs0 0 96)))) (by rfl) (by rfl) (gL g4 46 (c2 (rd2 (seg bs0 0 96))) 2 Tryz.underlying46 (hi_2 _)) ?_
       refine L_val (.agg (c2 (rd2 (seg bs0 96 96)))) (by rfl) (by rfl) (gL g6 46 (c2 (rd2 (seg bs0 96 96))) 0 Tryz.underlying46 (hi_2 _)) ?_
       refine L_val (.agg (cg2 (⟨rd2 (seg bs0 0 96), rd2 (seg bs0 96 96)⟩ : Pt F2))) (by rfl) (by rfl) (gb_g2 [(0, (c2 (rd2 (seg bs0 0 96)))), (1, (c2 (rd2 (seg bs0 96 96))))] ⟨congrArg some (c2_size _).symm, congrArg some (c2_size _).symm, trivial⟩ (by rfl) (cg2 (⟨rd2 (seg bs0 0 96), rd2 (seg bs0 96 96)⟩ : Pt F2)) (by rfl)) ?_
       refine L_alloc _ (by rfl) (by rfl) z_g2 (cg2 (0 : Pt F2)) rfl ?_; intro g7
       refine L_store (t := 48) 0 g7 _ _ (by rfl) (by rfl) (by rfl) (by rfl) (by rfl) (hi_g2 _) ((cg2_size _).trans (cg2_size _).symm) (cg2_one _) ?_
       simp only [List.set_cons_zero, List.set_cons_succ]
       refine L_end ?_
       intro w18 hw18
       refine seq_plain hw18 [0, 1, 2, 3, 4, 5, 6, 7, 8, 9, 10, 11, 12, 13, 14, 15, 16, 17, 18, 19, 20] (by rfl) ?_
       refine L_val (.agg (cg2 (⟨rd2 (seg bs0 0 96), rd2 (seg bs0 96 96)⟩ : Pt F2))) (by rfl) (by rfl) (gL g7 48 (cg2 (⟨rd2 (seg bs0 0 96), rd2 (seg bs0 96 96)⟩ : Pt F2)) 0 Tryz.underlying48 (hi_g2 _)) ?_
       refine L_val (.bool false) (by rfl) (by rfl) (gives_call (vl := [.agg (cg2 (⟨rd2 (seg bs0 0 96), rd2 (seg bs0 96 96)⟩ : Pt F2))]) (by kernel_rfl) (by rfl) (fun w h => k2_inn _ w (hG.keep h.below) (hR.keep h.below) (on2_xy hf4) hf5)) ?_
       refine lv (.bool false) (h := ?_)
       refine lS (dj := 107) (h := ?_)
       refine lS (dj := 107) (h := ?_)
       refine lv (.bool false) (h := ?_)
       refine lv (.bool false) (h := ?_)
       refine lS (dj := 111) (h := ?_)
       refine lS (dj := 111) (h := ?_)
       refine lS (dj := 111) (h := ?_)
       refine lv (.bool false) (h := ?_)
       refine lv (.bool false) (h := ?_)
       refine L_val_g (dj := 116) (.agg (cg2 (⟨rd2 (seg bs0 0 96), rd2 (seg bs0 96 96)⟩ : Pt F2))) (by rfl) (by rfl) (by rfl) (by rfl) (by rfl) (gives_load g7 0 48 (cg2 (⟨rd2 (seg bs0 0 96), rd2 (seg bs0 96 96)⟩ : Pt F2)) (cg2 (⟨rd2 (seg bs0 0 96), rd2 (seg bs0 96 96)⟩ : Pt F2)) _ (by rfl) (fun _ h => h.blk 0 (by rfl)) (Sl.refl _) Tryz.underlying48 (by rfl) (hi_g2 _)) ?_
       refine L_val_g (dj := 116) (.bool false) (by rfl) (by rfl) (by rfl) (by rfl) (by rfl) (gives_call (vl := [.agg (cg2 (⟨rd2 (seg bs0 0 96), rd2 (seg bs0 96 96)⟩ : Pt F2))]) (by kernel_rfl) (by rfl) (fun w h => k2_inn _ w (hG.keep h.below) (hR.keep h.below) (on2_xy hf4) hf5)) ?_
       refine L_val_g (dj := 116) (.bool true) (by rfl) (by rfl) (by rfl) (by rfl) (by rfl) gv ?_
       refine L_val_g (dj := 116) (.bool true) (by rfl) (by rfl) (by rfl) (by rfl) (by rfl) gv ?_
       refine L_val_g (dj := 120) (.int .i64 14) (by rfl) (by rfl) (by rfl) (by rfl) (by rfl) gv ?_
       refine L_val_g (dj := 120) (.bool true) (by rfl) (by rfl) (by rfl) (by rfl) (by rfl) (gives_ieq (k := .i64) (14) (14) true (by rfl) (by rfl) (by decide)) ?_
       refine L_val_g (dj := 116) (.bool true) (by rfl) (by rfl) (by rfl) (by rfl) (by rfl) gv ?_
       refine lv (.bool true) (h := ?_)
       refine lv (.bool true) (h := ?_)
       refine L_end ?_
       intro w19 hw19
       refine wp_ret ?_
       change bodyPost _ _ _ Exit.ret _ _
       refine (ret_tmp (by rfl) (by rfl) (by rfl) ⟨rfl, hw19.below⟩)
     ·
      refine L_val (.tuple #[.agg (cg2 (0 : Pt F2)), .int .i64 13]) (by rfl) (by rfl) (gives_call (vl := [.slice (some ⟨g1, 0, none⟩) L0 L0]) (by kernel_rfl) (by rfl) (fun w h => cd_readg2_e _ _ _ _ _ w hl0 ho0 (h.blk 0 (by rfl)).lt (blk_cells (h.blk 0 (by rfl)) hl0) (copy_reads (h.blk 0 (by rfl)) hl0) (Nat.le_refl _) (by omega) (hG.keep h.below) (hR.keep h.below) (hQ.keep h.below) (hU.keep h.below) (rd2 (seg bs0 0 96)) (rd2 (seg bs0 96 96)) 13 (by simp only [pt2, if_neg hB, if_pos hC, if_pos hf0, if_pos hf1, if_pos hf2, if_pos hf3, if_neg hf4]) (by decide))) ?_
      refine lv (.tuple #[.agg (cg2 (0 : Pt F2)), .int .i64 13]) (h := ?_)
      refine L_val (.agg (cg2 (0 : Pt F2))) (by rfl) (by rfl) gk ?_
      refine L_val (.int .i64 13) (by rfl) (by rfl) gk ?_
      refine L_alloc _ (by rfl) (by rfl) z_g2 (cg2 (0 : Pt F2)) rfl ?_; intro g2
      refine L_store (t := 48) 0 g2 _ _ (by rfl) (by rfl) (by rfl) (by rfl) (by rfl) (hi_g2 _) ((cg2_size _).trans (cg2_size _).symm) (cg2_one _) ?_
      simp only [List.set_cons_zero, List.set_cons_succ]
      refine lv (.int .i64 13) (h := ?_)
      refine L_end ?_
      intro w5 hw5
      refine wp_seq ?_
      refine seq_plain hw5 [0, 1, 2, 3, 4, 5, 6, 7, 8, 9, 10, 11, 12] (by rfl) ?_
      refine lv (.slice (some ⟨g1, 0, none⟩) L0 L0) (h := ?_)
      refine lv (.slice (some ⟨b0, o0, none⟩) L0 C0) (h := ?_)
      refine L_val (.bool true) (by rfl) (by rfl) (gives_call (vl := [.slice (some ⟨g1, 0, none⟩) L0 L0, .slice (some ⟨b0, o0, none⟩) L0 C0]) (by kernel_rfl) (by rfl) (fun w h => same_t w _ _ _ L0 _ _ _ bs0 (copy_reads (h.blk 1 (by rfl)) hl0) ((hr0.below h.below).more h.below.size) (by omega))) ?_
      refine lv (.bool false) (h := ?_)
      refine lv (.bool false) (h := ?_)
      refine L_val_g (dj := 33) (.int .i64 13) (by rfl) (by rfl) (by rfl) (by rfl) (by rfl) gv ?_
      refine L_val_g (dj := 33) (.bool true) (by rfl) (by rfl) (by rfl) (by rfl) (by rfl) (gives_ine (k := .i64) (13) (0) true (by rfl) (by rfl) (by decide)) ?_
      refine L_val_g (dj := 33) (.bool true) (by rfl) (by rfl) (by rfl) (by rfl) (by rfl) gv ?_
      refine L_val_g (dj := 36) (.agg (cg2 (0 : Pt F2))) (by rfl) (by rfl) (by rfl) (by rfl) (by rfl) (gives_load g2 0 48 (cg2 (0 : Pt F2)) (cg2 (0 : Pt F2)) _ (by rfl) (fun _ h => h.blk 0 (by rfl)) (Sl.refl _) Tryz.underlying48 (by rfl) (hi_g2 _)) ?_
      refine L_val_g (dj := 36) (.agg (cg2 (0 : Pt F2))) (by rfl) (by rfl) (by rfl) (by rfl) (by rfl) (gb_g2 [] trivial (by rfl) (cg2 (0 : Pt F2)) (by rfl)) ?_
      refine L_val_g (dj := 36) (.bool false) (by rfl) (by rfl) (by rfl) (by rfl) (by rfl) (gives_neq (cg2 (0 : Pt F2)) (cg2 (0 : Pt F2)) true (by rfl) (by rfl) (by kernel_rfl) (fun w => eq_g2_t (d := 9995) w rfl)) ?_
      refine L_val_g (dj := 33) (.bool false) (by rfl) (by rfl) (by rfl) (by rfl) (by rfl) gv ?_
      refine lv (.bool false) (h := ?_)
      refine L_end ?_
      intro w6 hw6
      refine wp_cond_false (fr_at _ _ (by rfl) _) ?_
      refine wp_skip ?_
      change Code.wp _ _ _ _ _
      refine seq_plain hw6 [0, 1, 2, 3, 4, 5, 6] (by rfl) ?_
      refine lv (.slice (some ⟨b0, o0, none⟩) L0 C0) (h := ?_)
      refine L_val (.tuple #[.int .i64 0, .bool false]) (by rfl) (by rfl) (gives_call (vl := [.slice (some ⟨b0, o0, none⟩) L0 C0, .int .i64 96]) (by kernel_rfl) (by rfl) (fun w h => marks2_l_near _ _ _ _ _ w hl0 ho0 (Nat.lt_of_lt_of_le hq0 h.below.size) (fun j hj => (h.below.cell (p := ⟨b0, _, none⟩) hq0).trans (hc0 j hj)) (by omega) hLC hf0 hf1)) ?_
      refine lv (.tuple #[.int .i64 0, .bool false]) (h := ?_)
      refine L_val (.int .i64 0) (by rfl) (by rfl) gk ?_
      refine L_val (.bool false) (by rfl) (by rfl) gk ?_
      refine lv (.int .i64 0) (h := ?_)
      refine lv (.bool false) (h := ?_)
      refine L_end ?_
      intro w7 hw7
      refine wp_seq ?_
      refine seq_plain hw7 [0, 1, 2, 3, 4] (by rfl) ?_
      refine lv (.int .i64 0) (h := ?_)
      refine L_val (.bool false) (by rfl) (by rfl) (gives_ine (k := .i64) (0) (0) false (by rfl) (by rfl) (by decide)) ?_
      refine lv (.bool false) (h := ?_)
      refine L_val_g (dj := 49) (.bool false) (by rfl) (by rfl) (by rfl) (by rfl) (by rfl) gv ?_
      refine lv (.bool false) (h := ?_)
      refine L_end ?_
      intro w8 hw8
      refine wp_cond_false (fr_at _ _ (by rfl) _) ?_
      refine wp_skip ?_
      change Code.wp _ _ _ _ _
      refine seq_plain hw8 [0, 1, 2] (by rfl) ?_
      refine lv (.slice (some ⟨b0, o0, none⟩) L0 C0) (h := ?_)
      refine L_fresh 5 (ag8 bs0) (fun g => .slice (some ⟨g, 0, none⟩) L0 L0) (by rfl) (by rfl) (by kernel_rfl) (by rfl) (fun w h => copy_any w _ L0 _ bs0 ((hr0.below h.below).more h.below.size) (by omega)) ?_; intro g3
      refine lv (.slice (some ⟨g3, 0, none⟩) L0 L0) (h := ?_)
      refine L_end ?_
      intro w9 hw9
      refine seq_plain hw9 [0, 1, 2, 3, 4, 5] (by rfl) ?_
      refine lv (.slice (some ⟨g3, 0, none⟩) L0 L0) (h := ?_)
      refine L_val (.pointer (some ⟨g3, 0 + (0), none⟩)) (by rfl) (by rfl) (gives_index g3 0 (L0) (L0) (0) (0) (by rfl) (by rfl) und_u8s u8_sz (by omega) (by omega)) ?_
      refine L_val (.int .u8 (gt bs0 0)) (by rfl) (by rfl) (gives_load1 g3 (0 + (0)) _ (ag8 bs0) (.int .u8 (gt bs0 0)) (by rfl) (fun _ h => h.blk 0 (by rfl)) (ag8_at bs0 0 (by omega)) und_u8') ?_
      refine L_val (.int .u8 (gt bs0 0 % 32)) (by rfl) (by rfl) (gives_and (k := .u8) (gt bs0 0) 31 (gt bs0 0 % 32) (by rfl) (by rfl) (and_31b _ (gt_oct ho0 _).1 (gt_oct ho0 _).2)) ?_
      refine L_val (.pointer (some ⟨g3, 0 + (0), none⟩)) (by rfl) (by rfl) (gives_index g3 0 (L0) (L0) (0) (0) (by rfl) (by rfl) und_u8s u8_sz (by omega) (by omega)) ?_
      refine L_store1 0 g3 (0 + (0)) _ (ag8 bs0) (.int .u8 (gt bs0 0 % 32)) (by rfl) (by rfl) (by rfl) (by rfl) rfl (by rfl) u8_sz (by rw [ag8_size]; omega) ?_
      simp only [List.set_cons_zero, List.set_cons_succ]
      rw [show (ag8 bs0).setIfInBounds (0 + (0)) (.int .u8 (gt bs0 0 % 32)) = ag8 (cln bs0) from ag8_set _ _ _]
      refine L_end ?_
      intro w10 hw10
      refine seq_plain hw10 [0, 1, 2, 3, 4, 5, 6, 7, 8] (by rfl) ?_
      refine lv (.slice (some ⟨g3, 0, none⟩) L0 L0) (h := ?_)
      refine L_val (.slice (some ⟨g3, 0, none⟩) 96 L0) (by rfl) (by rfl) (gives_slice_to g3 L0 L0 96 (96) (by rfl) (by rfl) und_u8s u8_sz (by omega) (by omega)) ?_
      refine L_val (.tuple #[.agg (c2 (rd2 (seg bs0 0 96))), .int .i64 0]) (by rfl) (by rfl) (gives_call (vl := [.slice (some ⟨g3, 0, none⟩) 96 L0]) (by kernel_rfl) (by rfl) (fun w h => rdok2 (seg bs0 0 96) _ _ _ w (hG.keep h.below) (seg_reads2 (h.blk 0 (by rfl)) hl0 0 96 (by omega)) (seg_oct ho0 _ _) (by omega) hf2)) ?_
      refine lv (.tuple #[.agg (c2 (rd2 (seg bs0 0 96))), .int .i64 0]) (h := ?_)
      refine L_val (.agg (c2 (rd2 (seg bs0 0 96)))) (by rfl) (by rfl) gk ?_
      refine L_val (.int .i64 0) (by rfl) (by rfl) gk ?_
      refine L_alloc _ (by rfl) (by rfl) z_2 (c2 (0 : F2)) rfl ?_; intro g4
      refine L_store (t := 46) 0 g4 _ _ (by rfl) (by rfl) (by rfl) (by rfl) (by rfl) (hi_2 _) ((c2_size _).trans (c2_size _).symm) (c2_one _) ?_
      simp only [List.set_cons_zero, List.set_cons_succ]
      refine lv (.int .i64 0) (h := ?_)
      refine L_end ?_
      intro w11 hw11
      refine wp_seq ?_
      refine seq_plain hw11 [0, 1] (by rfl) ?_
      refine lv (.int .i64 0) (h := ?_)
      refine L_val (.bool false) (by rfl) (by rfl) (gives_ine (k := .i64) (0) (0) false (by rfl) (by rfl) (by decide)) ?_
      refine L_end ?_
      intro w12 hw12
      refine wp_cond_false (fr_at _ _ (by rfl) _) ?_
      refine wp_skip ?_
      change Code.wp _ _ _ _ _
      refine seq_flow (by kernel_rfl) hw12 [] [(g4, 46, (c2 (rd2 (seg bs0 0 96)))), (g3, 5, (ag8 (cln bs0))), (g2, 48, (cg2 (0 : Pt F2))), (g1, 5, (ag8 bs0))] 8 (by rfl) ?_
      refine fT (i := 0) (g := (gL g4 46 (c2 (rd2 (seg bs0 0 96))) 0 Tryz.underlying46 (hi_2 _))) (h := ?_)
      refine fT (i := 1) (g := (gives_call (vl := [.agg (c2 (rd2 (seg bs0 0 96)))]) (by kernel_rfl) (by rfl) (fun w h => q_square _ w (hG.keep h.below)))) (h := ?_)
      refine fT (i := 2) (g := (gL g4 46 (c2 (rd2 (seg bs0 0 96))) 0 Tryz.underlying46 (hi_2 _))) (h := ?_)
      refine fT (i := 3) (g := (gives_call (vl := [.agg (c2 ((rd2 (seg bs0 0 96)) * (rd2 (seg bs0 0 96)))), .agg (c2 (rd2 (seg bs0 0 96)))]) (by kernel_rfl) (by rfl) (fun w h => q_mul _ _ w (hG.keep h.below)))) (h := ?_)
      refine fT (i := 4) (u := (.agg (c2 (k0)))) (g := (gives_call (vl := [.int .u64 4, .int .u64 4]) (by kernel_rfl) (by rfl) (fun w h => by rw [hk0]; exact q_small _ _ w (hG.keep h.below) (by omega) (by simp only [Wd]; omega) (by omega) (by simp only [Wd]; omega)))) (h := ?_)
      refine fT (i := 5) (g := (gives_call (vl := [.agg (c2 (((rd2 (seg bs0 0 96)) * (rd2 (seg bs0 0 96))) * (rd2 (seg bs0 0 96)))), .agg (c2 (k0))]) (by kernel_rfl) (by rfl) (fun w h => q_add _ _ w (hG.keep h.below)))) (h := ?_)
      refine flow_one 6 (by kernel_rfl) ?_
      refine F_alloc _ (by rfl) (by rfl) z_2 (c2 (0 : F2)) rfl (List.Sublist.refl _) ?_; intro g5
      refine flow_one 7 (by kernel_rfl) ?_
      refine F_store (t := 46) 0 g5 _ _ (by rfl) (by rfl) (by rfl) (by rfl) (by rfl) (hi_2 _) ((c2_size _).trans (c2_size _).symm) (c2_one _) (.inr (List.Sublist.cons _ (List.Sublist.refl _))) ?_
      simp only [List.set_cons_zero, List.set_cons_succ]
      refine flow_done (by kernel_rfl) ?_
      intro w13 hw13
      refine wp_seq ?_
      refine seq_plain hw13 [0, 1, 2] (by rfl) ?_
      refine lv (.slice (some ⟨b0, o0, none⟩) L0 C0) (h := ?_)
      refine L_val (.int .i64 (L0 : Int)) (by rfl) (by rfl) (gives_len _ L0 C0 und_u8s (by rfl)) ?_
      refine L_val (.bool true) (by rfl) (by rfl) (gives_ieq (k := .i64) ((L0 : Int)) (192) true (by rfl) (by rfl) (decide_eq_true (by omega))) ?_
      refine L_end ?_
      intro w14 hw14
      refine wp_cond_true (fr_at _ _ (by rfl) _) ?_
      refine seq_plain hw14 [0, 1, 2, 3, 4, 5, 6, 7, 8] (by rfl) ?_
      refine lv (.slice (some ⟨g3, 0, none⟩) L0 L0) (h := ?_)
      refine L_val (.slice (some ⟨g3, 0 + 96, none⟩) 96 (L0 - 96)) (by rfl) (by rfl) (gives_slice_fromQ g3 (0) L0 L0 96 96 96 (by rfl) (by rfl) und_u8s u8_sz (by rfl) (by omega) (by omega) (by omega)) ?_
      refine L_val (.tuple #[.agg (c2 (rd2 (seg bs0 96 96))), .int .i64 0]) (by rfl) (by rfl) (gives_call (vl := [.slice (some ⟨g3, 0 + 96, none⟩) 96 (L0 - 96)]) (by kernel_rfl) (by rfl) (fun w h => rdok2 (seg bs0 96 96) _ _ _ w (hG.keep h.below) (seg_reads2 (h.blk 2 (by rfl)) hl0 96 96 (by omega)) (seg_oct ho0 _ _) (by omega) hf3)) ?_
      refine lv (.tuple #[.agg (c2 (rd2 (seg bs0 96 96))), .int .i64 0]) (h := ?_)
      refine L_val (.agg (c2 (rd2 (seg bs0 96 96)))) (by rfl) (by rfl) gk ?_
      refine L_val (.int .i64 0) (by rfl) (by rfl) gk ?_
      refine L_alloc _ (by rfl) (by rfl) z_2 (c2 (0 : F2)) rfl ?_; intro g6
      refine L_store (t := 46) 0 g6 _ _ (by rfl) (by rfl) (by rfl) (by rfl) (by rfl) (hi_2 _) ((c2_size _).trans (c2_size _).symm) (c2_one _) ?_
      simp only [List.set_cons_zero, List.set_cons_succ]
      refine lv (.int .i64 0) (h := ?_)
      refine L_end ?_
      intro w15 hw15
      refine wp_seq ?_
      refine seq_plain hw15 [0, 1] (by rfl) ?_
      refine lv (.int .i64 0) (h := ?_)
      refine L_val (.bool false) (by rfl) (by rfl) (gives_ine (k := .i64) (0) (0) false (by rfl) (by rfl) (by decide)) ?_
      refine L_end ?_
      intro w16 hw16
      refine wp_cond_false (fr_at _ _ (by rfl) _) ?_
      refine wp_skip ?_
      change Code.wp _ _ _ _ _
      refine wp_seq ?_
      refine seq_flow (by kernel_rfl) hw16 [] [(g6, 46, (c2 (rd2 (seg bs0 96 96)))), (g5, 46, (c2 ((((rd2 (seg bs0 0 96)) * (rd2 (seg bs0 0 96))) * (rd2 (seg bs0 0 96))) + (k0)))), (g4, 46, (c2 (rd2 (seg bs0 0 96)))), (g3, 5, (ag8 (cln bs0))), (g2, 48, (cg2 (0 : Pt F2))), (g1, 5, (ag8 bs0))] 4 (by rfl) ?_
      refine fT (i := 0) (g := (gL g6 46 (c2 (rd2 (seg bs0 96 96))) 0 Tryz.underlying46 (hi_2 _))) (h := ?_)
      refine fT (i := 1) (g := (gives_call (vl := [.agg (c2 (rd2 (seg bs0 96 96)))]) (by kernel_rfl) (by rfl) (fun w h => q_square _ w (hG.keep h.below)))) (h := ?_)
      refine fT (i := 2) (g := (gL g5 46 (c2 ((((rd2 (seg bs0 0 96)) * (rd2 (seg bs0 0 96))) * (rd2 (seg bs0 0 96))) + (k0))) 1 Tryz.underlying46 (hi_2 _))) (h := ?_)
      refine fT (i := 3) (u := (.bool true)) (g := (gives_neq (c2 ((rd2 (seg bs0 96 96)) * (rd2 (seg bs0 96 96)))) (c2 ((((rd2 (seg bs0 0 96)) * (rd2 (seg bs0 0 96))) * (rd2 (seg bs0 0 96))) + (k0))) false (by rfl) (by rfl) (by kernel_rfl) (fun w => eq_2_f (d := 9996) w (by rw [hk0]; exact hf4)))) (h := ?_)
      refine flow_done (by kernel_rfl) ?_
      intro w17 hw17
      refine wp_cond_true (fr_at _ _ (by rfl) _) ?_
      refine seq_plain hw17 [0, 1, 2] (by rfl) ?_
      refine lv (.int .i64 13) (h := ?_)
      refine L_val (.bool true) (by rfl) (by rfl) (gives_ieq (k := .i64) (13) (13) true (by rfl) (by rfl) (by decide)) ?_
      refine lv (.bool true) (h := ?_)
      refine L_end ?_
      intro w18 hw18
      refine wp_ret ?_
      change bodyPost _ _ _ Exit.ret _ _
      refine (ret_tmp (by rfl) (by rfl) (by rfl) ⟨rfl, hw18.below⟩)
    ·
     refine L_val (.tuple #[.agg (cg2 (0 : Pt F2)), .int .i64 12]) (by rfl) (by rfl) (gives_call (vl := [.slice (some ⟨g1, 0, none⟩) L0 L0]) (by kernel_rfl) (by rfl) (fun w h => cd_readg2_e _ _ _ _ _ w hl0 ho0 (h.blk 0 (by rfl)).lt (blk_cells (h.blk 0 (by rfl)) hl0) (copy_reads (h.blk 0 (by rfl)) hl0) (Nat.le_refl _) (by omega) (hG.keep h.below) (hR.keep h.below) (hQ.keep h.below) (hU.keep h.below) (rd2 (seg bs0 0 96)) (0 : F2) 12 (by simp only [pt2, if_neg hB, if_pos hC, if_pos hf0, if_pos hf1, if_pos hf2, if_neg hf3]) (by decide))) ?_
     refine lv (.tuple #[.agg (cg2 (0 : Pt F2)), .int .i64 12]) (h := ?_)
     refine L_val (.agg (cg2 (0 : Pt F2))) (by rfl) (by rfl) gk ?_
     refine L_val (.int .i64 12) (by rfl) (by rfl) gk ?_
     refine L_alloc _ (by rfl) (by rfl) z_g2 (cg2 (0 : Pt F2)) rfl ?_; intro g2
     refine L_store (t := 48) 0 g2 _ _ (by rfl) (by rfl) (by rfl) (by rfl) (by rfl) (hi_g2 _) ((cg2_size _).trans (cg2_size _).symm) (cg2_one _) ?_
     simp only [List.set_cons_zero, List.set_cons_succ]
     refine lv (.int .i64 12) (h := ?_)
     refine L_end ?_
     intro w5 hw5
     refine wp_seq ?_
     refine seq_plain hw5 [0, 1, 2, 3, 4, 5, 6, 7, 8, 9, 10, 11, 12] (by rfl) ?_
     refine lv (.slice (some ⟨g1, 0, none⟩) L0 L0) (h := ?_)
     refine lv (.slice (some ⟨b0, o0, none⟩) L0 C0) (h := ?_)
     refine L_val (.bool true) (by rfl) (by rfl) (gives_call (vl := [.slice (some ⟨g1, 0, none⟩) L0 L0, .slice (some ⟨b0, o0, none⟩) L0 C0]) (by kernel_rfl) (by rfl) (fun w h => same_t w _ _ _ L0 _ _ _ bs0 (copy_reads (h.blk 1 (by rfl)) hl0) ((hr0.below h.below).more h.below.size) (by omega))) ?_
     refine lv (.bool false) (h := ?_)
     refine lv (.bool false) (h := ?_)
     refine L_val_g (dj := 33) (.int .i64 12) (by rfl) (by rfl) (by rfl) (by rfl) (by rfl) gv ?_
     refine L_val_g (dj := 33) (.bool true) (by rfl) (by rfl) (by rfl) (by rfl) (by rfl) (gives_ine (k := .i64) (12) (0) true (by rfl) (by rfl) (by decide)) ?_
     refine L_val_g (dj := 33) (.bool true) (by rfl) (by rfl) (by rfl) (by rfl) (by rfl) gv ?_
     refine L_val_g (dj := 36) (.agg (cg2 (0 : Pt F2))) (by rfl) (by rfl) (by rfl) (by rfl) (by rfl) (gives_load g2 0 48 (cg2 (0 : Pt F2)) (cg2 (0 : Pt F2)) _ (by rfl) (fun _ h => h.blk 0 (by rfl)) (Sl.refl _) Tryz.underlying48 (by rfl) (hi_g2 _)) ?_
     refine L_val_g (dj := 36) (.agg (cg2 (0 : Pt F2))) (by rfl) (by rfl) (by rfl) (by rfl) (by rfl) (gb_g2 [] trivial (by rfl) (cg2 (0 : Pt F2)) (by rfl)) ?_
     refine L_val_g (dj := 36) (.bool false) (by rfl) (by rfl) (by rfl) (by rfl) (by rfl) (gives_neq (cg2 (0 : Pt F2)) (cg2 (0 : Pt F2)) true (by rfl) (by rfl) (by kernel_rfl) (fun w => eq_g2_t (d := 9995) w rfl)) ?_
     refine L_val_g (dj := 33) (.bool false) (by rfl) (by rfl) (by rfl) (by rfl) (by rfl) gv ?_
     refine lv (.bool false) (h := ?_)
     refine L_end ?_
     intro w6 hw6
     refine wp_cond_false (fr_at _ _ (by rfl) _) ?_
     refine wp_skip ?_
     change Code.wp _ _ _ _ _
     refine seq_plain hw6 [0, 1, 2, 3, 4, 5, 6] (by rfl) ?_
     refine lv (.slice (some ⟨b0, o0, none⟩) L0 C0) (h := ?_)
     refine L_val (.tuple #[.int .i64 0, .bool false]) (by rfl) (by rfl) (gives_call (vl := [.slice (some ⟨b0, o0, none⟩) L0 C0, .int .i64 96]) (by kernel_rfl) (by rfl) (fun w h => marks2_l_near _ _ _ _ _ w hl0 ho0 (Nat.lt_of_lt_of_le hq0 h.below.size) (fun j hj => (h.below.cell (p := ⟨b0, _, none⟩) hq0).trans (hc0 j hj)) (by omega) hLC hf0 hf1)) ?_
     refine lv (.tuple #[.int .i64 0, .bool false]) (h := ?_)
     refine L_val (.int .i64 0) (by rfl) (by rfl) gk ?_
     refine L_val (.bool false) (by rfl) (by rfl) gk ?_
     refine lv (.int .i64 0) (h := ?_)
     refine lv (.bool false) (h := ?_)
     refine L_end ?_
     intro w7 hw7
     refine wp_seq ?_
     refine seq_plain hw7 [0, 1, 2, 3, 4] (by rfl) ?_
     refine lv (.int .i64 0) (h := ?_)
     refine L_val (.bool false) (by rfl) (by rfl) (gives_ine (k := .i64) (0) (0) false (by rfl) (by rfl) (by decide)) ?_
     refine lv (.bool false) (h := ?_)
     refine L_val_g (dj := 49) (.bool false) (by rfl) (by rfl) (by rfl) (by rfl) (by rfl) gv ?_
     refine lv (.bool false) (h := ?_)
     refine L_end ?_
     intro w8 hw8
     refine wp_cond_false (fr_at _ _ (by rfl) _) ?_
     refine wp_skip ?_
     change Code.wp _ _ _ _ _
     refine seq_plain hw8 [0, 1, 2] (by rfl) ?_
     refine lv (.slice (some ⟨b0, o0, none⟩) L0 C0) (h := ?_)
     refine L_fresh 5 (ag8 bs0) (fun g => .slice (some ⟨g, 0, none⟩) L0 L0) (by rfl) (by rfl) (by kernel_rfl) (by rfl) (fun w h => copy_any w _ L0 _ bs0 ((hr0.below h.below).more h.below.size) (by omega)) ?_; intro g3
     refine lv (.slice (some ⟨g3, 0, none⟩) L0 L0) (h := ?_)
     refine L_end ?_
     intro w9 hw9
     refine seq_plain hw9 [0, 1, 2, 3, 4, 5] (by rfl) ?_
     refine lv (.slice (some ⟨g3, 0, none⟩) L0 L0) (h := ?_)
     refine L_val (.pointer (some ⟨g3, 0 + (0), none⟩)) (by rfl) (by rfl) (gives_index g3 0 (L0) (L0) (0) (0) (by rfl) (by rfl) und_u8s u8_sz (by omega) (by omega)) ?_
     refine L_val (.int .u8 (gt bs0 0)) (by rfl) (by rfl) (gives_load1 g3 (0 + (0)) _ (ag8 bs0) (.int .u8 (gt bs0 0)) (by rfl) (fun _ h => h.blk 0 (by rfl)) (ag8_at bs0 0 (by omega)) und_u8') ?_
     refine L_val (.int .u8 (gt bs0 0 % 32)) (by rfl) (by rfl) (gives_and (k := .u8) (gt bs0 0) 31 (gt bs0 0 % 32) (by rfl) (by rfl) (and_31b _ (gt_oct ho0 _).1 (gt_oct ho0 _).2)) ?_
     refine L_val (.pointer (some ⟨g3, 0 + (0), none⟩)) (by rfl) (by rfl) (gives_index g3 0 (L0) (L0) (0) (0) (by rfl) (by rfl) und_u8s u8_sz (by omega) (by omega)) ?_
     refine L_store1 0 g3 (0 + (0)) _ (ag8 bs0) (.int .u8 (gt bs0 0 % 32)) (by rfl) (by rfl) (by rfl) (by rfl) rfl (by rfl) u8_sz (by rw [ag8_size]; omega) ?_
     simp only [List.set_cons_zero, List.set_cons_succ]
     rw [show (ag8 bs0).setIfInBounds (0 + (0)) (.int .u8 (gt bs0 0 % 32)) = ag8 (cln bs0) from ag8_set _ _ _]
     refine L_end ?_
     intro w10 hw10
     refine seq_plain hw10 [0, 1, 2, 3, 4, 5, 6, 7, 8] (by rfl) ?_
     refine lv (.slice (some ⟨g3, 0, none⟩) L0 L0) (h := ?_)
     refine L_val (.slice (some ⟨g3, 0, none⟩) 96 L0) (by rfl) (by rfl) (gives_slice_to g3 L0 L0 96 (96) (by rfl) (by rfl) und_u8s u8_sz (by omega) (by omega)) ?_
     refine L_val (.tuple #[.agg (c2 (rd2 (seg bs0 0 96))), .int .i64 0]) (by rfl) (by rfl) (gives_call (vl := [.slice (some ⟨g3, 0, none⟩) 96 L0]) (by kernel_rfl) (by rfl) (fun w h => rdok2 (seg bs0 0 96) _ _ _ w (hG.keep h.below) (seg_reads2 (h.blk 0 (by rfl)) hl0 0 96 (by omega)) (seg_oct ho0 _ _) (by omega) hf2)) ?_
     refine lv (.tuple #[.agg (c2 (rd2 (seg bs0 0 96))), .int .i64 0]) (h := ?_)
     refine L_val (.agg (c2 (rd2 (seg bs0 0 96)))) (by rfl) (by rfl) gk ?_
     refine L_val (.int .i64 0) (by rfl) (by rfl) gk ?_
     refine L_alloc _ (by rfl) (by rfl) z_2 (c2 (0 : F2)) rfl ?_; intro g4
     refine L_store (t := 46) 0 g4 _ _ (by rfl) (by rfl) (by rfl) (by rfl) (by rfl) (hi_2 _) ((c2_size _).trans (c2_size _).symm) (c2_one _) ?_
     simp only [List.set_cons_zero, List.set_cons_succ]
     refine lv (.int .i64 0) (h := ?_)
     refine L_end ?_
     intro w11 hw11
     refine wp_seq ?_
     refine seq_plain hw11 [0, 1] (by rfl) ?_
     refine lv (.int .i64 0) (h := ?_)
     refine L_val (.bool false) (by rfl) (by rfl) (gives_ine (k := .i64) (0) (0) false (by rfl) (by rfl) (by decide)) ?_
     refine L_end ?_
     intro w12 hw12
     refine wp_cond_false (fr_at _ _ (by rfl) _) ?_
     refine wp_skip ?_
     change Code.wp _ _ _ _ _
     refine seq_flow (by kernel_rfl) hw12 [] [(g4, 46, (c2 (rd2 (seg bs0 0 96)))), (g3, 5, (ag8 (cln bs0))), (g2, 48, (cg2 (0 : Pt F2))), (g1, 5, (ag8 bs0))] 8 (by rfl) ?_
     refine fT (i := 0) (g := (gL g4 46 (c2 (rd2 (seg bs0 0 96))) 0 Tryz.underlying46 (hi_2 _))) (h := ?_)
     refine fT (i := 1) (g := (gives_call (vl := [.agg (c2 (rd2 (seg bs0 0 96)))]) (by kernel_rfl) (by rfl) (fun w h => q_square _ w (hG.keep h.below)))) (h := ?_)
     refine fT (i := 2) (g := (gL g4 46 (c2 (rd2 (seg bs0 0 96))) 0 Tryz.underlying46 (hi_2 _))) (h := ?_)
     refine fT (i := 3) (g := (gives_call (vl := [.agg (c2 ((rd2 (seg bs0 0 96)) * (rd2 (seg bs0 0 96)))), .agg (c2 (rd2 (seg bs0 0 96)))]) (by kernel_rfl) (by rfl) (fun w h => q_mul _ _ w (hG.keep h.below)))) (h := ?_)
     refine fT (i := 4) (u := (.agg (c2 (k0)))) (g := (gives_call (vl := [.int .u64 4, .int .u64 4]) (by kernel_rfl) (by rfl) (fun w h => by rw [hk0]; exact q_small _ _ w (hG.keep h.below) (by omega) (by simp only [Wd]; omega) (by omega) (by simp only [Wd]; omega)))) (h := ?_)
     refine fT (i := 5) (g := (gives_call (vl := [.agg (c2 (((rd2 (seg bs0 0 96)) * (rd2 (seg bs0 0 96))) * (rd2 (seg bs0 0 96)))), .agg (c2 (k0))]) (by kernel_rfl) (by rfl) (fun w h => q_add _ _ w (hG.keep h.below)))) (h := ?_)
     refine flow_one 6 (by kernel_rfl) ?_
     refine F_alloc _ (by rfl) (by rfl) z_2 (c2 (0 : F2)) rfl (List.Sublist.refl _) ?_; intro g5
     refine flow_one 7 (by kernel_rfl) ?_
     refine F_store (t := 46) 0 g5 _ _ (by rfl) (by rfl) (by rfl) (by rfl) (by rfl) (hi_2 _) ((c2_size _).trans (c2_size _).symm) (c2_one _) (.inr (List.Sublist.cons _ (List.Sublist.refl _))) ?_
     simp only [List.set_cons_zero, List.set_cons_succ]
     refine flow_done (by kernel_rfl) ?_
     intro w13 hw13
     refine wp_seq ?_
     refine seq_plain hw13 [0, 1, 2] (by rfl) ?_
     refine lv (.slice (some ⟨b0, o0, none⟩) L0 C0) (h := ?_)
     refine L_val (.int .i64 (L0 : Int)) (by rfl) (by rfl) (gives_len _ L0 C0 und_u8s (by rfl)) ?_
     refine L_val (.bool true) (by rfl) (by rfl) (gives_ieq (k := .i64) ((L0 : Int)) (192) true (by rfl) (by rfl) (decide_eq_true (by omega))) ?_
     refine L_end ?_
     intro w14 hw14
     refine wp_cond_true (fr_at _ _ (by rfl) _) ?_
     refine seq_plain hw14 [0, 1, 2, 3, 4, 5, 6, 7, 8] (by rfl) ?_
     refine lv (.slice (some ⟨g3, 0, none⟩) L0 L0) (h := ?_)
     refine L_val (.slice (some ⟨g3, 0 + 96, none⟩) 96 (L0 - 96)) (by rfl) (by rfl) (gives_slice_fromQ g3 (0) L0 L0 96 96 96 (by rfl) (by rfl) und_u8s u8_sz (by rfl) (by omega) (by omega) (by omega)) ?_
     refine L_val (.tuple #[.agg (c2 (0 : F2)), .int .i64 12]) (by rfl) (by rfl) (gives_call (vl := [.slice (some ⟨g3, 0 + 96, none⟩) 96 (L0 - 96)]) (by kernel_rfl) (by rfl) (fun w h => rdno2 (seg bs0 96 96) _ _ _ w (hG.keep h.below) (seg_reads2 (h.blk 2 (by rfl)) hl0 96 96 (by omega)) (seg_oct ho0 _ _) (by omega) hf3)) ?_
     refine lv (.tuple #[.agg (c2 (0 : F2)), .int .i64 12]) (h := ?_)
     refine L_val (.agg (c2 (0 : F2))) (by rfl) (by rfl) gk ?_
     refine L_val (.int .i64 12) (by rfl) (by rfl) gk ?_
     refine L_alloc _ (by rfl) (by rfl) z_2 (c2 (0 : F2)) rfl ?_; intro g6
     refine L_store (t := 46) 0 g6 _ _ (by rfl) (by rfl) (by rfl) (by rfl) (by rfl) (hi_2 _) ((c2_size _).trans (c2_size _).symm) (c2_one _) ?_
     simp only [List.set_cons_zero, List.set_cons_succ]
     refine lv (.int .i64 12) (h := ?_)
     refine L_end ?_
     intro w15 hw15
     refine wp_seq ?_
     refine seq_plain hw15 [0, 1] (by rfl) ?_
     refine lv (.int .i64 12) (h := ?_)
     refine L_val (.bool true) (by rfl) (by rfl) (gives_ine (k := .i64) (12) (0) true (by rfl) (by rfl) (by decide)) ?_
     refine L_end ?_
     intro w16 hw16
     refine wp_cond_true (fr_at _ _ (by rfl) _) ?_
     refine seq_plain hw16 [0, 1, 2] (by rfl) ?_
     refine lv (.int .i64 12) (h := ?_)
     refine L_val (.bool true) (by rfl) (by rfl) (gives_ieq (k := .i64) (12) (12) true (by rfl) (by rfl) (by decide)) ?_
     refine lv (.bool true) (h := ?_)
     refine L_end ?_
     intro w17 hw17
     refine wp_ret ?_
     change bodyPost _ _ _ Exit.ret _ _
     refine (ret_tmp (by rfl) (by rfl) (by rfl) ⟨rfl, hw17.below⟩)
   ·
    refine L_val (.tuple #[.agg (cg2 (0 : Pt F2)), .int .i64 12]) (by rfl) (by rfl) (gives_call (vl := [.slice (some ⟨g1, 0, none⟩) L0 L0]) (by kernel_rfl) (by rfl) (fun w h => cd_readg2_e _ _ _ _ _ w hl0 ho0 (h.blk 0 (by rfl)).lt (blk_cells (h.blk 0 (by rfl)) hl0) (copy_reads (h.blk 0 (by rfl)) hl0) (Nat.le_refl _) (by omega) (hG.keep h.below) (hR.keep h.below) (hQ.keep h.below) (hU.keep h.below) (0 : F2) (0 : F2) 12 (by simp only [pt2, if_neg hB, if_pos hC, if_pos hf0, if_pos hf1, if_neg hf2]) (by decide))) ?_
    refine lv (.tuple #[.agg (cg2 (0 : Pt F2)), .int .i64 12]) (h := ?_)
    refine L_val (.agg (cg2 (0 : Pt F2))) (by rfl) (by rfl) gk ?_
    refine L_val (.int .i64 12) (by rfl) (by rfl) gk ?_
    refine L_alloc _ (by rfl) (by rfl) z_g2 (cg2 (0 : Pt F2)) rfl ?_; intro g2
    refine L_store (t := 48) 0 g2 _ _ (by rfl) (by rfl) (by rfl) (by rfl) (by rfl) (hi_g2 _) ((cg2_size _).trans (cg2_size _).symm) (cg2_one _) ?_
    simp only [List.set_cons_zero, List.set_cons_succ]
    refine lv (.int .i64 12) (h := ?_)
    refine L_end ?_
    intro w5 hw5
    refine wp_seq ?_
    refine seq_plain hw5 [0, 1, 2, 3, 4, 5, 6, 7, 8, 9, 10, 11, 12] (by rfl) ?_
    refine lv (.slice (some ⟨g1, 0, none⟩) L0 L0) (h := ?_)
    refine lv (.slice (some ⟨b0, o0, none⟩) L0 C0) (h := ?_)
    refine L_val (.bool true) (by rfl) (by rfl) (gives_call (vl := [.slice (some ⟨g1, 0, none⟩) L0 L0, .slice (some ⟨b0, o0, none⟩) L0 C0]) (by kernel_rfl) (by rfl) (fun w h => same_t w _ _ _ L0 _ _ _ bs0 (copy_reads (h.blk 1 (by rfl)) hl0) ((hr0.below h.below).more h.below.size) (by omega))) ?_
    refine lv (.bool false) (h := ?_)
    refine lv (.bool false) (h := ?_)
    refine L_val_g (dj := 33) (.int .i64 12) (by rfl) (by rfl) (by rfl) (by rfl) (by rfl) gv ?_
    refine L_val_g (dj := 33) (.bool true) (by rfl) (by rfl) (by rfl) (by rfl) (by rfl) (gives_ine (k := .i64) (12) (0) true (by rfl) (by rfl) (by decide)) ?_
    refine L_val_g (dj := 33) (.bool true) (by rfl) (by rfl) (by rfl) (by rfl) (by rfl) gv ?_
    refine L_val_g (dj := 36) (.agg (cg2 (0 : Pt F2))) (by rfl) (by rfl) (by rfl) (by rfl) (by rfl) (gives_load g2 0 48 (cg2 (0 : Pt F2)) (cg2 (0 : Pt F2)) _ (by rfl) (fun _ h => h.blk 0 (by rfl)) (Sl.refl _) Tryz.underlying48 (by rfl) (hi_g2 _)) ?_
    refine L_val_g (dj := 36) (.agg (cg2 (0 : Pt F2))) (by rfl) (by rfl) (by rfl) (by rfl) (by rfl) (gb_g2 [] trivial (by rfl) (cg2 (0 : Pt F2)) (by rfl)) ?_
    refine L_val_g (dj := 36) (.bool false) (by rfl) (by rfl) (by rfl) (by rfl) (by rfl) (gives_neq (cg2 (0 : Pt F2)) (cg2 (0 : Pt F2)) true (by rfl) (by rfl) (by kernel_rfl) (fun w => eq_g2_t (d := 9995) w rfl)) ?_
    refine L_val_g (dj := 33) (.bool false) (by rfl) (by rfl) (by rfl) (by rfl) (by rfl) gv ?_
    refine lv (.bool false) (h := ?_)
    refine L_end ?_
    intro w6 hw6
    refine wp_cond_false (fr_at _ _ (by rfl) _) ?_
    refine wp_skip ?_
    change Code.wp _ _ _ _ _
    refine seq_plain hw6 [0, 1, 2, 3, 4, 5, 6] (by rfl) ?_
    refine lv (.slice (some ⟨b0, o0, none⟩) L0 C0) (h := ?_)
    refine L_val (.tuple #[.int .i64 0, .bool false]) (by rfl) (by rfl) (gives_call (vl := [.slice (some ⟨b0, o0, none⟩) L0 C0, .int .i64 96]) (by kernel_rfl) (by rfl) (fun w h => marks2_l_near _ _ _ _ _ w hl0 ho0 (Nat.lt_of_lt_of_le hq0 h.below.size) (fun j hj => (h.below.cell (p := ⟨b0, _, none⟩) hq0).trans (hc0 j hj)) (by omega) hLC hf0 hf1)) ?_
    refine lv (.tuple #[.int .i64 0, .bool false]) (h := ?_)
    refine L_val (.int .i64 0) (by rfl) (by rfl) gk ?_
    refine L_val (.bool false) (by rfl) (by rfl) gk ?_
    refine lv (.int .i64 0) (h := ?_)
    refine lv (.bool false) (h := ?_)
    refine L_end ?_
    intro w7 hw7
    refine wp_seq ?_
    refine seq_plain hw7 [0, 1, 2, 3, 4] (by rfl) ?_
    refine lv (.int .i64 0) (h := ?_)
    refine L_val (.bool false) (by rfl) (by rfl) (gives_ine (k := .i64) (0) (0) false (by rfl) (by rfl) (by decide)) ?_
    refine lv (.bool false) (h := ?_)
    refine L_val_g (dj := 49) (.bool false) (by rfl) (by rfl) (by rfl) (by rfl) (by rfl) gv ?_
    refine lv (.bool false) (h := ?_)
    refine L_end ?_
    intro w8 hw8
    refine wp_cond_false (fr_at _ _ (by rfl) _) ?_
    refine wp_skip ?_
    change Code.wp _ _ _ _ _
    refine seq_plain hw8 [0, 1, 2] (by rfl) ?_
    refine lv (.slice (some ⟨b0, o0, none⟩) L0 C0) (h := ?_)
    refine L_fresh 5 (ag8 bs0) (fun g => .slice (some ⟨g, 0, none⟩) L0 L0) (by rfl) (by rfl) (by kernel_rfl) (by rfl) (fun w h => copy_any w _ L0 _ bs0 ((hr0.below h.below).more h.below.size) (by omega)) ?_; intro g3
    refine lv (.slice (some ⟨g3, 0, none⟩) L0 L0) (h := ?_)
    refine L_end ?_
    intro w9 hw9
    refine seq_plain hw9 [0, 1, 2, 3, 4, 5] (by rfl) ?_
    refine lv (.slice (some ⟨g3, 0, none⟩) L0 L0) (h := ?_)
    refine L_val (.pointer (some ⟨g3, 0 + (0), none⟩)) (by rfl) (by rfl) (gives_index g3 0 (L0) (L0) (0) (0) (by rfl) (by rfl) und_u8s u8_sz (by omega) (by omega)) ?_
    refine L_val (.int .u8 (gt bs0 0)) (by rfl) (by rfl) (gives_load1 g3 (0 + (0)) _ (ag8 bs0) (.int .u8 (gt bs0 0)) (by rfl) (fun _ h => h.blk 0 (by rfl)) (ag8_at bs0 0 (by omega)) und_u8') ?_
    refine L_val (.int .u8 (gt bs0 0 % 32)) (by rfl) (by rfl) (gives_and (k := .u8) (gt bs0 0) 31 (gt bs0 0 % 32) (by rfl) (by rfl) (and_31b _ (gt_oct ho0 _).1 (gt_oct ho0 _).2)) ?_
    refine L_val (.pointer (some ⟨g3, 0 + (0), none⟩)) (by rfl) (by rfl) (gives_index g3 0 (L0) (L0) (0) (0) (by rfl) (by rfl) und_u8s u8_sz (by omega) (by omega)) ?_
    refine L_store1 0 g3 (0 + (0)) _ (ag8 bs0) (.int .u8 (gt bs0 0 % 32)) (by rfl) (by rfl) (by rfl) (by rfl) rfl (by rfl) u8_sz (by rw [ag8_size]; omega) ?_
    simp only [List.set_cons_zero, List.set_cons_succ]
    rw [show (ag8 bs0).setIfInBounds (0 + (0)) (.int .u8 (gt bs0 0 % 32)) = ag8 (cln bs0) from ag8_set _ _ _]
    refine L_end ?_
    intro w10 hw10
    refine seq_plain hw10 [0, 1, 2, 3, 4, 5, 6, 7, 8] (by rfl) ?_
    refine lv (.slice (some ⟨g3, 0, none⟩) L0 L0) (h := ?_)
    refine L_val (.slice (some ⟨g3, 0, none⟩) 96 L0) (by rfl) (by rfl) (gives_slice_to g3 L0 L0 96 (96) (by rfl) (by rfl) und_u8s u8_sz (by omega) (by omega)) ?_
    refine L_val (.tuple #[.agg (c2 (0 : F2)), .int .i64 12]) (by rfl) (by rfl) (gives_call (vl := [.slice (some ⟨g3, 0, none⟩) 96 L0]) (by kernel_rfl) (by rfl) (fun w h => rdno2 (seg bs0 0 96) _ _ _ w (hG.keep h.below) (seg_reads2 (h.blk 0 (by rfl)) hl0 0 96 (by omega)) (seg_oct ho0 _ _) (by omega) hf2)) ?_
    refine lv (.tuple #[.agg (c2 (0 : F2)), .int .i64 12]) (h := ?_)
    refine L_val (.agg (c2 (0 : F2))) (by rfl) (by rfl) gk ?_
    refine L_val (.int .i64 12) (by rfl) (by rfl) gk ?_
    refine L_alloc _ (by rfl) (by rfl) z_2 (c2 (0 : F2)) rfl ?_; intro g4
    refine L_store (t := 46) 0 g4 _ _ (by rfl) (by rfl) (by rfl) (by rfl) (by rfl) (hi_2 _) ((c2_size _).trans (c2_size _).symm) (c2_one _) ?_
    simp only [List.set_cons_zero, List.set_cons_succ]
    refine lv (.int .i64 12) (h := ?_)
    refine L_end ?_
    intro w11 hw11
    refine wp_seq ?_
    refine seq_plain hw11 [0, 1] (by rfl) ?_
    refine lv (.int .i64 12) (h := ?_)
    refine L_val (.bool true) (by rfl) (by rfl) (gives_ine (k := .i64) (12) (0) true (by rfl) (by rfl) (by decide)) ?_
    refine L_end ?_
    intro w12 hw12
    refine wp_cond_true (fr_at _ _ (by rfl) _) ?_
    refine seq_plain hw12 [0, 1, 2] (by rfl) ?_
    refine lv (.int .i64 12) (h := ?_)
    refine L_val (.bool true) (by rfl) (by rfl) (gives_ieq (k := .i64) (12) (12) true (by rfl) (by rfl) (by decide)) ?_
    refine lv (.bool true) (h := ?_)
    refine L_end ?_
    intro w13 hw13
    refine wp_ret ?_
    change bodyPost _ _ _ Exit.ret _ _
    refine (ret_tmp (by rfl) (by rfl) (by rfl) ⟨rfl, hw13.below⟩)
  ·
   refine L_val (.tuple #[.agg (cg2 (0 : Pt F2)), .int .i64 0]) (by rfl) (by rfl) (gives_call (vl := [.slice (some ⟨g1, 0, none⟩) L0 L0]) (by kernel_rfl) (by rfl) (fun w h => cd_readg2_t _ _ _ _ _ w hl0 ho0 (h.blk 0 (by rfl)).lt (blk_cells (h.blk 0 (by rfl)) hl0) (copy_reads (h.blk 0 (by rfl)) hl0) (Nat.le_refl _) (by omega) (hG.keep h.below) (hR.keep h.below) (hQ.keep h.below) (hU.keep h.below) (0 : F2) (0 : F2) (by simp only [pt2, if_neg hB, if_pos hC, if_pos hf0, if_neg hf1]) (.inl rfl) in_zero2)) ?_
   refine lv (.tuple #[.agg (cg2 (0 : Pt F2)), .int .i64 0]) (h := ?_)
   refine L_val (.agg (cg2 (0 : Pt F2))) (by rfl) (by rfl) gk ?_
   refine L_val (.int .i64 0) (by rfl) (by rfl) gk ?_
   refine L_alloc _ (by rfl) (by rfl) z_g2 (cg2 (0 : Pt F2)) rfl ?_; intro g2
   refine L_store (t := 48) 0 g2 _ _ (by rfl) (by rfl) (by rfl) (by rfl) (by rfl) (hi_g2 _) ((cg2_size _).trans (cg2_size _).symm) (cg2_one _) ?_
   simp only [List.set_cons_zero, List.set_cons_succ]
   refine lv (.int .i64 0) (h := ?_)
   refine L_end ?_
   intro w5 hw5
   refine wp_seq ?_
   refine seq_plain hw5 [0, 1, 2, 3, 4, 5, 6, 7, 8, 9, 10, 11, 12] (by rfl) ?_
   refine lv (.slice (some ⟨g1, 0, none⟩) L0 L0) (h := ?_)
   refine lv (.slice (some ⟨b0, o0, none⟩) L0 C0) (h := ?_)
   refine L_val (.bool true) (by rfl) (by rfl) (gives_call (vl := [.slice (some ⟨g1, 0, none⟩) L0 L0, .slice (some ⟨b0, o0, none⟩) L0 C0]) (by kernel_rfl) (by rfl) (fun w h => same_t w _ _ _ L0 _ _ _ bs0 (copy_reads (h.blk 1 (by rfl)) hl0) ((hr0.below h.below).more h.below.size) (by omega))) ?_
   refine lv (.bool false) (h := ?_)
   refine lv (.bool false) (h := ?_)
   refine L_val_g (dj := 33) (.int .i64 0) (by rfl) (by rfl) (by rfl) (by rfl) (by rfl) gv ?_
   refine L_val_g (dj := 33) (.bool false) (by rfl) (by rfl) (by rfl) (by rfl) (by rfl) (gives_ine (k := .i64) (0) (0) false (by rfl) (by rfl) (by decide)) ?_
   refine L_val_g (dj := 33) (.bool false) (by rfl) (by rfl) (by rfl) (by rfl) (by rfl) gv ?_
   refine lS (dj := 36) (h := ?_)
   refine lS (dj := 36) (h := ?_)
   refine lS (dj := 36) (h := ?_)
   refine L_val_g (dj := 33) (.bool false) (by rfl) (by rfl) (by rfl) (by rfl) (by rfl) gv ?_
   refine lv (.bool false) (h := ?_)
   refine L_end ?_
   intro w6 hw6
   refine wp_cond_false (fr_at _ _ (by rfl) _) ?_
   refine wp_skip ?_
   change Code.wp _ _ _ _ _
   refine seq_plain hw6 [0, 1, 2, 3, 4, 5, 6] (by rfl) ?_
   refine lv (.slice (some ⟨b0, o0, none⟩) L0 C0) (h := ?_)
   refine L_val (.tuple #[.int .i64 0, .bool true]) (by rfl) (by rfl) (gives_call (vl := [.slice (some ⟨b0, o0, none⟩) L0 C0, .int .i64 96]) (by kernel_rfl) (by rfl) (fun w h => marks2_l_far _ _ _ _ _ w hl0 ho0 (Nat.lt_of_lt_of_le hq0 h.below.size) (fun j hj => (h.below.cell (p := ⟨b0, _, none⟩) hq0).trans (hc0 j hj)) (by omega) hLC hf0 hf1)) ?_
   refine lv (.tuple #[.int .i64 0, .bool true]) (h := ?_)
   refine L_val (.int .i64 0) (by rfl) (by rfl) gk ?_
   refine L_val (.bool true) (by rfl) (by rfl) gk ?_
   refine lv (.int .i64 0) (h := ?_)
   refine lv (.bool true) (h := ?_)
   refine L_end ?_
   intro w7 hw7
   refine wp_seq ?_
   refine seq_plain hw7 [0, 1, 2, 3, 4] (by rfl) ?_
   refine lv (.int .i64 0) (h := ?_)
   refine L_val (.bool false) (by rfl) (by rfl) (gives_ine (k := .i64) (0) (0) false (by rfl) (by rfl) (by decide)) ?_
   refine lv (.bool false) (h := ?_)
   refine L_val_g (dj := 49) (.bool true) (by rfl) (by rfl) (by rfl) (by rfl) (by rfl) gv ?_
   refine lv (.bool true) (h := ?_)
   refine L_end ?_
   intro w8 hw8
   refine wp_cond_true (fr_at _ _ (by rfl) _) ?_
   refine seq_plain hw8 [0, 1, 2, 3, 4, 5, 6, 7, 8] (by rfl) ?_
   refine lv (.int .i64 0) (h := ?_)
   refine lv (.int .i64 0) (h := ?_)
   refine L_val (.bool true) (by rfl) (by rfl) (gives_ieq (k := .i64) (0) (0) true (by rfl) (by rfl) (by decide)) ?_
   refine lv (.bool true) (h := ?_)
   refine L_val_g (dj := 55) (.agg (cg2 (0 : Pt F2))) (by rfl) (by rfl) (by rfl) (by rfl) (by rfl) (gives_load g2 0 48 (cg2 (0 : Pt F2)) (cg2 (0 : Pt F2)) _ (by rfl) (fun _ h => h.blk 0 (by rfl)) (Sl.refl _) Tryz.underlying48 (by rfl) (hi_g2 _)) ?_
   refine L_val_g (dj := 55) (.agg (cg2 (0 : Pt F2))) (by rfl) (by rfl) (by rfl) (by rfl) (by rfl) (gb_g2 [] trivial (by rfl) (cg2 (0 : Pt F2)) (by rfl)) ?_
   refine L_val_g (dj := 55) (.bool true) (by rfl) (by rfl) (by rfl) (by rfl) (by rfl) (gives_eql (cg2 (0 : Pt F2)) (cg2 (0 : Pt F2)) true (by rfl) (by rfl) (by kernel_rfl) (fun w => eq_g2_t (d := 9995) w rfl)) ?_
   refine lv (.bool true) (h := ?_)
   refine lv (.bool true) (h := ?_)
   refine L_end ?_
   intro w9 hw9
   refine wp_ret ?_
   change bodyPost _ _ _ Exit.ret _ _
   refine (ret_tmp (by rfl) (by rfl) (by rfl) ⟨rfl, hw9.below⟩)
 ·
  refine L_val (.tuple #[.agg (cg2 (0 : Pt F2)), .int .i64 11]) (by rfl) (by rfl) (gives_call (vl := [.slice (some ⟨g1, 0, none⟩) L0 L0]) (by kernel_rfl) (by rfl) (fun w h => cd_readg2_e _ _ _ _ _ w hl0 ho0 (h.blk 0 (by rfl)).lt (blk_cells (h.blk 0 (by rfl)) hl0) (copy_reads (h.blk 0 (by rfl)) hl0) (Nat.le_refl _) (by omega) (hG.keep h.below) (hR.keep h.below) (hQ.keep h.below) (hU.keep h.below) (0 : F2) (0 : F2) 11 (by simp only [pt2, if_neg hB, if_pos hC, if_neg hf0]) (by decide))) ?_
  refine lv (.tuple #[.agg (cg2 (0 : Pt F2)), .int .i64 11]) (h := ?_)
  refine L_val (.agg (cg2 (0 : Pt F2))) (by rfl) (by rfl) gk ?_
  refine L_val (.int .i64 11) (by rfl) (by rfl) gk ?_
  refine L_alloc _ (by rfl) (by rfl) z_g2 (cg2 (0 : Pt F2)) rfl ?_; intro g2
  refine L_store (t := 48) 0 g2 _ _ (by rfl) (by rfl) (by rfl) (by rfl) (by rfl) (hi_g2 _) ((cg2_size _).trans (cg2_size _).symm) (cg2_one _) ?_
  simp only [List.set_cons_zero, List.set_cons_succ]
  refine lv (.int .i64 11) (h := ?_)
  refine L_end ?_
  intro w5 hw5
  refine wp_seq ?_
  refine seq_plain hw5 [0, 1, 2, 3, 4, 5, 6, 7, 8, 9, 10, 11, 12] (by rfl) ?_
  refine lv (.slice (some ⟨g1, 0, none⟩) L0 L0) (h := ?_)
  refine lv (.slice (some ⟨b0, o0, none⟩) L0 C0) (h := ?_)
  refine L_val (.bool true) (by rfl) (by rfl) (gives_call (vl := [.slice (some ⟨g1, 0, none⟩) L0 L0, .slice (some ⟨b0, o0, none⟩) L0 C0]) (by kernel_rfl) (by rfl) (fun w h => same_t w _ _ _ L0 _ _ _ bs0 (copy_reads (h.blk 1 (by rfl)) hl0) ((hr0.below h.below).more h.below.size) (by omega))) ?_
  refine lv (.bool false) (h := ?_)
  refine lv (.bool false) (h := ?_)
  refine L_val_g (dj := 33) (.int .i64 11) (by rfl) (by rfl) (by rfl) (by rfl) (by rfl) gv ?_
  refine L_val_g (dj := 33) (.bool true) (by rfl) (by rfl) (by rfl) (by rfl) (by rfl) (gives_ine (k := .i64) (11) (0) true (by rfl) (by rfl) (by decide)) ?_
  refine L_val_g (dj := 33) (.bool true) (by rfl) (by rfl) (by rfl) (by rfl) (by rfl) gv ?_
  refine L_val_g (dj := 36) (.agg (cg2 (0 : Pt F2))) (by rfl) (by rfl) (by rfl) (by rfl) (by rfl) (gives_load g2 0 48 (cg2 (0 : Pt F2)) (cg2 (0 : Pt F2)) _ (by rfl) (fun _ h => h.blk 0 (by rfl)) (Sl.refl _) Tryz.underlying48 (by rfl) (hi_g2 _)) ?_
  refine L_val_g (dj := 36) (.agg (cg2 (0 : Pt F2))) (by rfl) (by rfl) (by rfl) (by rfl) (by rfl) (gb_g2 [] trivial (by rfl) (cg2 (0 : Pt F2)) (by rfl)) ?_
  refine L_val_g (dj := 36) (.bool false) (by rfl) (by rfl) (by rfl) (by rfl) (by rfl) (gives_neq (cg2 (0 : Pt F2)) (cg2 (0 : Pt F2)) true (by rfl) (by rfl) (by kernel_rfl) (fun w => eq_g2_t (d := 9995) w rfl)) ?_
  refine L_val_g (dj := 33) (.bool false) (by rfl) (by rfl) (by rfl) (by rfl) (by rfl) gv ?_
  refine lv (.bool false) (h := ?_)
  refine L_end ?_
  intro w6 hw6
  refine wp_cond_false (fr_at _ _ (by rfl) _) ?_
  refine wp_skip ?_
  change Code.wp _ _ _ _ _
  refine seq_plain hw6 [0, 1, 2, 3, 4, 5, 6] (by rfl) ?_
  refine lv (.slice (some ⟨b0, o0, none⟩) L0 C0) (h := ?_)
  refine L_callE (A := Unit) (B := Bool) (vl := [.slice (some ⟨b0, o0, none⟩) L0 C0, .int .i64 96]) (fun a b => .tuple #[.int .i64 11, .bool b]) (fun _ _ => True) (by rfl) (by rfl) Want.none (by kernel_rfl) (by rfl) (fun w h => marks2_l_bad _ _ _ _ _ w hl0 ho0 (Nat.lt_of_lt_of_le hq0 h.below.size) (fun j hj => (h.below.cell (p := ⟨b0, _, none⟩) hq0).trans (hc0 j hj)) (by omega) hLC hf0) ?_; intro u_1 x_1 hu_1
  refine lv (.tuple #[.int .i64 11, .bool x_1]) (h := ?_)
  refine L_val (.int .i64 11) (by rfl) (by rfl) gk ?_
  refine L_val (.bool x_1) (by rfl) (by rfl) gk ?_
  refine lv (.int .i64 11) (h := ?_)
  refine lv (.bool x_1) (h := ?_)
  refine L_end ?_
  intro w7 hw7
  refine wp_seq ?_
  refine seq_plain hw7 [0, 1, 2, 3, 4] (by rfl) ?_
  refine lv (.int .i64 11) (h := ?_)
  refine L_val (.bool true) (by rfl) (by rfl) (gives_ine (k := .i64) (11) (0) true (by rfl) (by rfl) (by decide)) ?_
  refine lv (.bool true) (h := ?_)
  refine lS (dj := 49) (h := ?_)
  refine lv (.bool true) (h := ?_)
  refine L_end ?_
  intro w8 hw8
  refine wp_cond_true (fr_at _ _ (by rfl) _) ?_
  refine seq_plain hw8 [0, 1, 2, 3, 4, 5, 6, 7, 8] (by rfl) ?_
  refine lv (.int .i64 11) (h := ?_)
  refine lv (.int .i64 11) (h := ?_)
  refine L_val (.bool true) (by rfl) (by rfl) (gives_ieq (k := .i64) (11) (11) true (by rfl) (by rfl) (by decide)) ?_
  refine lv (.bool true) (h := ?_)
  refine L_val_g (dj := 55) (.agg (cg2 (0 : Pt F2))) (by rfl) (by rfl) (by rfl) (by rfl) (by rfl) (gives_load g2 0 48 (cg2 (0 : Pt F2)) (cg2 (0 : Pt F2)) _ (by rfl) (fun _ h => h.blk 0 (by rfl)) (Sl.refl _) Tryz.underlying48 (by rfl) (hi_g2 _)) ?_
  refine L_val_g (dj := 55) (.agg (cg2 (0 : Pt F2))) (by rfl) (by rfl) (by rfl) (by rfl) (by rfl) (gb_g2 [] trivial (by rfl) (cg2 (0 : Pt F2)) (by rfl)) ?_
  refine L_val_g (dj := 55) (.bool true) (by rfl) (by rfl) (by rfl) (by rfl) (by rfl) (gives_eql (cg2 (0 : Pt F2)) (cg2 (0 : Pt F2)) true (by rfl) (by rfl) (by kernel_rfl) (fun w => eq_g2_t (d := 9995) w rfl)) ?_
  refine lv (.bool true) (h := ?_)
  refine lv (.bool true) (h := ?_)
  refine L_end ?_
  intro w9 hw9
  refine wp_ret ?_
  change bodyPost _ _ _ Exit.ret _ _
  refine (ret_tmp (by rfl) (by rfl) (by rfl) ⟨rfl, hw9.below⟩)
set_option maxRecDepth 100000 in
set_option maxHeartbeats 4000000 in
theorem codec_reads2_o (b0 o0 L0 C0 : Nat) (bs0 : List Int) (v : World) (hl0 : bs0.length = L0) (ho0 : Oct bs0) (hq0 : b0 < v.heap.size) (hc0 : ∀ j, j < L0 → v.cell? ⟨b0, o0 + j, none⟩ = some (.int .u8 (gt bs0 j))) (hr0 : Reads v v.heap.size (some ⟨b0, o0, none⟩) L0 (bs0.map (Value.int .u8))) (hLC : L0 ≤ C0) (hG : Glo v) (hR : GloR v) (hQ : GQp v) (hU : GUp v) (hA : ¬ 400 < L0) (hB : ¬ (L0 : Int) = 96) (hC : ¬ (L0 : Int) = 192) : Rets 4 #[.slice (some ⟨b0, o0, none⟩) L0 C0] v (.bool true) := by
 refine calls_fr1 Tryz.func4 rfl (by rfl : _ = 167) (by rfl) ?_
 have hw := Hbl.nil v
 refine seq_plain hw [0] (by rfl) ?_
 refine lv (.bool false) (h := ?_)
 refine L_end ?_
 intro w1 hw1
 refine wp_seq ?_
 refine seq_plain hw1 [0, 1] (by rfl) ?_
 refine L_val (.bool true) (by rfl) (by rfl) (gives_call (vl := []) (by kernel_rfl) (by rfl) (fun w h => cd_head w (hG.keep h.below) (hU.keep h.below))) ?_
 refine lv (.bool false) (h := ?_)
 refine L_end ?_
 intro w2 hw2
 refine wp_cond_false (fr_at _ _ (by rfl) _) ?_
 refine wp_skip ?_
 change Code.wp _ _ _ _ _
 refine wp_seq ?_
 refine seq_plain hw2 [0, 1] (by rfl) ?_
 refine lv (.slice (some ⟨b0, o0, none⟩) L0 C0) (h := ?_)
 refine L_val (.bool false) (by rfl) (by rfl) (gives_call (vl := [.slice (some ⟨b0, o0, none⟩) L0 C0]) (by kernel_rfl) (by rfl) (fun w h => cd_lng_f _ _ _ w (by omega))) ?_
 refine L_end ?_
 intro w3 hw3
 refine wp_cond_false (fr_at _ _ (by rfl) _) ?_
 refine wp_skip ?_
 change Code.wp _ _ _ _ _
 refine seq_plain hw3 [0, 1, 2] (by rfl) ?_
 refine lv (.slice (some ⟨b0, o0, none⟩) L0 C0) (h := ?_)
 refine L_fresh 5 (ag8 bs0) (fun g => .slice (some ⟨g, 0, none⟩) L0 L0) (by rfl) (by rfl) (by kernel_rfl) (by rfl) (fun w h => copy_any w _ L0 _ bs0 ((hr0.below h.below).more h.below.size) (by omega)) ?_; intro g1
 refine lv (.slice (some ⟨g1, 0, none⟩) L0 L0) (h := ?_)
 refine L_end ?_
 intro w4 hw4
 refine seq_plain hw4 [0, 1, 2, 3, 4, 5, 6, 7] (by rfl) ?_
 refine lv (.slice (some ⟨g1, 0, none⟩) L0 L0) (h := ?_)
 refine L_val (.tuple #[.agg (cg2 (0 : Pt F2)), .int .i64 10]) (by rfl) (by rfl) (gives_call (vl := [.slice (some ⟨g1, 0, none⟩) L0 L0]) (by kernel_rfl) (by rfl) (fun w h => cd_readg2_e _ _ _ _ _ w hl0 ho0 (h.blk 0 (by rfl)).lt (blk_cells (h.blk 0 (by rfl)) hl0) (copy_reads (h.blk 0 (by rfl)) hl0) (Nat.le_refl _) (by omega) (hG.keep h.below) (hR.keep h.below) (hQ.keep h.below) (hU.keep h.below) (0 : F2) (0 : F2) 10 (by simp only [pt2, if_neg hB, if_neg hC]) (by decide))) ?_
 refine lv (.tuple #[.agg (cg2 (0 : Pt F2)), .int .i64 10]) (h := ?_)
 refine L_val (.agg (cg2 (0 : Pt F2))) (by rfl) (by rfl) gk ?_
 refine L_val (.int .i64 10) (by rfl) (by rfl) gk ?_
 refine L_alloc _ (by rfl) (by rfl) z_g2 (cg2 (0 : Pt F2)) rfl ?_; intro g2
 refine L_store (t := 48) 0 g2 _ _ (by rfl) (by rfl) (by rfl) (by rfl) (by rfl) (hi_g2 _) ((cg2_size _).trans (cg2_size _).symm) (cg2_one _) ?_
 simp only [List.set_cons_zero, List.set_cons_succ]
 refine lv (.int .i64 10) (h := ?_)
 refine L_end ?_
 intro w5 hw5
 refine wp_seq ?_
 refine seq_plain hw5 [0, 1, 2, 3, 4, 5, 6, 7, 8, 9, 10, 11, 12] (by rfl) ?_
 refine lv (.slice (some ⟨g1, 0, none⟩) L0 L0) (h := ?_)
 refine lv (.slice (some ⟨b0, o0, none⟩) L0 C0) (h := ?_)
 refine L_val (.bool true) (by rfl) (by rfl) (gives_call (vl := [.slice (some ⟨g1, 0, none⟩) L0 L0, .slice (some ⟨b0, o0, none⟩) L0 C0]) (by kernel_rfl) (by rfl) (fun w h => same_t w _ _ _ L0 _ _ _ bs0 (copy_reads (h.blk 1 (by rfl)) hl0) ((hr0.below h.below).more h.below.size) (by omega))) ?_
 refine lv (.bool false) (h := ?_)
 refine lv (.bool false) (h := ?_)
 refine L_val_g (dj := 33) (.int .i64 10) (by rfl) (by rfl) (by rfl) (by rfl) (by rfl) gv ?_
 refine L_val_g (dj := 33) (.bool true) (by rfl) (by rfl) (by rfl) (by rfl) (by rfl) (gives_ine (k := .i64) (10) (0) true (by rfl) (by rfl) (by decide)) ?_
 refine L_val_g (dj := 33) (.bool true) (by rfl) (by rfl) (by rfl) (by rfl) (by rfl) gv ?_
 refine L_val_g (dj := 36) (.agg (cg2 (0 : Pt F2))) (by rfl) (by rfl) (by rfl) (by rfl) (by rfl) (gives_load g2 0 48 (cg2 (0 : Pt F2)) (cg2 (0 : Pt F2)) _ (by rfl) (fun _ h => h.blk 0 (by rfl)) (Sl.refl _) Tryz.underlying48 (by rfl) (hi_g2 _)) ?_
 refine L_val_g (dj := 36) (.agg (cg2 (0 : Pt F2))) (by rfl) (by rfl) (by rfl) (by rfl) (by rfl) (gb_g2 [] trivial (by rfl) (cg2 (0 : Pt F2)) (by rfl)) ?_
 refine L_val_g (dj := 36) (.bool false) (by rfl) (by rfl) (by rfl) (by rfl) (by rfl) (gives_neq (cg2 (0 : Pt F2)) (cg2 (0 : Pt F2)) true (by rfl) (by rfl) (by kernel_rfl) (fun w => eq_g2_t (d := 9995) w rfl)) ?_
 refine L_val_g (dj := 33) (.bool false) (by rfl) (by rfl) (by rfl) (by rfl) (by rfl) gv ?_
 refine lv (.bool false) (h := ?_)
 refine L_end ?_
 intro w6 hw6
 refine wp_cond_false (fr_at _ _ (by rfl) _) ?_
 refine wp_skip ?_
 change Code.wp _ _ _ _ _
 refine seq_plain hw6 [0, 1, 2, 3, 4, 5, 6] (by rfl) ?_
 refine lv (.slice (some ⟨b0, o0, none⟩) L0 C0) (h := ?_)
 refine L_val (.tuple #[.int .i64 10, .bool false]) (by rfl) (by rfl) (gives_call (vl := [.slice (some ⟨b0, o0, none⟩) L0 C0, .int .i64 96]) (by kernel_rfl) (by rfl) (fun w h => cd_marks_96_len _ _ _ w (by omega) (by omega))) ?_
 refine lv (.tuple #[.int .i64 10, .bool false]) (h := ?_)
 refine L_val (.int .i64 10) (by rfl) (by rfl) gk ?_
 refine L_val (.bool false) (by rfl) (by rfl) gk ?_
 refine lv (.int .i64 10) (h := ?_)
 refine lv (.bool false) (h := ?_)
 refine L_end ?_
 intro w7 hw7
 refine wp_seq ?_
 refine seq_plain hw7 [0, 1, 2, 3, 4] (by rfl) ?_
 refine lv (.int .i64 10) (h := ?_)
 refine L_val (.bool true) (by rfl) (by rfl) (gives_ine (k := .i64) (10) (0) true (by rfl) (by rfl) (by decide)) ?_
 refine lv (.bool true) (h := ?_)
 refine lS (dj := 49) (h := ?_)
 refine lv (.bool true) (h := ?_)
 refine L_end ?_
 intro w8 hw8
 refine wp_cond_true (fr_at _ _ (by rfl) _) ?_
 refine seq_plain hw8 [0, 1, 2, 3, 4, 5, 6, 7, 8] (by rfl) ?_
 refine lv (.int .i64 10) (h := ?_)
 refine lv (.int .i64 10) (h := ?_)
 refine L_val (.bool true) (by rfl) (by rfl) (gives_ieq (k := .i64) (10) (10) true (by rfl) (by rfl) (by decide)) ?_
 refine lv (.bool true) (h := ?_)
 refine L_val_g (dj := 55) (.agg (cg2 (0 : Pt F2))) (by rfl) (by rfl) (by rfl) (by rfl) (by rfl) (gives_load g2 0 48 (cg2 (0 : Pt F2)) (cg2 (0 : Pt F2)) _ (by rfl) (fun _ h => h.blk 0 (by rfl)) (Sl.refl _) Tryz.underlying48 (by rfl) (hi_g2 _)) ?_
 refine L_val_g (dj := 55) (.agg (cg2 (0 : Pt F2))) (by rfl) (by rfl) (by rfl) (by rfl) (by rfl) (gb_g2 [] trivial (by rfl) (cg2 (0 : Pt F2)) (by rfl)) ?_
 refine L_val_g (dj := 55) (.bool true) (by rfl) (by rfl) (by rfl) (by rfl) (by rfl) (gives_eql (cg2 (0 : Pt F2)) (cg2 (0 : Pt F2)) true (by rfl) (by rfl) (by kernel_rfl) (fun w => eq_g2_t (d := 9995) w rfl)) ?_
 refine lv (.bool true) (h := ?_)
 refine lv (.bool true) (h := ?_)
 refine L_end ?_
 intro w9 hw9
 refine wp_ret ?_
 change bodyPost _ _ _ Exit.ret _ _
 refine (ret_tmp (by rfl) (by rfl) (by rfl) ⟨rfl, hw9.below⟩)
set_option maxRecDepth 100000 in
set_option maxHeartbeats 4000000 in
theorem codec_reads2_f (b0 o0 L0 C0 : Nat) (bs0 : List Int) (v : World) (hl0 : bs0.length = L0) (ho0 : Oct bs0) (hq0 : b0 < v.heap.size) (hc0 : ∀ j, j < L0 → v.cell? ⟨b0, o0 + j, none⟩ = some (.int .u8 (gt bs0 j))) (hr0 : Reads v v.heap.size (some ⟨b0, o0, none⟩) L0 (bs0.map (Value.int .u8))) (hLC : L0 ≤ C0) (hG : Glo v) (hR : GloR v) (hQ : GQp v) (hU : GUp v) (hA : 400 < L0) : Rets 4 #[.slice (some ⟨b0, o0, none⟩) L0 C0] v (.bool true) := by
 refine calls_fr1 Tryz.func4 rfl (by rfl : _ = 167) (by rfl) ?_
 have hw := Hbl.nil v
 refine seq_plain hw [0] (by rfl) ?_
 refine lv (.bool false) (h := ?_)
 refine L_end ?_
 intro w1 hw1
 refine wp_seq ?_
 refine seq_plain hw1 [0, 1] (by rfl) ?_
 refine L_val (.bool true) (by rfl) (by rfl) (gives_call (vl := []) (by kernel_rfl) (by rfl) (fun w h => cd_head w (hG.keep h.below) (hU.keep h.below))) ?_
 refine lv (.bool false) (h := ?_)
 refine L_end ?_
 intro w2 hw2
 refine wp_cond_false (fr_at _ _ (by rfl) _) ?_
 refine wp_skip ?_
 change Code.wp _ _ _ _ _
 refine wp_seq ?_
 refine seq_plain hw2 [0, 1] (by rfl) ?_
 refine lv (.slice (some ⟨b0, o0, none⟩) L0 C0) (h := ?_)
 refine L_val (.bool true) (by rfl) (by rfl) (gives_call (vl := [.slice (some ⟨b0, o0, none⟩) L0 C0]) (by kernel_rfl) (by rfl) (fun w h => cd_lng_t _ _ _ w (by omega))) ?_
 refine L_end ?_
 intro w3 hw3
 refine wp_cond_true (fr_at _ _ (by rfl) _) ?_
 refine seq_plain hw3 [0] (by rfl) ?_
 refine lv (.bool true) (h := ?_)
 refine L_end ?_
 intro w4 hw4
 refine wp_ret ?_
 change bodyPost _ _ _ Exit.ret _ _
 refine (ret_tmp (by rfl) (by rfl) (by rfl) ⟨rfl, hw4.below⟩)
end Go.Proofs.YtifnnckbcjafgabGreatDoor
