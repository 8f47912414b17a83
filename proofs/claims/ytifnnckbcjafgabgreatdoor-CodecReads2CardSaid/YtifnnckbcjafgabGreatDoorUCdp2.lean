import Derived.Test.YtifnnckbcjafgabGreatDoorUCdg2
namespace Go.Proofs.YtifnnckbcjafgabGreatDoor
set_option linter.unusedSimpArgs false
set_option linter.unusedVariables false
open Go.RowKit
attribute [local irreducible] wpL wpF fr Code.wp bodyPost

set_option maxRecDepth 100000 in
set_option maxHeartbeats 4000000 in
theorem cd_point2 (b0 o0 L0 C0 : Nat) (bs0 : List Int) (k0 : F2) (hk0 : k0 = F2.sm 4 4) (v : World) (hl0 : bs0.length = L0) (ho0 : Oct bs0) (hq0 : b0 < v.heap.size) (hc0 : ∀ j, j < L0 → v.cell? ⟨b0, o0 + j, none⟩ = some (.int .u8 (gt bs0 j))) (hr0 : Reads v v.heap.size (some ⟨b0, o0, none⟩) L0 (bs0.map (Value.int .u8))) (hLC : L0 ≤ C0) (hLm : L0 ≤ 1000) (hG : Glo v) (hQ : GQp v) (hU : GUp v) : Rets 79 #[.agg (grp2 k0), .slice (some ⟨b0, o0, none⟩) L0 C0] v (.tuple #[.agg (c2 (pt2 L0 bs0).1), .agg (c2 (pt2 L0 bs0).2.1), .int .i64 (pt2 L0 bs0).2.2]) := by
 refine calls_fr2 Tryz.func79 rfl (by rfl : _ = 115) (by rfl) ?_
 have hw := Hbl.nil v
 refine seq_plain hw [0, 1, 2, 3] (by rfl) ?_
 refine L_box (.agg (grp2 (k0))) (by rfl) (by rfl) (by rfl) (grp2 (k0)) (by rfl) ?_; intro g1
 refine L_alloc _ (by rfl) (by rfl) z_2 (c2 (0 : F2)) rfl ?_; intro g2
 refine L_alloc _ (by rfl) (by rfl) z_2 (c2 (0 : F2)) rfl ?_; intro g3
 refine lv (.int .i64 0) (h := ?_)
 refine L_end ?_
 intro w1 hw1
 refine wp_seq ?_
 refine seq_plain hw1 [0, 1, 2, 3, 4, 5, 6, 7, 8, 9, 10, 11, 12] (by rfl) ?_
 refine lv (.slice (some ⟨b0, o0, none⟩) L0 C0) (h := ?_)
 refine L_val (.int .i64 (L0 : Int)) (by rfl) (by rfl) (gives_len _ L0 C0 und_u8s (by rfl)) ?_
 refine L_val (.pointer (some ⟨g1, 0, none⟩)) (by rfl) (by rfl) gk ?_
 refine L_val (.int .i64 96) (by rfl) (by rfl) (gives_load1 g1 0 _ (grp2 (k0)) (.int .i64 96) (by rfl) (fun _ h => h.blk 2 (by rfl)) (grp2_0 _) und_int) ?_
 by_cases hf0 : (L0 : Int) = 96
 ·
  refine L_val (.bool false) (by rfl) (by rfl) (gives_ine (k := .i64) ((L0 : Int)) (96) false (by rfl) (by rfl) (decide_eq_false (by omega))) ?_
  refine lv (.bool false) (h := ?_)
  refine lS (dj := 14) (h := ?_)
  refine lS (dj := 14) (h := ?_)
  refine lS (dj := 14) (h := ?_)
  refine lS (dj := 14) (h := ?_)
  refine lS (dj := 14) (h := ?_)
  refine lS (dj := 14) (h := ?_)
  refine lv (.bool false) (h := ?_)
  refine L_end ?_
  intro w2 hw2
  refine wp_cond_false (fr_at _ _ (by rfl) _) ?_
  refine wp_skip ?_
  change Code.wp _ _ _ _ _
  refine wp_seq ?_
  refine seq_plain hw2 [0, 1, 2, 3, 4, 5, 6, 7] (by rfl) ?_
  refine lv (.slice (some ⟨b0, o0, none⟩) L0 C0) (h := ?_)
  refine lv (.slice (some ⟨b0, o0, none⟩) L0 C0) (h := ?_)
  refine L_val (.int .i64 (L0 : Int)) (by rfl) (by rfl) (gives_len _ L0 C0 und_u8s (by rfl)) ?_
  refine L_val (.pointer (some ⟨g1, 0, none⟩)) (by rfl) (by rfl) gk ?_
  refine L_val (.int .i64 96) (by rfl) (by rfl) (gives_load1 g1 0 _ (grp2 (k0)) (.int .i64 96) (by rfl) (fun _ h => h.blk 2 (by rfl)) (grp2_0 _) und_int) ?_
  refine L_val (.bool true) (by rfl) (by rfl) (gives_ieq (k := .i64) ((L0 : Int)) (96) true (by rfl) (by rfl) (decide_eq_true (by omega))) ?_
  by_cases hf1 : frm bs0 true = true
  ·
   refine L_val (.bool true) (by rfl) (by rfl) (gives_call (vl := [.slice (some ⟨b0, o0, none⟩) L0 C0, .bool true]) (by kernel_rfl) (by rfl) (fun w h => cd_form_tt _ _ _ _ _ w hl0 ho0 (Nat.lt_of_lt_of_le hq0 h.below.size) (fun j hj => (h.below.cell (p := ⟨b0, _, none⟩) hq0).trans (hc0 j hj)) (by omega) hLC hLm hf1)) ?_
   refine lv (.bool false) (h := ?_)
   refine L_end ?_
   intro w3 hw3
   refine wp_cond_false (fr_at _ _ (by rfl) _) ?_
   refine wp_skip ?_
   change Code.wp _ _ _ _ _
   refine wp_seq ?_
   refine seq_plain hw3 [0, 1, 2, 3, 4] (by rfl) ?_
   refine lv (.slice (some ⟨b0, o0, none⟩) L0 C0) (h := ?_)
   refine L_val (.pointer (some ⟨b0, o0 + 0, none⟩)) (by rfl) (by rfl) (gives_index b0 (o0) L0 C0 (0) 0 (by rfl) (by rfl) und_u8s u8_sz rfl (by omega)) ?_
   refine L_val (.int .u8 (gt bs0 0)) (by rfl) (by rfl) (gives_load_old _ (.int .u8 (gt bs0 0)) (by rfl) (fun _ h => (h.below.cell (p := ⟨b0, _, none⟩) hq0).trans (hc0 0 (by omega))) und_u8') ?_
   refine L_val (.int .u8 (64 * ((gt bs0 0) / 64 % 2))) (by rfl) (by rfl) (gives_and (k := .u8) (gt bs0 0) 64 (64 * ((gt bs0 0) / 64 % 2)) (by rfl) (by rfl) (and_64 _ (gt_oct ho0 _).1 (gt_oct ho0 _).2)) ?_
   by_cases hf2 : (64 * ((gt bs0 0) / 64 % 2)) = 0
   ·
    refine L_val (.bool false) (by rfl) (by rfl) (gives_ine (k := .u8) (64 * ((gt bs0 0) / 64 % 2)) (0) false (by rfl) (by rfl) (decide_eq_false (by omega))) ?_
    refine L_end ?_
    intro w4 hw4
    refine wp_cond_false (fr_at _ _ (by rfl) _) ?_
    refine wp_skip ?_
    change Code.wp _ _ _ _ _
    refine seq_plain hw4 [0, 1, 2] (by rfl) ?_
    refine lv (.slice (some ⟨b0, o0, none⟩) L0 C0) (h := ?_)
    refine L_freshX (vl := [.slice (some ⟨b0, o0, none⟩) L0 C0]) 5 (fun g cap => .slice (some ⟨g, 0, none⟩) L0 cap) (fun cap cs => L0 ≤ cap ∧ cs.size = cap ∧ cs.toList.take L0 = bs0.map (Value.int .u8)) (by rfl) (by rfl) Want.none (by kernel_rfl) (by rfl)  (fun w h => cd_clone _ _ _ _ _ w ((hr0.below h.below).more h.below.size) (by omega) hLm) ?_; intro g4 cap_1 cs_1 hq_1
    refine lv (.slice (some ⟨g4, 0, none⟩) L0 cap_1) (h := ?_)
    refine L_end ?_
    intro w5 hw5
    refine seq_plain hw5 [0, 1, 2, 3, 4, 5] (by rfl) ?_
    refine lv (.slice (some ⟨g4, 0, none⟩) L0 cap_1) (h := ?_)
    refine L_val (.pointer (some ⟨g4, 0 + (0), none⟩)) (by rfl) (by rfl) (gives_index g4 0 (L0) (cap_1) (0) (0) (by rfl) (by rfl) und_u8s u8_sz (by omega) (by omega)) ?_
    refine L_val (.int .u8 (gt bs0 0)) (by rfl) (by rfl) (gives_load1 g4 (0 + (0)) _ cs_1 (.int .u8 (gt bs0 0)) (by rfl) (fun _ h => h.blk 0 (by rfl)) (front_at hq_1.2.2 hl0 0 (by omega)) und_u8') ?_
    refine L_val (.int .u8 ((gt bs0 0) % 32)) (by rfl) (by rfl) (gives_andNot (k := .u8) (gt bs0 0) 224 ((gt bs0 0) % 32) (by rfl) (by rfl) (clear_224 _ (gt_oct ho0 _).1 (gt_oct ho0 _).2)) ?_
    refine L_val (.pointer (some ⟨g4, 0 + (0), none⟩)) (by rfl) (by rfl) (gives_index g4 0 (L0) (cap_1) (0) (0) (by rfl) (by rfl) und_u8s u8_sz (by omega) (by omega)) ?_
    refine L_store1 0 g4 (0 + (0)) _ cs_1 (.int .u8 ((gt bs0 0) % 32)) (by rfl) (by rfl) (by rfl) (by rfl) rfl (by rfl) u8_sz (by omega) ?_
    simp only [List.set_cons_zero, List.set_cons_succ]
    refine L_end ?_
    intro w6 hw6
    refine wp_seq ?_
    by_cases hf3 : ok2 (seg bs0 0 96)
    ·
     refine seq_flow (by kernel_rfl) hw6 [] [(g4, 5, (cs_1.setIfInBounds (0 + (0)) (.int .u8 ((gt bs0 0) % 32)))), (g3, 46, (c2 (0 : F2))), (g1, 109, (grp2 (k0)))] 12 (by rfl) ?_
     refine fTs (i := 0) (u := (.pointer (some ⟨g1, 1, none⟩))) (e := (List.Sublist.cons_cons _ (List.Sublist.cons_cons _ (List.Sublist.cons _ (List.Sublist.refl _))))) (g := gk) (h := ?_)
     refine fTs (i := 1) (u := (.func (.func 29) #[] #[])) (e := (List.Sublist.cons_cons _ (List.Sublist.cons_cons _ (List.Sublist.cons _ (List.Sublist.refl _))))) (g := (gives_loadV g1 1 (grp2 (k0)) (.func (.func 29) #[] #[]) (by rfl) (fun _ h => h.blk 2 (by rfl)) (grp2_1 _) Tryz.underlying52 (by rfl))) (h := ?_)
     refine fTs (i := 2) (u := (.slice (some ⟨g4, 0, none⟩) L0 cap_1)) (e := (List.Sublist.cons_cons _ (List.Sublist.cons_cons _ (List.Sublist.cons _ (List.Sublist.refl _))))) (g := gv) (h := ?_)
     refine fTs (i := 3) (u := (.pointer (some ⟨g1, 0, none⟩))) (e := (List.Sublist.cons_cons _ (List.Sublist.cons_cons _ (List.Sublist.cons _ (List.Sublist.refl _))))) (g := gk) (h := ?_)
     refine fTs (i := 4) (u := (.int .i64 96)) (e := (List.Sublist.cons_cons _ (List.Sublist.cons_cons _ (List.Sublist.cons _ (List.Sublist.refl _))))) (g := (gives_load1 g1 0 _ (grp2 (k0)) (.int .i64 96) (by rfl) (fun _ h => h.blk 2 (by rfl)) (grp2_0 _) und_int)) (h := ?_)
     refine fTs (i := 5) (u := (.slice (some ⟨g4, 0, none⟩) 96 cap_1)) (e := (List.Sublist.cons_cons _ (List.Sublist.cons_cons _ (List.Sublist.cons _ (List.Sublist.refl _))))) (g := (gives_slice_to g4 L0 cap_1 96 (96) (by rfl) (by rfl) und_u8s u8_sz (by omega) (by omega))) (h := ?_)
     refine fTs (i := 6) (u := (.tuple #[.agg (c2 (rd2 (seg bs0 0 96))), .int .i64 0])) (e := (List.Sublist.cons_cons _ (List.Sublist.cons_cons _ (List.Sublist.cons _ (List.Sublist.refl _))))) (g := (gives_callT (f := 29) (q := 50) (vl := [.slice (some ⟨g4, 0, none⟩) 96 cap_1]) (by rfl) (by kernel_rfl) (by rfl) (fun w h => rdok2 (seg bs0 0 96) _ _ _ w (hG.keep h.below) (seg_reads (h.blk 0 (by rfl)) hq_1.2.2 hl0 0 96 (by omega)) (seg_oct ho0 _ _) (by omega) hf3))) (h := ?_)
     refine fTs (i := 7) (u := (.tuple #[.agg (c2 (rd2 (seg bs0 0 96))), .int .i64 0])) (e := (List.Sublist.cons_cons _ (List.Sublist.cons_cons _ (List.Sublist.cons _ (List.Sublist.refl _))))) (g := gv) (h := ?_)
     refine fTs (i := 8) (u := (.agg (c2 (rd2 (seg bs0 0 96))))) (e := (List.Sublist.cons_cons _ (List.Sublist.cons_cons _ (List.Sublist.cons _ (List.Sublist.refl _))))) (g := gk) (h := ?_)
     refine fTs (i := 9) (u := (.int .i64 0)) (e := (List.Sublist.cons_cons _ (List.Sublist.cons_cons _ (List.Sublist.cons _ (List.Sublist.refl _))))) (g := gk) (h := ?_)
     refine flow_one 10 (by kernel_rfl) ?_
     refine F_store (t := 46) 2 g2 _ _ (by rfl) (by rfl) (by rfl) (by rfl) (by rfl) (hi_2 _) ((c2_size _).trans (c2_size _).symm) (c2_one _) (.inr (List.Sublist.cons_cons _ (List.Sublist.cons_cons _ (List.Sublist.cons _ (List.Sublist.refl _))))) ?_
     simp only [List.set_cons_zero, List.set_cons_succ]
     refine fTs (i := 11) (u := (.int .i64 0)) (e := (List.Sublist.cons_cons _ (List.Sublist.cons_cons _ (List.Sublist.cons _ (List.Sublist.refl _))))) (g := gv) (h := ?_)
     refine flow_done (by kernel_rfl) ?_
     intro w7 hw7
     refine seq_plain hw7 [0, 1] (by rfl) ?_
     refine lv (.int .i64 0) (h := ?_)
     refine L_val (.bool false) (by rfl) (by rfl) (gives_ine (k := .i64) (0) (0) false (by rfl) (by rfl) (by decide)) ?_
     refine L_end ?_
     intro w8 hw8
     refine wp_cond_false (fr_at _ _ (by rfl) _) ?_
     refine wp_skip ?_
     change Code.wp _ _ _ _ _
     refine seq_flow (by kernel_rfl) hw8 [] [(g4, 5, (cs_1.setIfInBounds (0 + (0)) (.int .u8 ((gt bs0 0) % 32)))), (g3, 46, (c2 (0 : F2))), (g2, 46, (c2 (rd2 (seg bs0 0 96)))), (g1, 109, (grp2 (k0)))] 12 (by rfl) ?_
     refine fT (i := 0) (g := (gL g2 46 (c2 (rd2 (seg bs0 0 96))) 2 Tryz.underlying46 (hi_2 _))) (h := ?_)
     refine fT (i := 1) (u := (.iface 46 (.agg (c2 (rd2 (seg bs0 0 96)))))) (g := gk) (h := ?_)
     refine fT (i := 2) (g := (gives_invoke (vl := []) (by rfl) (me2_Square _) (by kernel_rfl) (by rfl) (fun w h => q_square _ w (hG.keep h.below)))) (h := ?_)
     refine fT (i := 3) (u := (.iface 46 (.agg (c2 ((rd2 (seg bs0 0 96)) * (rd2 (seg bs0 0 96))))))) (g := gk) (h := ?_)
     refine fT (i := 4) (g := (gL g2 46 (c2 (rd2 (seg bs0 0 96))) 2 Tryz.underlying46 (hi_2 _))) (h := ?_)
     refine fT (i := 5) (g := (gives_invoke (vl := [.agg (c2 (rd2 (seg bs0 0 96)))]) (by rfl) (me2_Mul _) (by kernel_rfl) (by rfl) (fun w h => q_mul _ _ w (hG.keep h.below)))) (h := ?_)
     refine fT (i := 6) (u := (.iface 46 (.agg (c2 (((rd2 (seg bs0 0 96)) * (rd2 (seg bs0 0 96))) * (rd2 (seg bs0 0 96))))))) (g := gk) (h := ?_)
     refine fT (i := 7) (u := (.pointer (some ⟨g1, 2, none⟩))) (g := gk) (h := ?_)
     refine fT (i := 8) (g := (gives_load g1 2 109 (grp2 (k0)) (c2 (k0)) _ (by rfl) (fun _ h => h.blk 3 (by rfl)) (grp2_sl _) Tryz.underlying46 (by rfl) (hi_2 _))) (h := ?_)
     refine fT (i := 9) (g := (gives_invoke (vl := [.agg (c2 (k0))]) (by rfl) (me2_Add _) (by kernel_rfl) (by rfl) (fun w h => q_add _ _ w (hG.keep h.below)))) (h := ?_)
     refine flow_one 10 (by kernel_rfl) ?_
     refine F_alloc _ (by rfl) (by rfl) z_2 (c2 (0 : F2)) rfl (List.Sublist.refl _) ?_; intro g5
     refine flow_one 11 (by kernel_rfl) ?_
     refine F_store (t := 46) 0 g5 _ _ (by rfl) (by rfl) (by rfl) (by rfl) (by rfl) (hi_2 _) ((c2_size _).trans (c2_size _).symm) (c2_one _) (.inr (List.Sublist.cons _ (List.Sublist.refl _))) ?_
     simp only [List.set_cons_zero, List.set_cons_succ]
     refine flow_done (by kernel_rfl) ?_
     intro w9 hw9
     refine wp_seq ?_
     refine seq_plain hw9 [0, 1, 2, 3, 4] (by rfl) ?_
     refine lv (.slice (some ⟨b0, o0, none⟩) L0 C0) (h := ?_)
     refine L_val (.int .i64 (L0 : Int)) (by rfl) (by rfl) (gives_len _ L0 C0 und_u8s (by rfl)) ?_
     refine L_val (.pointer (some ⟨g1, 0, none⟩)) (by rfl) (by rfl) gk ?_
     refine L_val (.int .i64 96) (by rfl) (by rfl) (gives_load1 g1 0 _ (grp2 (k0)) (.int .i64 96) (by rfl) (fun _ h => h.blk 4 (by rfl)) (grp2_0 _) und_int) ?_
     refine L_val (.bool true) (by rfl) (by rfl) (gives_ieq (k := .i64) ((L0 : Int)) (96) true (by rfl) (by rfl) (decide_eq_true (by omega))) ?_
     refine L_end ?_
     intro w10 hw10
     refine wp_cond_true (fr_at _ _ (by rfl) _) ?_
     by_cases hf4 : (32 * ((gt bs0 0) / 32 % 2)) = 0
     ·
      by_cases hf5 : sq2 (abv2 (rd2 (seg bs0 0 96)))
      ·
       refine seq_flow (by kernel_rfl) hw10 [] [(g5, 46, (c2 ((((rd2 (seg bs0 0 96)) * (rd2 (seg bs0 0 96))) * (rd2 (seg bs0 0 96))) + (k0)))), (g4, 5, (cs_1.setIfInBounds (0 + (0)) (.int .u8 ((gt bs0 0) % 32)))), (g2, 46, (c2 (rd2 (seg bs0 0 96)))), (g1, 109, (grp2 (k0)))] 12 (by rfl) ?_
       refine fTs (i := 0) (e := (List.Sublist.cons_cons _ (List.Sublist.cons_cons _ (List.Sublist.cons _ (List.Sublist.refl _))))) (g := (gL g5 46 (c2 ((((rd2 (seg bs0 0 96)) * (rd2 (seg bs0 0 96))) * (rd2 (seg bs0 0 96))) + (k0))) 0 Tryz.underlying46 (hi_2 _))) (h := ?_)
       refine fTs (i := 1) (u := (.slice (some ⟨b0, o0, none⟩) L0 C0)) (e := (List.Sublist.cons_cons _ (List.Sublist.cons_cons _ (List.Sublist.cons _ (List.Sublist.refl _))))) (g := gv) (h := ?_)
       refine fTs (i := 2) (u := (.pointer (some ⟨b0, o0 + 0, none⟩))) (e := (List.Sublist.cons_cons _ (List.Sublist.cons_cons _ (List.Sublist.cons _ (List.Sublist.refl _))))) (g := (gives_index b0 (o0) L0 C0 (0) 0 (by rfl) (by rfl) und_u8s u8_sz rfl (by omega))) (h := ?_)
       refine fTs (i := 3) (u := (.int .u8 (gt bs0 0))) (e := (List.Sublist.cons_cons _ (List.Sublist.cons_cons _ (List.Sublist.cons _ (List.Sublist.refl _))))) (g := (gives_load_old _ (.int .u8 (gt bs0 0)) (by rfl) (fun _ h => (h.below.cell (p := ⟨b0, _, none⟩) hq0).trans (hc0 0 (by omega))) und_u8')) (h := ?_)
       refine fTs (i := 4) (u := (.int .u8 (32 * ((gt bs0 0) / 32 % 2)))) (e := (List.Sublist.cons_cons _ (List.Sublist.cons_cons _ (List.Sublist.cons _ (List.Sublist.refl _))))) (g := (gives_and (k := .u8) (gt bs0 0) 32 (32 * ((gt bs0 0) / 32 % 2)) (by rfl) (by rfl) (and_32 _ (gt_oct ho0 _).1 (gt_oct ho0 _).2))) (h := ?_)
       refine fTs (i := 5) (u := (.bool false)) (e := (List.Sublist.cons_cons _ (List.Sublist.cons_cons _ (List.Sublist.cons _ (List.Sublist.refl _))))) (g := (gives_ine (k := .u8) (32 * ((gt bs0 0) / 32 % 2)) (0) false (by rfl) (by rfl) (decide_eq_false (by omega)))) (h := ?_)
       refine fTs (i := 6) (u := (.tuple #[.agg (c2 (rs2 (abv2 (rd2 (seg bs0 0 96))) false)), .int .i64 0])) (e := (List.Sublist.cons_cons _ (List.Sublist.cons_cons _ (List.Sublist.cons _ (List.Sublist.refl _))))) (g := (gives_call (vl := [.agg (c2 ((((rd2 (seg bs0 0 96)) * (rd2 (seg bs0 0 96))) * (rd2 (seg bs0 0 96))) + (k0))), .bool false]) (by kernel_rfl) (by rfl) (fun w h => by rw [hk0]; exact cd_root2_y (abv2 (rd2 (seg bs0 0 96))) _ w (hG.keep h.below) (hQ.keep h.below) (hU.keep h.below) hf5))) (h := ?_)
       refine fTs (i := 7) (u := (.tuple #[.agg (c2 (rs2 (abv2 (rd2 (seg bs0 0 96))) false)), .int .i64 0])) (e := (List.Sublist.cons_cons _ (List.Sublist.cons_cons _ (List.Sublist.cons _ (List.Sublist.refl _))))) (g := gv) (h := ?_)
       refine fTs (i := 8) (u := (.agg (c2 (rs2 (abv2 (rd2 (seg bs0 0 96))) false)))) (e := (List.Sublist.cons_cons _ (List.Sublist.cons_cons _ (List.Sublist.cons _ (List.Sublist.refl _))))) (g := gk) (h := ?_)
       refine fTs (i := 9) (u := (.int .i64 0)) (e := (List.Sublist.cons_cons _ (List.Sublist.cons_cons _ (List.Sublist.cons _ (List.Sublist.refl _))))) (g := gk) (h := ?_)
       refine flow_one 10 (by kernel_rfl) ?_
       refine F_store (t := 46) 2 g3 _ _ (by rfl) (by rfl) (by rfl) (by rfl) (by rfl) (hi_2 _) ((c2_size _).trans (c2_size _).symm) (c2_one _) (.inr (List.Sublist.cons_cons _ (List.Sublist.cons_cons _ (List.Sublist.cons _ (List.Sublist.refl _))))) ?_
       simp only [List.set_cons_zero, List.set_cons_succ]
       refine fTs (i := 11) (u := (.int .i64 0)) (e := (List.Sublist.cons_cons _ (List.Sublist.cons_cons _ (List.Sublist.cons _ (List.Sublist.refl _))))) (g := gv) (h := ?_)
       refine flow_done (by kernel_rfl) ?_
       intro w11 hw11
       refine seq_flow (by kernel_rfl) hw11 [] [(g5, 46, (c2 ((((rd2 (seg bs0 0 96)) * (rd2 (seg bs0 0 96))) * (rd2 (seg bs0 0 96))) + (k0)))), (g4, 5, (cs_1.setIfInBounds (0 + (0)) (.int .u8 ((gt bs0 0) % 32)))), (g3, 46, (c2 (rs2 (abv2 (rd2 (seg bs0 0 96))) false))), (g2, 46, (c2 (rd2 (seg bs0 0 96)))), (g1, 109, (grp2 (k0)))] 6 (by rfl) ?_
       refine fT (i := 0) (g := (gL g2 46 (c2 (rd2 (seg bs0 0 96))) 3 Tryz.underlying46 (hi_2 _))) (h := ?_)
       refine fT (i := 1) (g := (gL g3 46 (c2 (rs2 (abv2 (rd2 (seg bs0 0 96))) false)) 2 Tryz.underlying46 (hi_2 _))) (h := ?_)
       refine fV (i := 2) (u := (.int .i64 0)) (h := ?_)
       refine flow_one 3 (by kernel_rfl) ?_
       refine F_store (t := 46) 3 g2 _ _ (by rfl) (by rfl) (by rfl) (by rfl) (by rfl) (hi_2 _) ((c2_size _).trans (c2_size _).symm) (c2_one _) (.inr (List.Sublist.refl _)) ?_
       simp only [List.set_cons_zero, List.set_cons_succ]
       refine flow_one 4 (by kernel_rfl) ?_
       refine F_store (t := 46) 2 g3 _ _ (by rfl) (by rfl) (by rfl) (by rfl) (by rfl) (hi_2 _) ((c2_size _).trans (c2_size _).symm) (c2_one _) (.inr (List.Sublist.refl _)) ?_
       simp only [List.set_cons_zero, List.set_cons_succ]
       refine fV (i := 5) (u := (.int .i64 0)) (h := ?_)
       refine flow_done (by kernel_rfl) ?_
       intro w12 hw12
       refine wp_ret ?_
       change bodyPost _ _ _ Exit.ret _ _
       refine (ret_cct (by rfl) (by rfl) (by rfl) (by rfl) (by rfl) (hw12.blk 3 (by rfl)) (hw12.blk 2 (by rfl)) Tryz.underlying46 (by rfl) (hi_2 _) Tryz.underlying46 (by rfl) (hi_2 _) ⟨?_, hw12.below⟩)
       have hpt : pt2 (L0 : Int) bs0 = (rd2 (seg bs0 0 96), rs2 (abv2 (rd2 (seg bs0 0 96))) false, 0) := by simp only [pt2, if_pos hf0, if_pos hf1, if_pos hf2, if_pos hf3, if_pos hf5]; rw [decide_eq_false (not_not_intro hf4)]
       rw [hpt]
       dsimp only
       exact rfl
      ·
       refine seq_flow (by kernel_rfl) hw10 [] [(g5, 46, (c2 ((((rd2 (seg bs0 0 96)) * (rd2 (seg bs0 0 96))) * (rd2 (seg bs0 0 96))) + (k0)))), (g4, 5, (cs_1.setIfInBounds (0 + (0)) (.int .u8 ((gt bs0 0) % 32)))), (g3, 46, (c2 (0 : F2))), (g2, 46, (c2 (rd2 (seg bs0 0 96)))), (g1, 109, (grp2 (k0)))] 12 (by rfl) ?_
       refine fT (i := 0) (g := (gL g5 46 (c2 ((((rd2 (seg bs0 0 96)) * (rd2 (seg bs0 0 96))) * (rd2 (seg bs0 0 96))) + (k0))) 0 Tryz.underlying46 (hi_2 _))) (h := ?_)
       refine fV (i := 1) (u := (.slice (some ⟨b0, o0, none⟩) L0 C0)) (h := ?_)
       refine fT (i := 2) (u := (.pointer (some ⟨b0, o0 + 0, none⟩))) (g := (gives_index b0 (o0) L0 C0 (0) 0 (by rfl) (by rfl) und_u8s u8_sz rfl (by omega))) (h := ?_)
       refine fT (i := 3) (u := (.int .u8 (gt bs0 0))) (g := (gives_load_old _ (.int .u8 (gt bs0 0)) (by rfl) (fun _ h => (h.below.cell (p := ⟨b0, _, none⟩) hq0).trans (hc0 0 (by omega))) und_u8')) (h := ?_)
       refine fT (i := 4) (u := (.int .u8 (32 * ((gt bs0 0) / 32 % 2)))) (g := (gives_and (k := .u8) (gt bs0 0) 32 (32 * ((gt bs0 0) / 32 % 2)) (by rfl) (by rfl) (and_32 _ (gt_oct ho0 _).1 (gt_oct ho0 _).2))) (h := ?_)
       refine fT (i := 5) (u := (.bool false)) (g := (gives_ine (k := .u8) (32 * ((gt bs0 0) / 32 % 2)) (0) false (by rfl) (by rfl) (decide_eq_false (by omega)))) (h := ?_)
       refine fT (i := 6) (u := (.tuple #[.agg (c2 (0 : F2)), .int .i64 13])) (g := (gives_call (vl := [.agg (c2 ((((rd2 (seg bs0 0 96)) * (rd2 (seg bs0 0 96))) * (rd2 (seg bs0 0 96))) + (k0))), .bool false]) (by kernel_rfl) (by rfl) (fun w h => by rw [hk0]; exact cd_root2_n (abv2 (rd2 (seg bs0 0 96))) _ w (hG.keep h.below) (hQ.keep h.below) (hU.keep h.below) hf5))) (h := ?_)
       refine fV (i := 7) (u := (.tuple #[.agg (c2 (0 : F2)), .int .i64 13])) (h := ?_)
       refine fT (i := 8) (u := (.agg (c2 (0 : F2)))) (g := gk) (h := ?_)
       refine fT (i := 9) (u := (.int .i64 13)) (g := gk) (h := ?_)
       refine flow_one 10 (by kernel_rfl) ?_
       refine F_store (t := 46) 2 g3 _ _ (by rfl) (by rfl) (by rfl) (by rfl) (by rfl) (hi_2 _) ((c2_size _).trans (c2_size _).symm) (c2_one _) (.inr (List.Sublist.refl _)) ?_
       simp only [List.set_cons_zero, List.set_cons_succ]
       refine fV (i := 11) (u := (.int .i64 13)) (h := ?_)
       refine flow_done (by kernel_rfl) ?_
       intro w11 hw11
       refine seq_flow (by kernel_rfl) hw11 [] [(g5, 46, (c2 ((((rd2 (seg bs0 0 96)) * (rd2 (seg bs0 0 96))) * (rd2 (seg bs0 0 96))) + (k0)))), (g4, 5, (cs_1.setIfInBounds (0 + (0)) (.int .u8 ((gt bs0 0) % 32)))), (g3, 46, (c2 (0 : F2))), (g2, 46, (c2 (rd2 (seg bs0 0 96)))), (g1, 109, (grp2 (k0)))] 6 (by rfl) ?_
       refine fT (i := 0) (g := (gL g2 46 (c2 (rd2 (seg bs0 0 96))) 3 Tryz.underlying46 (hi_2 _))) (h := ?_)
       refine fT (i := 1) (g := (gL g3 46 (c2 (0 : F2)) 2 Tryz.underlying46 (hi_2 _))) (h := ?_)
       refine fV (i := 2) (u := (.int .i64 13)) (h := ?_)
       refine flow_one 3 (by kernel_rfl) ?_
       refine F_store (t := 46) 3 g2 _ _ (by rfl) (by rfl) (by rfl) (by rfl) (by rfl) (hi_2 _) ((c2_size _).trans (c2_size _).symm) (c2_one _) (.inr (List.Sublist.refl _)) ?_
       simp only [List.set_cons_zero, List.set_cons_succ]
       refine flow_one 4 (by kernel_rfl) ?_
       refine F_store (t := 46) 2 g3 _ _ (by rfl) (by rfl) (by rfl) (by rfl) (by rfl) (hi_2 _) ((c2_size _).trans (c2_size _).symm) (c2_one _) (.inr (List.Sublist.refl _)) ?_
       simp only [List.set_cons_zero, List.set_cons_succ]
       refine fV (i := 5) (u := (.int .i64 13)) (h := ?_)
       refine flow_done (by kernel_rfl) ?_
       intro w12 hw12
       refine wp_ret ?_
       change bodyPost _ _ _ Exit.ret _ _
       refine (ret_cct (by rfl) (by rfl) (by rfl) (by rfl) (by rfl) (hw12.blk 3 (by rfl)) (hw12.blk 2 (by rfl)) Tryz.underlying46 (by rfl) (hi_2 _) Tryz.underlying46 (by rfl) (hi_2 _) ⟨?_, hw12.below⟩)
       have hpt : pt2 (L0 : Int) bs0 = (rd2 (seg bs0 0 96), (0 : F2), 13) := by simp only [pt2, if_pos hf0, if_pos hf1, if_pos hf2, if_pos hf3, if_neg hf5]
       rw [hpt]
       dsimp only
       exact rfl
     ·
      by_cases hf5 : sq2 (abv2 (rd2 (seg bs0 0 96)))
      ·
       refine seq_flow (by kernel_rfl) hw10 [] [(g5, 46, (c2 ((((rd2 (seg bs0 0 96)) * (rd2 (seg bs0 0 96))) * (rd2 (seg bs0 0 96))) + (k0)))), (g4, 5, (cs_1.setIfInBounds (0 + (0)) (.int .u8 ((gt bs0 0) % 32)))), (g2, 46, (c2 (rd2 (seg bs0 0 96)))), (g1, 109, (grp2 (k0)))] 12 (by rfl) ?_
       refine fTs (i := 0) (e := (List.Sublist.cons_cons _ (List.Sublist.cons_cons _ (List.Sublist.cons _ (List.Sublist.refl _))))) (g := (gL g5 46 (c2 ((((rd2 (seg bs0 0 96)) * (rd2 (seg bs0 0 96))) * (rd2 (seg bs0 0 96))) + (k0))) 0 Tryz.underlying46 (hi_2 _))) (h := ?_)
       refine fTs (i := 1) (u := (.slice (some ⟨b0, o0, none⟩) L0 C0)) (e := (List.Sublist.cons_cons _ (List.Sublist.cons_cons _ (List.Sublist.cons _ (List.Sublist.refl _))))) (g := gv) (h := ?_)
       refine fTs (i := 2) (u := (.pointer (some ⟨b0, o0 + 0, none⟩))) (e := (List.Sublist.cons_cons _ (List.Sublist.cons_cons _ (List.Sublist.cons _ (List.Sublist.refl _))))) (g := (gives_index b0 (o0) L0 C0 (0) 0 (by rfl) (by rfl) und_u8s u8_sz rfl (by omega))) (h := ?_)
       refine fTs (i := 3) (u := (.int .u8 (gt bs0 0))) (e := (List.Sublist.cons_cons _ (List.Sublist.cons_cons _ (List.Sublist.cons _ (List.Sublist.refl _))))) (g := (gives_load_old _ (.int .u8 (gt bs0 0)) (by rfl) (fun _ h => (h.below.cell (p := ⟨b0, _, none⟩) hq0).trans (hc0 0 (by omega))) und_u8')) (h := ?_)
       refine fTs (i := 4) (u := (.int .u8 (32 * ((gt bs0 0) / 32 % 2)))) (e := (List.Sublist.cons_cons _ (List.Sublist.cons_cons _ (List.Sublist.cons _ (List.Sublist.refl _))))) (g := (gives_and (k := .u8) (gt bs0 0) 32 (32 * ((gt bs0 0) / 32 % 2)) (by rfl) (by rfl) (and_32 _ (gt_oct ho0 _).1 (gt_oct ho0 _).2))) (h := ?_)
       refine fTs (i := 5) (u := (.bool true)) (e := (List.Sublist.cons_cons _ (List.Sublist.cons_cons _ (List.Sublist.cons _ (List.Sublist.refl _))))) (g := (gives_ine (k := .u8) (32 * ((gt bs0 0) / 32 % 2)) (0) true (by rfl) (by rfl) (decide_eq_true (by omega)))) (h := ?_)
       refine fTs (i := 6) (u := (.tuple #[.agg (c2 (rs2 (abv2 (rd2 (seg bs0 0 96))) true)), .int .i64 0])) (e := (List.Sublist.cons_cons _ (List.Sublist.cons_cons _ (List.Sublist.cons _ (List.Sublist.refl _))))) (g := (gives_call (vl := [.agg (c2 ((((rd2 (seg bs0 0 96)) * (rd2 (seg bs0 0 96))) * (rd2 (seg bs0 0 96))) + (k0))), .bool true]) (by kernel_rfl) (by rfl) (fun w h => by rw [hk0]; exact cd_root2_y (abv2 (rd2 (seg bs0 0 96))) _ w (hG.keep h.below) (hQ.keep h.below) (hU.keep h.below) hf5))) (h := ?_)
       refine fTs (i := 7) (u := (.tuple #[.agg (c2 (rs2 (abv2 (rd2 (seg bs0 0 96))) true)), .int .i64 0])) (e := (List.Sublist.cons_cons _ (List.Sublist.cons_cons _ (List.Sublist.cons _ (List.Sublist.refl _))))) (g := gv) (h := ?_)
       refine fTs (i := 8) (u := (.agg (c2 (rs2 (abv2 (rd2 (seg bs0 0 96))) true)))) (e := (List.Sublist.cons_cons _ (List.Sublist.cons_cons _ (List.Sublist.cons _ (List.Sublist.refl _))))) (g := gk) (h := ?_)
       refine fTs (i := 9) (u := (.int .i64 0)) (e := (List.Sublist.cons_cons _ (List.Sublist.cons_cons _ (List.Sublist.cons _ (List.Sublist.refl _))))) (g := gk) (h := ?_)
       refine flow_one 10 (by kernel_rfl) ?_
       refine F_store (t := 46) 2 g3 _ _ (by rfl) (by rfl) (by rfl) (by rfl) (by rfl) (hi_2 _) ((c2_size _).trans (c2_size _).symm) (c2_one _) (.inr (List.Sublist.cons_cons _ (List.Sublist.cons_cons _ (List.Sublist.cons _ (List.Sublist.refl _))))) ?_
       simp only [List.set_cons_zero, List.set_cons_succ]
       refine fTs (i := 11) (u := (.int .i64 0)) (e := (List.Sublist.cons_cons _ (List.Sublist.cons_cons _ (List.Sublist.cons _ (List.Sublist.refl _))))) (g := gv) (h := ?_)
       refine flow_done (by kernel_rfl) ?_
       intro w11 hw11
       refine seq_flow (by kernel_rfl) hw11 [] [(g5, 46, (c2 ((((rd2 (seg bs0 0 96)) * (rd2 (seg bs0 0 96))) * (rd2 (seg bs0 0 96))) + (k0)))), (g4, 5, (cs_1.setIfInBounds (0 + (0)) (.int .u8 ((gt bs0 0) % 32)))), (g3, 46, (c2 (rs2 (abv2 (rd2 (seg bs0 0 96))) true))), (g2, 46, (c2 (rd2 (seg bs0 0 96)))), (g1, 109, (grp2 (k0)))] 6 (by rfl) ?_
       refine fT (i := 0) (g := (gL g2 46 (c2 (rd2 (seg bs0 0 96))) 3 Tryz.underlying46 (hi_2 _))) (h := ?_)
       refine fT (i := 1) (g := (gL g3 46 (c2 (rs2 (abv2 (rd2 (seg bs0 0 96))) true)) 2 Tryz.underlying46 (hi_2 _))) (h := ?_)
       refine fV (i := 2) (u := (.int .i64 0)) (h := ?_)
       refine flow_one 3 (by kernel_rfl) ?_
       refine F_store (t := 46) 3 g2 _ _ (by rfl) (by rfl) (by rfl) (by rfl) (by rfl) (hi_2 _) ((c2_size _).trans (c2_size _).symm) (c2_one _) (.inr (List.Sublist.refl _)) ?_
       simp only [List.set_cons_zero, List.set_cons_succ]
       refine flow_one 4 (by kernel_rfl) ?_
       refine F_store (t := 46) 2 g3 _ _ (by rfl) (by rfl) (by rfl) (by rfl) (by rfl) (hi_2 _) ((c2_size _).trans (c2_size _).symm) (c2_one _) (.inr (List.Sublist.refl _)) ?_
       simp only [List.set_cons_zero, List.set_cons_succ]
       refine fV (i := 5) (u := (.int .i64 0)) (h := ?_)
       refine flow_done (by kernel_rfl) ?_
       intro w12 hw12
       refine wp_ret ?_
       change bodyPost _ _ _ Exit.ret _ _
       refine (ret_cct (by rfl) (by rfl) (by rfl) (by rfl) (by rfl) (hw12.blk 3 (by rfl)) (hw12.blk 2 (by rfl)) Tryz.underlying46 (by rfl) (hi_2 _) Tryz.underlying46 (by rfl) (hi_2 _) ⟨?_, hw12.below⟩)
       have hpt : pt2 (L0 : Int) bs0 = (rd2 (seg bs0 0 96), rs2 (abv2 (rd2 (seg bs0 0 96))) true, 0) := by simp only [pt2, if_pos hf0, if_pos hf1, if_pos hf2, if_pos hf3, if_pos hf5]; rw [decide_eq_true hf4]
       rw [hpt]
       dsimp only
       exact rfl
      ·
       refine seq_flow (by kernel_rfl) hw10 [] [(g5, 46, (c2 ((((rd2 (seg bs0 0 96)) * (rd2 (seg bs0 0 96))) * (rd2 (seg bs0 0 96))) + (k0)))), (g4, 5, (cs_1.setIfInBounds (0 + (0)) (.int .u8 ((gt bs0 0) % 32)))), (g3, 46, (c2 (0 : F2))), (g2, 46, (c2 (rd2 (seg bs0 0 96)))), (g1, 109, (grp2 (k0)))] 12 (by rfl) ?_
       refine fT (i := 0) (g := (gL g5 46 (c2 ((((rd2 (seg bs0 0 96)) * (rd2 (seg bs0 0 96))) * (rd2 (seg bs0 0 96))) + (k0))) 0 Tryz.underlying46 (hi_2 _))) (h := ?_)
       refine fV (i := 1) (u := (.slice (some ⟨b0, o0, none⟩) L0 C0)) (h := ?_)
       refine fT (i := 2) (u := (.pointer (some ⟨b0, o0 + 0, none⟩))) (g := (gives_index b0 (o0) L0 C0 (0) 0 (by rfl) (by rfl) und_u8s u8_sz rfl (by omega))) (h := ?_)
       refine fT (i := 3) (u := (.int .u8 (gt bs0 0))) (g := (gives_load_old _ (.int .u8 (gt bs0 0)) (by rfl) (fun _ h => (h.below.cell (p := ⟨b0, _, none⟩) hq0).trans (hc0 0 (by omega))) und_u8')) (h := ?_)
       refine fT (i := 4) (u := (.int .u8 (32 * ((gt bs0 0) / 32 % 2)))) (g := (gives_and (k := .u8) (gt bs0 0) 32 (32 * ((gt bs0 0) / 32 % 2)) (by rfl) (by rfl) (and_32 _ (gt_oct ho0 _).1 (gt_oct ho0 _).2))) (h := ?_)
       refine fT (i := 5) (u := (.bool true)) (g := (gives_ine (k := .u8) (32 * ((gt bs0 0) / 32 % 2)) (0) true (by rfl) (by rfl) (decide_eq_true (by omega)))) (h := ?_)
       refine fT (i := 6) (u := (.tuple #[.agg (c2 (0 : F2)), .int .i64 13])) (g := (gives_call (vl := [.agg (c2 ((((rd2 (seg bs0 0 96)) * (rd2 (seg bs0 0 96))) * (rd2 (seg bs0 0 96))) + (k0))), .bool true]) (by kernel_rfl) (by rfl) (fun w h => by rw [hk0]; exact cd_root2_n (abv2 (rd2 (seg bs0 0 96))) _ w (hG.keep h.below) (hQ.keep h.below) (hU.keep h.below) hf5))) (h := ?_)
       refine fV (i := 7) (u := (.tuple #[.agg (c2 (0 : F2)), .int .i64 13])) (h := ?_)
       refine fT (i := 8) (u := (.agg (c2 (0 : F2)))) (g := gk) (h := ?_)
       refine fT (i := 9) (u := (.int .i64 13)) (g := gk) (h := ?_)
       refine flow_one 10 (by kernel_rfl) ?_
       refine F_store (t := 46) 2 g3 _ _ (by rfl) (by rfl) (by rfl) (by rfl) (by rfl) (hi_2 _) ((c2_size _).trans (c2_size _).symm) (c2_one _) (.inr (List.Sublist.refl _)) ?_
       simp only [List.set_cons_zero, List.set_cons_succ]
       refine fV (i := 11) (u := (.int .i64 13)) (h := ?_)
       refine flow_done (by kernel_rfl) ?_
       intro w11 hw11
       refine seq_flow (by kernel_rfl) hw11 [] [(g5, 46, (c2 ((((rd2 (seg bs0 0 96)) * (rd2 (seg bs0 0 96))) * (rd2 (seg bs0 0 96))) + (k0)))), (g4, 5, (cs_1.setIfInBounds (0 + (0)) (.int .u8 ((gt bs0 0) % 32)))), (g3, 46, (c2 (0 : F2))), (g2, 46, (c2 (rd2 (seg bs0 0 96)))), (g1, 109, (grp2 (k0)))] 6 (by rfl) ?_
       refine fT (i := 0) (g := (gL g2 46 (c2 (rd2 (seg bs0 0 96))) 3 Tryz.underlying46 (hi_2 _))) (h := ?_)
       refine fT (i := 1) (g := (gL g3 46 (c2 (0 : F2)) 2 Tryz.underlying46 (hi_2 _))) (h := ?_)
       refine fV (i := 2) (u := (.int .i64 13)) (h := ?_)
       refine flow_one 3 (by kernel_rfl) ?_
       refine F_store (t := 46) 3 g2 _ _ (by rfl) (by rfl) (by rfl) (by rfl) (by rfl) (hi_2 _) ((c2_size _).trans (c2_size _).symm) (c2_one _) (.inr (List.Sublist.refl _)) ?_
       simp only [List.set_cons_zero, List.set_cons_succ]
       refine flow_one 4 (by kernel_rfl) ?_
       refine F_store (t := 46) 2 g3 _ _ (by rfl) (by rfl) (by rfl) (by rfl) (by rfl) (hi_2 _) ((c2_size _).trans (c2_size _).symm) (c2_one _) (.inr (List.Sublist.refl _)) ?_
       simp only [List.set_cons_zero, List.set_cons_succ]
       refine fV (i := 5) (u := (.int .i64 13)) (h := ?_)
       refine flow_done (by kernel_rfl) ?_
       intro w12 hw12
       refine wp_ret ?_
       change bodyPost _ _ _ Exit.ret _ _
       refine (ret_cct (by rfl) (by rfl) (by rfl) (by rfl) (by rfl) (hw12.blk 3 (by rfl)) (hw12.blk 2 (by rfl)) Tryz.underlying46 (by rfl) (hi_2 _) Tryz.underlying46 (by rfl) (hi_2 _) ⟨?_, hw12.below⟩)
       have hpt : pt2 (L0 : Int) bs0 = (rd2 (seg bs0 0 96), (0 : F2), 13) := by simp only [pt2, if_pos hf0, if_pos hf1, if_pos hf2, if_pos hf3, if_neg hf5]
       rw [hpt]
       dsimp only
       exact rfl
    ·
     refine seq_flow (by kernel_rfl) hw6 [] [(g4, 5, (cs_1.setIfInBounds (0 + (0)) (.int .u8 ((gt bs0 0) % 32)))), (g3, 46, (c2 (0 : F2))), (g2, 46, (c2 (0 : F2))), (g1, 109, (grp2 (k0)))] 12 (by rfl) ?_
     refine fT (i := 0) (u := (.pointer (some ⟨g1, 1, none⟩))) (g := gk) (h := ?_)
     refine fT (i := 1) (u := (.func (.func 29) #[] #[])) (g := (gives_loadV g1 1 (grp2 (k0)) (.func (.func 29) #[] #[]) (by rfl) (fun _ h => h.blk 3 (by rfl)) (grp2_1 _) Tryz.underlying52 (by rfl))) (h := ?_)
     refine fV (i := 2) (u := (.slice (some ⟨g4, 0, none⟩) L0 cap_1)) (h := ?_)
     refine fT (i := 3) (u := (.pointer (some ⟨g1, 0, none⟩))) (g := gk) (h := ?_)
     refine fT (i := 4) (u := (.int .i64 96)) (g := (gives_load1 g1 0 _ (grp2 (k0)) (.int .i64 96) (by rfl) (fun _ h => h.blk 3 (by rfl)) (grp2_0 _) und_int)) (h := ?_)
     refine fT (i := 5) (u := (.slice (some ⟨g4, 0, none⟩) 96 cap_1)) (g := (gives_slice_to g4 L0 cap_1 96 (96) (by rfl) (by rfl) und_u8s u8_sz (by omega) (by omega))) (h := ?_)
     refine fT (i := 6) (u := (.tuple #[.agg (c2 (0 : F2)), .int .i64 12])) (g := (gives_callT (f := 29) (q := 50) (vl := [.slice (some ⟨g4, 0, none⟩) 96 cap_1]) (by rfl) (by kernel_rfl) (by rfl) (fun w h => rdno2 (seg bs0 0 96) _ _ _ w (hG.keep h.below) (seg_reads (h.blk 0 (by rfl)) hq_1.2.2 hl0 0 96 (by omega)) (seg_oct ho0 _ _) (by omega) hf3))) (h := ?_)
     refine fV (i := 7) (u := (.tuple #[.agg (c2 (0 : F2)), .int .i64 12])) (h := ?_)
     refine fT (i := 8) (u := (.agg (c2 (0 : F2)))) (g := gk) (h := ?_)
     refine fT (i := 9) (u := (.int .i64 12)) (g := gk) (h := ?_)
     refine flow_one 10 (by kernel_rfl) ?_
     refine F_store (t := 46) 2 g2 _ _ (by rfl) (by rfl) (by rfl) (by rfl) (by rfl) (hi_2 _) ((c2_size _).trans (c2_size _).symm) (c2_one _) (.inr (List.Sublist.refl _)) ?_
     simp only [List.set_cons_zero, List.set_cons_succ]
     refine fV (i := 11) (u := (.int .i64 12)) (h := ?_)
     refine flow_done (by kernel_rfl) ?_
     intro w7 hw7
     refine seq_plain hw7 [0, 1] (by rfl) ?_
     refine lv (.int .i64 12) (h := ?_)
     refine L_val (.bool true) (by rfl) (by rfl) (gives_ine (k := .i64) (12) (0) true (by rfl) (by rfl) (by decide)) ?_
     refine L_end ?_
     intro w8 hw8
     refine wp_cond_true (fr_at _ _ (by rfl) _) ?_
     refine seq_flow (by kernel_rfl) hw8 [] [(g4, 5, (cs_1.setIfInBounds (0 + (0)) (.int .u8 ((gt bs0 0) % 32)))), (g3, 46, (c2 (0 : F2))), (g2, 46, (c2 (0 : F2))), (g1, 109, (grp2 (k0)))] 6 (by rfl) ?_
     refine fT (i := 0) (g := (gL g2 46 (c2 (0 : F2)) 2 Tryz.underlying46 (hi_2 _))) (h := ?_)
     refine fT (i := 1) (g := (gL g3 46 (c2 (0 : F2)) 1 Tryz.underlying46 (hi_2 _))) (h := ?_)
     refine fV (i := 2) (u := (.int .i64 12)) (h := ?_)
     refine flow_one 3 (by kernel_rfl) ?_
     refine F_store (t := 46) 2 g2 _ _ (by rfl) (by rfl) (by rfl) (by rfl) (by rfl) (hi_2 _) ((c2_size _).trans (c2_size _).symm) (c2_one _) (.inr (List.Sublist.refl _)) ?_
     simp only [List.set_cons_zero, List.set_cons_succ]
     refine flow_one 4 (by kernel_rfl) ?_
     refine F_store (t := 46) 1 g3 _ _ (by rfl) (by rfl) (by rfl) (by rfl) (by rfl) (hi_2 _) ((c2_size _).trans (c2_size _).symm) (c2_one _) (.inr (List.Sublist.refl _)) ?_
     simp only [List.set_cons_zero, List.set_cons_succ]
     refine fV (i := 5) (u := (.int .i64 12)) (h := ?_)
     refine flow_done (by kernel_rfl) ?_
     intro w9 hw9
     refine wp_ret ?_
     change bodyPost _ _ _ Exit.ret _ _
     refine (ret_cct (by rfl) (by rfl) (by rfl) (by rfl) (by rfl) (hw9.blk 2 (by rfl)) (hw9.blk 1 (by rfl)) Tryz.underlying46 (by rfl) (hi_2 _) Tryz.underlying46 (by rfl) (hi_2 _) ⟨?_, hw9.below⟩)
     have hpt : pt2 (L0 : Int) bs0 = ((0 : F2), (0 : F2), 12) := by simp only [pt2, if_pos hf0, if_pos hf1, if_pos hf2, if_neg hf3]
     rw [hpt]
     dsimp only
     exact rfl
   ·
    refine L_val (.bool true) (by rfl) (by rfl) (gives_ine (k := .u8) (64 * ((gt bs0 0) / 64 % 2)) (0) true (by rfl) (by rfl) (decide_eq_true (by omega))) ?_
    refine L_end ?_
    intro w4 hw4
    refine wp_cond_true (fr_at _ _ (by rfl) _) ?_
    refine seq_flow (by kernel_rfl) hw4 [] [(g3, 46, (c2 (0 : F2))), (g2, 46, (c2 (0 : F2))), (g1, 109, (grp2 (k0)))] 5 (by rfl) ?_
    refine fT (i := 0) (g := (gL g2 46 (c2 (0 : F2)) 1 Tryz.underlying46 (hi_2 _))) (h := ?_)
    refine fT (i := 1) (g := (gL g3 46 (c2 (0 : F2)) 0 Tryz.underlying46 (hi_2 _))) (h := ?_)
    refine flow_one 2 (by kernel_rfl) ?_
    refine F_store (t := 46) 1 g2 _ _ (by rfl) (by rfl) (by rfl) (by rfl) (by rfl) (hi_2 _) ((c2_size _).trans (c2_size _).symm) (c2_one _) (.inr (List.Sublist.refl _)) ?_
    simp only [List.set_cons_zero, List.set_cons_succ]
    refine flow_one 3 (by kernel_rfl) ?_
    refine F_store (t := 46) 0 g3 _ _ (by rfl) (by rfl) (by rfl) (by rfl) (by rfl) (hi_2 _) ((c2_size _).trans (c2_size _).symm) (c2_one _) (.inr (List.Sublist.refl _)) ?_
    simp only [List.set_cons_zero, List.set_cons_succ]
    refine fV (i := 4) (u := (.int .i64 0)) (h := ?_)
    refine flow_done (by kernel_rfl) ?_
    intro w5 hw5
    refine wp_ret ?_
    change bodyPost _ _ _ Exit.ret _ _
    refine (ret_cct (by rfl) (by rfl) (by rfl) (by rfl) (by rfl) (hw5.blk 1 (by rfl)) (hw5.blk 0 (by rfl)) Tryz.underlying46 (by rfl) (hi_2 _) Tryz.underlying46 (by rfl) (hi_2 _) ⟨?_, hw5.below⟩)
    have hpt : pt2 (L0 : Int) bs0 = ((0 : F2), (0 : F2), 0) := by simp only [pt2, if_pos hf0, if_pos hf1, if_neg hf2]
    rw [hpt]
    dsimp only
    exact rfl
  ·
   refine L_val (.bool false) (by rfl) (by rfl) (gives_call (vl := [.slice (some ⟨b0, o0, none⟩) L0 C0, .bool true]) (by kernel_rfl) (by rfl) (fun w h => cd_form_tf _ _ _ _ _ w hl0 ho0 (Nat.lt_of_lt_of_le hq0 h.below.size) (fun j hj => (h.below.cell (p := ⟨b0, _, none⟩) hq0).trans (hc0 j hj)) (by omega) hLC hLm hf1)) ?_
   refine lv (.bool true) (h := ?_)
   refine L_end ?_
   intro w3 hw3
   refine wp_cond_true (fr_at _ _ (by rfl) _) ?_
   refine seq_flow (by kernel_rfl) hw3 [] [(g3, 46, (c2 (0 : F2))), (g2, 46, (c2 (0 : F2))), (g1, 109, (grp2 (k0)))] 5 (by rfl) ?_
   refine fT (i := 0) (g := (gL g2 46 (c2 (0 : F2)) 1 Tryz.underlying46 (hi_2 _))) (h := ?_)
   refine fT (i := 1) (g := (gL g3 46 (c2 (0 : F2)) 0 Tryz.underlying46 (hi_2 _))) (h := ?_)
   refine flow_one 2 (by kernel_rfl) ?_
   refine F_store (t := 46) 1 g2 _ _ (by rfl) (by rfl) (by rfl) (by rfl) (by rfl) (hi_2 _) ((c2_size _).trans (c2_size _).symm) (c2_one _) (.inr (List.Sublist.refl _)) ?_
   simp only [List.set_cons_zero, List.set_cons_succ]
   refine flow_one 3 (by kernel_rfl) ?_
   refine F_store (t := 46) 0 g3 _ _ (by rfl) (by rfl) (by rfl) (by rfl) (by rfl) (hi_2 _) ((c2_size _).trans (c2_size _).symm) (c2_one _) (.inr (List.Sublist.refl _)) ?_
   simp only [List.set_cons_zero, List.set_cons_succ]
   refine fV (i := 4) (u := (.int .i64 11)) (h := ?_)
   refine flow_done (by kernel_rfl) ?_
   intro w4 hw4
   refine wp_ret ?_
   change bodyPost _ _ _ Exit.ret _ _
   refine (ret_cct (by rfl) (by rfl) (by rfl) (by rfl) (by rfl) (hw4.blk 1 (by rfl)) (hw4.blk 0 (by rfl)) Tryz.underlying46 (by rfl) (hi_2 _) Tryz.underlying46 (by rfl) (hi_2 _) ⟨?_, hw4.below⟩)
   have hpt : pt2 (L0 : Int) bs0 = ((0 : F2), (0 : F2), 11) := by simp only [pt2, if_pos hf0, if_neg hf1]
   rw [hpt]
   dsimp only
   exact rfl
 ·
  refine L_val (.bool true) (by rfl) (by rfl) (gives_ine (k := .i64) ((L0 : Int)) (96) true (by rfl) (by rfl) (decide_eq_true (by omega))) ?_
  refine lv (.bool true) (h := ?_)
  refine L_val_g (dj := 14) (.slice (some ⟨b0, o0, none⟩) L0 C0) (by rfl) (by rfl) (by rfl) (by rfl) (by rfl) gv ?_
  refine L_val_g (dj := 14) (.int .i64 (L0 : Int)) (by rfl) (by rfl) (by rfl) (by rfl) (by rfl) (gives_len _ L0 C0 und_u8s (by rfl)) ?_
  refine L_val_g (dj := 14) (.pointer (some ⟨g1, 0, none⟩)) (by rfl) (by rfl) (by rfl) (by rfl) (by rfl) gk ?_
  refine L_val_g (dj := 14) (.int .i64 96) (by rfl) (by rfl) (by rfl) (by rfl) (by rfl) (gives_load1 g1 0 _ (grp2 (k0)) (.int .i64 96) (by rfl) (fun _ h => h.blk 2 (by rfl)) (grp2_0 _) und_int) ?_
  refine L_val_g (dj := 14) (.int .i64 192) (by rfl) (by rfl) (by rfl) (by rfl) (by rfl) (gives_mul (k := .i64) 2 96 192 (by rfl) (by rfl) (by rfl)) ?_
  by_cases hf1 : (L0 : Int) = 192
  ·
   refine L_val_g (dj := 14) (.bool false) (by rfl) (by rfl) (by rfl) (by rfl) (by rfl) (gives_ine (k := .i64) ((L0 : Int)) (192) false (by rfl) (by rfl) (decide_eq_false (by omega))) ?_
   refine lv (.bool false) (h := ?_)
   refine L_end ?_
   intro w2 hw2
   refine wp_cond_false (fr_at _ _ (by rfl) _) ?_
   refine wp_skip ?_
   change Code.wp _ _ _ _ _
   refine wp_seq ?_
   refine seq_plain hw2 [0, 1, 2, 3, 4, 5, 6, 7] (by rfl) ?_
   refine lv (.slice (some ⟨b0, o0, none⟩) L0 C0) (h := ?_)
   refine lv (.slice (some ⟨b0, o0, none⟩) L0 C0) (h := ?_)
   refine L_val (.int .i64 (L0 : Int)) (by rfl) (by rfl) (gives_len _ L0 C0 und_u8s (by rfl)) ?_
   refine L_val (.pointer (some ⟨g1, 0, none⟩)) (by rfl) (by rfl) gk ?_
   refine L_val (.int .i64 96) (by rfl) (by rfl) (gives_load1 g1 0 _ (grp2 (k0)) (.int .i64 96) (by rfl) (fun _ h => h.blk 2 (by rfl)) (grp2_0 _) und_int) ?_
   refine L_val (.bool false) (by rfl) (by rfl) (gives_ieq (k := .i64) ((L0 : Int)) (96) false (by rfl) (by rfl) (decide_eq_false (by omega))) ?_
   by_cases hf2 : frm bs0 false = true
   ·
    refine L_val (.bool true) (by rfl) (by rfl) (gives_call (vl := [.slice (some ⟨b0, o0, none⟩) L0 C0, .bool false]) (by kernel_rfl) (by rfl) (fun w h => cd_form_ft _ _ _ _ _ w hl0 ho0 (Nat.lt_of_lt_of_le hq0 h.below.size) (fun j hj => (h.below.cell (p := ⟨b0, _, none⟩) hq0).trans (hc0 j hj)) (by omega) hLC hLm hf2)) ?_
    refine lv (.bool false) (h := ?_)
    refine L_end ?_
    intro w3 hw3
    refine wp_cond_false (fr_at _ _ (by rfl) _) ?_
    refine wp_skip ?_
    change Code.wp _ _ _ _ _
    refine wp_seq ?_
    refine seq_plain hw3 [0, 1, 2, 3, 4] (by rfl) ?_
    refine lv (.slice (some ⟨b0, o0, none⟩) L0 C0) (h := ?_)
    refine L_val (.pointer (some ⟨b0, o0 + 0, none⟩)) (by rfl) (by rfl) (gives_index b0 (o0) L0 C0 (0) 0 (by rfl) (by rfl) und_u8s u8_sz rfl (by omega)) ?_
    refine L_val (.int .u8 (gt bs0 0)) (by rfl) (by rfl) (gives_load_old _ (.int .u8 (gt bs0 0)) (by rfl) (fun _ h => (h.below.cell (p := ⟨b0, _, none⟩) hq0).trans (hc0 0 (by omega))) und_u8') ?_
    refine L_val (.int .u8 (64 * ((gt bs0 0) / 64 % 2))) (by rfl) (by rfl) (gives_and (k := .u8) (gt bs0 0) 64 (64 * ((gt bs0 0) / 64 % 2)) (by rfl) (by rfl) (and_64 _ (gt_oct ho0 _).1 (gt_oct ho0 _).2)) ?_
    by_cases hf3 : (64 * ((gt bs0 0) / 64 % 2)) = 0
    ·
     refine L_val (.bool false) (by rfl) (by rfl) (gives_ine (k := .u8) (64 * ((gt bs0 0) / 64 % 2)) (0) false (by rfl) (by rfl) (decide_eq_false (by omega))) ?_
     refine L_end ?_
     intro w4 hw4
     refine wp_cond_false (fr_at _ _ (by rfl) _) ?_
     refine wp_skip ?_
     change Code.wp _ _ _ _ _
     refine seq_plain hw4 [0, 1, 2] (by rfl) ?_
     refine lv (.slice (some ⟨b0, o0, none⟩) L0 C0) (h := ?_)
     refine L_freshX (vl := [.slice (some ⟨b0, o0, none⟩) L0 C0]) 5 (fun g cap => .slice (some ⟨g, 0, none⟩) L0 cap) (fun cap cs => L0 ≤ cap ∧ cs.size = cap ∧ cs.toList.take L0 = bs0.map (Value.int .u8)) (by rfl) (by rfl) Want.none (by kernel_rfl) (by rfl)  (fun w h => cd_clone _ _ _ _ _ w ((hr0.below h.below).more h.below.size) (by omega) hLm) ?_; intro g4 cap_1 cs_1 hq_1
     refine lv (.slice (some ⟨g4, 0, none⟩) L0 cap_1) (h := ?_)
     refine L_end ?_
     intro w5 hw5
     refine seq_plain hw5 [0, 1, 2, 3, 4, 5] (by rfl) ?_
     refine lv (.slice (some ⟨g4, 0, none⟩) L0 cap_1) (h := ?_)
     refine L_val (.pointer (some ⟨g4, 0 + (0), none⟩)) (by rfl) (by rfl) (gives_index g4 0 (L0) (cap_1) (0) (0) (by rfl) (by rfl) und_u8s u8_sz (by omega) (by omega)) ?_
     refine L_val (.int .u8 (gt bs0 0)) (by rfl) (by rfl) (gives_load1 g4 (0 + (0)) _ cs_1 (.int .u8 (gt bs0 0)) (by rfl) (fun _ h => h.blk 0 (by rfl)) (front_at hq_1.2.2 hl0 0 (by omega)) und_u8') ?_
     refine L_val (.int .u8 ((gt bs0 0) % 32)) (by rfl) (by rfl) (gives_andNot (k := .u8) (gt bs0 0) 224 ((gt bs0 0) % 32) (by rfl) (by rfl) (clear_224 _ (gt_oct ho0 _).1 (gt_oct ho0 _).2)) ?_
     refine L_val (.pointer (some ⟨g4, 0 + (0), none⟩)) (by rfl) (by rfl) (gives_index g4 0 (L0) (cap_1) (0) (0) (by rfl) (by rfl) und_u8s u8_sz (by omega) (by omega)) ?_
     refine L_store1 0 g4 (0 + (0)) _ cs_1 (.int .u8 ((gt bs0 0) % 32)) (by rfl) (by rfl) (by rfl) (by rfl) rfl (by rfl) u8_sz (by omega) ?_
     simp only [List.set_cons_zero, List.set_cons_succ]
     refine L_end ?_
     intro w6 hw6
     refine wp_seq ?_
     by_cases hf4 : ok2 (seg bs0 0 96)
     ·
      refine seq_flow (by kernel_rfl) hw6 [] [(g4, 5, (cs_1.setIfInBounds (0 + (0)) (.int .u8 ((gt bs0 0) % 32)))), (g3, 46, (c2 (0 : F2))), (g1, 109, (grp2 (k0)))] 12 (by rfl) ?_
      refine fTs (i := 0) (u := (.pointer (some ⟨g1, 1, none⟩))) (e := (List.Sublist.cons_cons _ (List.Sublist.cons_cons _ (List.Sublist.cons _ (List.Sublist.refl _))))) (g := gk) (h := ?_)
      refine fTs (i := 1) (u := (.func (.func 29) #[] #[])) (e := (List.Sublist.cons_cons _ (List.Sublist.cons_cons _ (List.Sublist.cons _ (List.Sublist.refl _))))) (g := (gives_loadV g1 1 (grp2 (k0)) (.func (.func 29) #[] #[]) (by rfl) (fun _ h => h.blk 2 (by rfl)) (grp2_1 _) Tryz.underlying52 (by rfl))) (h := ?_)
      refine fTs (i := 2) (u := (.slice (some ⟨g4, 0, none⟩) L0 cap_1)) (e := (List.Sublist.cons_cons _ (List.Sublist.cons_cons _ (List.Sublist.cons _ (List.Sublist.refl _))))) (g := gv) (h := ?_)
      refine fTs (i := 3) (u := (.pointer (some ⟨g1, 0, none⟩))) (e := (List.Sublist.cons_cons _ (List.Sublist.cons_cons _ (List.Sublist.cons _ (List.Sublist.refl _))))) (g := gk) (h := ?_)
      refine fTs (i := 4) (u := (.int .i64 96)) (e := (List.Sublist.cons_cons _ (List.Sublist.cons_cons _ (List.Sublist.cons _ (List.Sublist.refl _))))) (g := (gives_load1 g1 0 _ (grp2 (k0)) (.int .i64 96) (by rfl) (fun _ h => h.blk 2 (by rfl)) (grp2_0 _) und_int)) (h := ?_)
      refine fTs (i := 5) (u := (.slice (some ⟨g4, 0, none⟩) 96 cap_1)) (e := (List.Sublist.cons_cons _ (List.Sublist.cons_cons _ (List.Sublist.cons _ (List.Sublist.refl _))))) (g := (gives_slice_to g4 L0 cap_1 96 (96) (by rfl) (by rfl) und_u8s u8_sz (by omega) (by omega))) (h := ?_)
      refine fTs (i := 6) (u := (.tuple #[.agg (c2 (rd2 (seg bs0 0 96))), .int .i64 0])) (e := (List.Sublist.cons_cons _ (List.Sublist.cons_cons _ (List.Sublist.cons _ (List.Sublist.refl _))))) (g := (gives_callT (f := 29) (q := 50) (vl := [.slice (some ⟨g4, 0, none⟩) 96 cap_1]) (by rfl) (by kernel_rfl) (by rfl) (fun w h => rdok2 (seg bs0 0 96) _ _ _ w (hG.keep h.below) (seg_reads (h.blk 0 (by rfl)) hq_1.2.2 hl0 0 96 (by omega)) (seg_oct ho0 _ _) (by omega) hf4))) (h := ?_)
      refine fTs (i := 7) (u := (.tuple #[.agg (c2 (rd2 (seg bs0 0 96))), .int .i64 0])) (e := (List.Sublist.cons_cons _ (List.Sublist.cons_cons _ (List.Sublist.cons _ (List.Sublist.refl _))))) (g := gv) (h := ?_)
      refine fTs (i := 8) (u := (.agg (c2 (rd2 (seg bs0 0 96))))) (e := (List.Sublist.cons_cons _ (List.Sublist.cons_cons _ (List.Sublist.cons _ (List.Sublist.refl _))))) (g := gk) (h := ?_)
      refine fTs (i := 9) (u := (.int .i64 0)) (e := (List.Sublist.cons_cons _ (List.Sublist.cons_cons _ (List.Sublist.cons _ (List.Sublist.refl _))))) (g := gk) (h := ?_)
      refine flow_one 10 (by kernel_rfl) ?_
      refine F_store (t := 46) 2 g2 _ _ (by rfl) (by rfl) (by rfl) (by rfl) (by rfl) (hi_2 _) ((c2_size _).trans (c2_size _).symm) (c2_one _) (.inr (List.Sublist.cons_cons _ (List.Sublist.cons_cons _ (List.Sublist.cons _ (List.Sublist.refl _))))) ?_
      simp only [List.set_cons_zero, List.set_cons_succ]
      refine fTs (i := 11) (u := (.int .i64 0)) (e := (List.Sublist.cons_cons _ (List.Sublist.cons_cons _ (List.Sublist.cons _ (List.Sublist.refl _))))) (g := gv) (h := ?_)
      refine flow_done (by kernel_rfl) ?_
      intro w7 hw7
      refine seq_plain hw7 [0, 1] (by rfl) ?_
      refine lv (.int .i64 0) (h := ?_)
      refine L_val (.bool false) (by rfl) (by rfl) (gives_ine (k := .i64) (0) (0) false (by rfl) (by rfl) (by decide)) ?_
      refine L_end ?_
      intro w8 hw8
      refine wp_cond_false (fr_at _ _ (by rfl) _) ?_
      refine wp_skip ?_
      change Code.wp _ _ _ _ _
      refine seq_flow (by kernel_rfl) hw8 [] [(g4, 5, (cs_1.setIfInBounds (0 + (0)) (.int .u8 ((gt bs0 0) % 32)))), (g3, 46, (c2 (0 : F2))), (g2, 46, (c2 (rd2 (seg bs0 0 96)))), (g1, 109, (grp2 (k0)))] 12 (by rfl) ?_
      refine fT (i := 0) (g := (gL g2 46 (c2 (rd2 (seg bs0 0 96))) 2 Tryz.underlying46 (hi_2 _))) (h := ?_)
      refine fT (i := 1) (u := (.iface 46 (.agg (c2 (rd2 (seg bs0 0 96)))))) (g := gk) (h := ?_)
      refine fT (i := 2) (g := (gives_invoke (vl := []) (by rfl) (me2_Square _) (by kernel_rfl) (by rfl) (fun w h => q_square _ w (hG.keep h.below)))) (h := ?_)
      refine fT (i := 3) (u := (.iface 46 (.agg (c2 ((rd2 (seg bs0 0 96)) * (rd2 (seg bs0 0 96))))))) (g := gk) (h := ?_)
      refine fT (i := 4) (g := (gL g2 46 (c2 (rd2 (seg bs0 0 96))) 2 Tryz.underlying46 (hi_2 _))) (h := ?_)
      refine fT (i := 5) (g := (gives_invoke (vl := [.agg (c2 (rd2 (seg bs0 0 96)))]) (by rfl) (me2_Mul _) (by kernel_rfl) (by rfl) (fun w h => q_mul _ _ w (hG.keep h.below)))) (h := ?_)
      refine fT (i := 6) (u := (.iface 46 (.agg (c2 (((rd2 (seg bs0 0 96)) * (rd2 (seg bs0 0 96))) * (rd2 (seg bs0 0 96))))))) (g := gk) (h := ?_)
      refine fT (i := 7) (u := (.pointer (some ⟨g1, 2, none⟩))) (g := gk) (h := ?_)
      refine fT (i := 8) (g := (gives_load g1 2 109 (grp2 (k0)) (c2 (k0)) _ (by rfl) (fun _ h => h.blk 3 (by rfl)) (grp2_sl _) Tryz.underlying46 (by rfl) (hi_2 _))) (h := ?_)
      refine fT (i := 9) (g := (gives_invoke (vl := [.agg (c2 (k0))]) (by rfl) (me2_Add _) (by kernel_rfl) (by rfl) (fun w h => q_add _ _ w (hG.keep h.below)))) (h := ?_)
      refine flow_one 10 (by kernel_rfl) ?_
      refine F_alloc _ (by rfl) (by rfl) z_2 (c2 (0 : F2)) rfl (List.Sublist.refl _) ?_; intro g5
      refine flow_one 11 (by kernel_rfl) ?_
      refine F_store (t := 46) 0 g5 _ _ (by rfl) (by rfl) (by rfl) (by rfl) (by rfl) (hi_2 _) ((c2_size _).trans (c2_size _).symm) (c2_one _) (.inr (List.Sublist.cons _ (List.Sublist.refl _))) ?_
      simp only [List.set_cons_zero, List.set_cons_succ]
      refine flow_done (by kernel_rfl) ?_
      intro w9 hw9
      refine wp_seq ?_
      refine seq_plain hw9 [0, 1, 2, 3, 4] (by rfl) ?_
      refine lv (.slice (some ⟨b0, o0, none⟩) L0 C0) (h := ?_)
      refine L_val (.int .i64 (L0 : Int)) (by rfl) (by rfl) (gives_len _ L0 C0 und_u8s (by rfl)) ?_
      refine L_val (.pointer (some ⟨g1, 0, none⟩)) (by rfl) (by rfl) gk ?_
      refine L_val (.int .i64 96) (by rfl) (by rfl) (gives_load1 g1 0 _ (grp2 (k0)) (.int .i64 96) (by rfl) (fun _ h => h.blk 4 (by rfl)) (grp2_0 _) und_int) ?_
      refine L_val (.bool false) (by rfl) (by rfl) (gives_ieq (k := .i64) ((L0 : Int)) (96) false (by rfl) (by rfl) (decide_eq_false (by omega))) ?_
      refine L_end ?_
      intro w10 hw10
      refine wp_cond_false (fr_at _ _ (by rfl) _) ?_
      refine wp_skip ?_
      change Code.wp _ _ _ _ _
      refine wp_seq ?_
      by_cases hf5 : ok2 (seg bs0 96 96)
      ·
       refine seq_flow (by kernel_rfl) hw10 [] [(g5, 46, (c2 ((((rd2 (seg bs0 0 96)) * (rd2 (seg bs0 0 96))) * (rd2 (seg bs0 0 96))) + (k0)))), (g4, 5, (cs_1.setIfInBounds (0 + (0)) (.int .u8 ((gt bs0 0) % 32)))), (g2, 46, (c2 (rd2 (seg bs0 0 96)))), (g1, 109, (grp2 (k0)))] 12 (by rfl) ?_
       refine fTs (i := 0) (u := (.pointer (some ⟨g1, 1, none⟩))) (e := (List.Sublist.cons_cons _ (List.Sublist.cons_cons _ (List.Sublist.cons _ (List.Sublist.refl _))))) (g := gk) (h := ?_)
       refine fTs (i := 1) (u := (.func (.func 29) #[] #[])) (e := (List.Sublist.cons_cons _ (List.Sublist.cons_cons _ (List.Sublist.cons _ (List.Sublist.refl _))))) (g := (gives_loadV g1 1 (grp2 (k0)) (.func (.func 29) #[] #[]) (by rfl) (fun _ h => h.blk 3 (by rfl)) (grp2_1 _) Tryz.underlying52 (by rfl))) (h := ?_)
       refine fTs (i := 2) (u := (.slice (some ⟨g4, 0, none⟩) L0 cap_1)) (e := (List.Sublist.cons_cons _ (List.Sublist.cons_cons _ (List.Sublist.cons _ (List.Sublist.refl _))))) (g := gv) (h := ?_)
       refine fTs (i := 3) (u := (.pointer (some ⟨g1, 0, none⟩))) (e := (List.Sublist.cons_cons _ (List.Sublist.cons_cons _ (List.Sublist.cons _ (List.Sublist.refl _))))) (g := gk) (h := ?_)
       refine fTs (i := 4) (u := (.int .i64 96)) (e := (List.Sublist.cons_cons _ (List.Sublist.cons_cons _ (List.Sublist.cons _ (List.Sublist.refl _))))) (g := (gives_load1 g1 0 _ (grp2 (k0)) (.int .i64 96) (by rfl) (fun _ h => h.blk 3 (by rfl)) (grp2_0 _) und_int)) (h := ?_)
       refine fTs (i := 5) (u := (.slice (some ⟨g4, 0 + 96, none⟩) 96 (cap_1 - 96))) (e := (List.Sublist.cons_cons _ (List.Sublist.cons_cons _ (List.Sublist.cons _ (List.Sublist.refl _))))) (g := (gives_slice_fromQ g4 (0) L0 cap_1 96 96 96 (by rfl) (by rfl) und_u8s u8_sz (by rfl) (by omega) (by omega) (by omega))) (h := ?_)
       refine fTs (i := 6) (u := (.tuple #[.agg (c2 (rd2 (seg bs0 96 96))), .int .i64 0])) (e := (List.Sublist.cons_cons _ (List.Sublist.cons_cons _ (List.Sublist.cons _ (List.Sublist.refl _))))) (g := (gives_callT (f := 29) (q := 93) (vl := [.slice (some ⟨g4, 0 + 96, none⟩) 96 (cap_1 - 96)]) (by rfl) (by kernel_rfl) (by rfl) (fun w h => rdok2 (seg bs0 96 96) _ _ _ w (hG.keep h.below) (seg_reads (h.blk 1 (by rfl)) hq_1.2.2 hl0 96 96 (by omega)) (seg_oct ho0 _ _) (by omega) hf5))) (h := ?_)
       refine fTs (i := 7) (u := (.tuple #[.agg (c2 (rd2 (seg bs0 96 96))), .int .i64 0])) (e := (List.Sublist.cons_cons _ (List.Sublist.cons_cons _ (List.Sublist.cons _ (List.Sublist.refl _))))) (g := gv) (h := ?_)
       refine fTs (i := 8) (u := (.agg (c2 (rd2 (seg bs0 96 96))))) (e := (List.Sublist.cons_cons _ (List.Sublist.cons_cons _ (List.Sublist.cons _ (List.Sublist.refl _))))) (g := gk) (h := ?_)
       refine fTs (i := 9) (u := (.int .i64 0)) (e := (List.Sublist.cons_cons _ (List.Sublist.cons_cons _ (List.Sublist.cons _ (List.Sublist.refl _))))) (g := gk) (h := ?_)
       refine flow_one 10 (by kernel_rfl) ?_
       refine F_store (t := 46) 2 g3 _ _ (by rfl) (by rfl) (by rfl) (by rfl) (by rfl) (hi_2 _) ((c2_size _).trans (c2_size _).symm) (c2_one _) (.inr (List.Sublist.cons_cons _ (List.Sublist.cons_cons _ (List.Sublist.cons _ (List.Sublist.refl _))))) ?_
       simp only [List.set_cons_zero, List.set_cons_succ]
       refine fTs (i := 11) (u := (.int .i64 0)) (e := (List.Sublist.cons_cons _ (List.Sublist.cons_cons _ (List.Sublist.cons _ (List.Sublist.refl _))))) (g := gv) (h := ?_)
       refine flow_done (by kernel_rfl) ?_
       intro w11 hw11
       refine seq_plain hw11 [0, 1] (by rfl) ?_
       refine lv (.int .i64 0) (h := ?_)
       refine L_val (.bool false) (by rfl) (by rfl) (gives_ine (k := .i64) (0) (0) false (by rfl) (by rfl) (by decide)) ?_
       refine L_end ?_
       intro w12 hw12
       refine wp_cond_false (fr_at _ _ (by rfl) _) ?_
       refine wp_skip ?_
       change Code.wp _ _ _ _ _
       refine wp_seq ?_
       by_cases hf6 : ((rd2 (seg bs0 96 96)) * (rd2 (seg bs0 96 96))) = abv2 (rd2 (seg bs0 0 96))
       ·
        refine seq_flow (by kernel_rfl) hw12 [] [(g5, 46, (c2 ((((rd2 (seg bs0 0 96)) * (rd2 (seg bs0 0 96))) * (rd2 (seg bs0 0 96))) + (k0)))), (g4, 5, (cs_1.setIfInBounds (0 + (0)) (.int .u8 ((gt bs0 0) % 32)))), (g3, 46, (c2 (rd2 (seg bs0 96 96)))), (g2, 46, (c2 (rd2 (seg bs0 0 96)))), (g1, 109, (grp2 (k0)))] 5 (by rfl) ?_
        refine fT (i := 0) (g := (gL g3 46 (c2 (rd2 (seg bs0 96 96))) 2 Tryz.underlying46 (hi_2 _))) (h := ?_)
        refine fT (i := 1) (u := (.iface 46 (.agg (c2 (rd2 (seg bs0 96 96)))))) (g := gk) (h := ?_)
        refine fT (i := 2) (g := (gives_invoke (vl := []) (by rfl) (me2_Square _) (by kernel_rfl) (by rfl) (fun w h => q_square _ w (hG.keep h.below)))) (h := ?_)
        refine fT (i := 3) (g := (gL g5 46 (c2 ((((rd2 (seg bs0 0 96)) * (rd2 (seg bs0 0 96))) * (rd2 (seg bs0 0 96))) + (k0))) 0 Tryz.underlying46 (hi_2 _))) (h := ?_)
        refine fT (i := 4) (u := (.bool false)) (g := (gives_neq (c2 ((rd2 (seg bs0 96 96)) * (rd2 (seg bs0 96 96)))) (c2 ((((rd2 (seg bs0 0 96)) * (rd2 (seg bs0 0 96))) * (rd2 (seg bs0 0 96))) + (k0))) true (by rfl) (by rfl) (by kernel_rfl) (fun w => eq_2_t (d := 9996) w (by rw [hk0]; exact hf6)))) (h := ?_)
        refine flow_done (by kernel_rfl) ?_
        intro w13 hw13
        refine wp_cond_false (fr_at _ _ (by rfl) _) ?_
        refine wp_skip ?_
        change Code.wp _ _ _ _ _
        refine seq_flow (by kernel_rfl) hw13 [] [(g5, 46, (c2 ((((rd2 (seg bs0 0 96)) * (rd2 (seg bs0 0 96))) * (rd2 (seg bs0 0 96))) + (k0)))), (g4, 5, (cs_1.setIfInBounds (0 + (0)) (.int .u8 ((gt bs0 0) % 32)))), (g3, 46, (c2 (rd2 (seg bs0 96 96)))), (g2, 46, (c2 (rd2 (seg bs0 0 96)))), (g1, 109, (grp2 (k0)))] 5 (by rfl) ?_
        refine fT (i := 0) (g := (gL g2 46 (c2 (rd2 (seg bs0 0 96))) 3 Tryz.underlying46 (hi_2 _))) (h := ?_)
        refine fT (i := 1) (g := (gL g3 46 (c2 (rd2 (seg bs0 96 96))) 2 Tryz.underlying46 (hi_2 _))) (h := ?_)
        refine flow_one 2 (by kernel_rfl) ?_
        refine F_store (t := 46) 3 g2 _ _ (by rfl) (by rfl) (by rfl) (by rfl) (by rfl) (hi_2 _) ((c2_size _).trans (c2_size _).symm) (c2_one _) (.inr (List.Sublist.refl _)) ?_
        simp only [List.set_cons_zero, List.set_cons_succ]
        refine flow_one 3 (by kernel_rfl) ?_
        refine F_store (t := 46) 2 g3 _ _ (by rfl) (by rfl) (by rfl) (by rfl) (by rfl) (hi_2 _) ((c2_size _).trans (c2_size _).symm) (c2_one _) (.inr (List.Sublist.refl _)) ?_
        simp only [List.set_cons_zero, List.set_cons_succ]
        refine fV (i := 4) (u := (.int .i64 0)) (h := ?_)
        refine flow_done (by kernel_rfl) ?_
        intro w14 hw14
        refine wp_ret ?_
        change bodyPost _ _ _ Exit.ret _ _
        refine (ret_cct (by rfl) (by rfl) (by rfl) (by rfl) (by rfl) (hw14.blk 3 (by rfl)) (hw14.blk 2 (by rfl)) Tryz.underlying46 (by rfl) (hi_2 _) Tryz.underlying46 (by rfl) (hi_2 _) ⟨?_, hw14.below⟩)
        have hpt : pt2 (L0 : Int) bs0 = (rd2 (seg bs0 0 96), rd2 (seg bs0 96 96), 0) := by simp only [pt2, if_neg hf0, if_pos hf1, if_pos hf2, if_pos hf3, if_pos hf4, if_pos hf5, if_pos hf6]
        rw [hpt]
        dsimp only
        exact rfl
       ·
        refine seq_flow (by kernel_rfl) hw12 [] [(g5, 46, (c2 ((((rd2 (seg bs0 0 96)) * (rd2 (seg bs0 0 96))) * (rd2 (seg bs0 0 96))) + (k0)))), (g4, 5, (cs_1.setIfInBounds (0 + (0)) (.int .u8 ((gt bs0 0) % 32)))), (g3, 46, (c2 (rd2 (seg bs0 96 96)))), (g2, 46, (c2 (rd2 (seg bs0 0 96)))), (g1, 109, (grp2 (k0)))] 5 (by rfl) ?_
        refine fT (i := 0) (g := (gL g3 46 (c2 (rd2 (seg bs0 96 96))) 2 Tryz.underlying46 (hi_2 _))) (h := ?_)
        refine fT (i := 1) (u := (.iface 46 (.agg (c2 (rd2 (seg bs0 96 96)))))) (g := gk) (h := ?_)
        refine fT (i := 2) (g := (gives_invoke (vl := []) (by rfl) (me2_Square _) (by kernel_rfl) (by rfl) (fun w h => q_square _ w (hG.keep h.below)))) (h := ?_)
        refine fT (i := 3) (g := (gL g5 46 (c2 ((((rd2 (seg bs0 0 96)) * (rd2 (seg bs0 0 96))) * (rd2 (seg bs0 0 96))) + (k0))) 0 Tryz.underlying46 (hi_2 _))) (h := ?_)
        refine fT (i := 4) (u := (.bool true)) (g := (gives_neq (c2 ((rd2 (seg bs0 96 96)) * (rd2 (seg bs0 96 96)))) (c2 ((((rd2 (seg bs0 0 96)) * (rd2 (seg bs0 0 96))) * (rd2 (seg bs0 0 96))) + (k0))) false (by rfl) (by rfl) (by kernel_rfl) (fun w => eq_2_f (d := 9996) w (by rw [hk0]; exact hf6)))) (h := ?_)
        refine flow_done (by kernel_rfl) ?_
        intro w13 hw13
        refine wp_cond_true (fr_at _ _ (by rfl) _) ?_
        refine seq_flow (by kernel_rfl) hw13 [] [(g5, 46, (c2 ((((rd2 (seg bs0 0 96)) * (rd2 (seg bs0 0 96))) * (rd2 (seg bs0 0 96))) + (k0)))), (g4, 5, (cs_1.setIfInBounds (0 + (0)) (.int .u8 ((gt bs0 0) % 32)))), (g3, 46, (c2 (rd2 (seg bs0 96 96)))), (g2, 46, (c2 (rd2 (seg bs0 0 96)))), (g1, 109, (grp2 (k0)))] 5 (by rfl) ?_
        refine fT (i := 0) (g := (gL g2 46 (c2 (rd2 (seg bs0 0 96))) 3 Tryz.underlying46 (hi_2 _))) (h := ?_)
        refine fT (i := 1) (g := (gL g3 46 (c2 (rd2 (seg bs0 96 96))) 2 Tryz.underlying46 (hi_2 _))) (h := ?_)
        refine flow_one 2 (by kernel_rfl) ?_
        refine F_store (t := 46) 3 g2 _ _ (by rfl) (by rfl) (by rfl) (by rfl) (by rfl) (hi_2 _) ((c2_size _).trans (c2_size _).symm) (c2_one _) (.inr (List.Sublist.refl _)) ?_
        simp only [List.set_cons_zero, List.set_cons_succ]
        refine flow_one 3 (by kernel_rfl) ?_
        refine F_store (t := 46) 2 g3 _ _ (by rfl) (by rfl) (by rfl) (by rfl) (by rfl) (hi_2 _) ((c2_size _).trans (c2_size _).symm) (c2_one _) (.inr (List.Sublist.refl _)) ?_
        simp only [List.set_cons_zero, List.set_cons_succ]
        refine fV (i := 4) (u := (.int .i64 13)) (h := ?_)
        refine flow_done (by kernel_rfl) ?_
        intro w14 hw14
        refine wp_ret ?_
        change bodyPost _ _ _ Exit.ret _ _
        refine (ret_cct (by rfl) (by rfl) (by rfl) (by rfl) (by rfl) (hw14.blk 3 (by rfl)) (hw14.blk 2 (by rfl)) Tryz.underlying46 (by rfl) (hi_2 _) Tryz.underlying46 (by rfl) (hi_2 _) ⟨?_, hw14.below⟩)
        have hpt : pt2 (L0 : Int) bs0 = (rd2 (seg bs0 0 96), rd2 (seg bs0 96 96), 13) := by simp only [pt2, if_neg hf0, if_pos hf1, if_pos hf2, if_pos hf3, if_pos hf4, if_pos hf5, if_neg hf6]
        rw [hpt]
        dsimp only
        exact rfl
      ·
       refine seq_flow (by kernel_rfl) hw10 [] [(g5, 46, (c2 ((((rd2 (seg bs0 0 96)) * (rd2 (seg bs0 0 96))) * (rd2 (seg bs0 0 96))) + (k0)))), (g4, 5, (cs_1.setIfInBounds (0 + (0)) (.int .u8 ((gt bs0 0) % 32)))), (g3, 46, (c2 (0 : F2))), (g2, 46, (c2 (rd2 (seg bs0 0 96)))), (g1, 109, (grp2 (k0)))] 12 (by rfl) ?_
       refine fT (i := 0) (u := (.pointer (some ⟨g1, 1, none⟩))) (g := gk) (h := ?_)
       refine fT (i := 1) (u := (.func (.func 29) #[] #[])) (g := (gives_loadV g1 1 (grp2 (k0)) (.func (.func 29) #[] #[]) (by rfl) (fun _ h => h.blk 4 (by rfl)) (grp2_1 _) Tryz.underlying52 (by rfl))) (h := ?_)
       refine fV (i := 2) (u := (.slice (some ⟨g4, 0, none⟩) L0 cap_1)) (h := ?_)
       refine fT (i := 3) (u := (.pointer (some ⟨g1, 0, none⟩))) (g := gk) (h := ?_)
       refine fT (i := 4) (u := (.int .i64 96)) (g := (gives_load1 g1 0 _ (grp2 (k0)) (.int .i64 96) (by rfl) (fun _ h => h.blk 4 (by rfl)) (grp2_0 _) und_int)) (h := ?_)
       refine fT (i := 5) (u := (.slice (some ⟨g4, 0 + 96, none⟩) 96 (cap_1 - 96))) (g := (gives_slice_fromQ g4 (0) L0 cap_1 96 96 96 (by rfl) (by rfl) und_u8s u8_sz (by rfl) (by omega) (by omega) (by omega))) (h := ?_)
       refine fT (i := 6) (u := (.tuple #[.agg (c2 (0 : F2)), .int .i64 12])) (g := (gives_callT (f := 29) (q := 93) (vl := [.slice (some ⟨g4, 0 + 96, none⟩) 96 (cap_1 - 96)]) (by rfl) (by kernel_rfl) (by rfl) (fun w h => rdno2 (seg bs0 96 96) _ _ _ w (hG.keep h.below) (seg_reads (h.blk 1 (by rfl)) hq_1.2.2 hl0 96 96 (by omega)) (seg_oct ho0 _ _) (by omega) hf5))) (h := ?_)
       refine fV (i := 7) (u := (.tuple #[.agg (c2 (0 : F2)), .int .i64 12])) (h := ?_)
       refine fT (i := 8) (u := (.agg (c2 (0 : F2)))) (g := gk) (h := ?_)
       refine fT (i := 9) (u := (.int .i64 12)) (g := gk) (h := ?_)
       refine flow_one 10 (by kernel_rfl) ?_
       refine F_store (t := 46) 2 g3 _ _ (by rfl) (by rfl) (by rfl) (by rfl) (by rfl) (hi_2 _) ((c2_size _).trans (c2_size _).symm) (c2_one _) (.inr (List.Sublist.refl _)) ?_
       simp only [List.set_cons_zero, List.set_cons_succ]
       refine fV (i := 11) (u := (.int .i64 12)) (h := ?_)
       refine flow_done (by kernel_rfl) ?_
       intro w11 hw11
       refine seq_plain hw11 [0, 1] (by rfl) ?_
       refine lv (.int .i64 12) (h := ?_)
       refine L_val (.bool true) (by rfl) (by rfl) (gives_ine (k := .i64) (12) (0) true (by rfl) (by rfl) (by decide)) ?_
       refine L_end ?_
       intro w12 hw12
       refine wp_cond_true (fr_at _ _ (by rfl) _) ?_
       refine seq_flow (by kernel_rfl) hw12 [] [(g5, 46, (c2 ((((rd2 (seg bs0 0 96)) * (rd2 (seg bs0 0 96))) * (rd2 (seg bs0 0 96))) + (k0)))), (g4, 5, (cs_1.setIfInBounds (0 + (0)) (.int .u8 ((gt bs0 0) % 32)))), (g3, 46, (c2 (0 : F2))), (g2, 46, (c2 (rd2 (seg bs0 0 96)))), (g1, 109, (grp2 (k0)))] 6 (by rfl) ?_
       refine fT (i := 0) (g := (gL g2 46 (c2 (rd2 (seg bs0 0 96))) 3 Tryz.underlying46 (hi_2 _))) (h := ?_)
       refine fT (i := 1) (g := (gL g3 46 (c2 (0 : F2)) 2 Tryz.underlying46 (hi_2 _))) (h := ?_)
       refine fV (i := 2) (u := (.int .i64 12)) (h := ?_)
       refine flow_one 3 (by kernel_rfl) ?_
       refine F_store (t := 46) 3 g2 _ _ (by rfl) (by rfl) (by rfl) (by rfl) (by rfl) (hi_2 _) ((c2_size _).trans (c2_size _).symm) (c2_one _) (.inr (List.Sublist.refl _)) ?_
       simp only [List.set_cons_zero, List.set_cons_succ]
       refine flow_one 4 (by kernel_rfl) ?_
       refine F_store (t := 46) 2 g3 _ _ (by rfl) (by rfl) (by rfl) (by rfl) (by rfl) (hi_2 _) ((c2_size _).trans (c2_size _).symm) (c2_one _) (.inr (List.Sublist.refl _)) ?_
       simp only [List.set_cons_zero, List.set_cons_succ]
       refine fV (i := 5) (u := (.int .i64 12)) (h := ?_)
       refine flow_done (by kernel_rfl) ?_
       intro w13 hw13
       refine wp_ret ?_
       change bodyPost _ _ _ Exit.ret _ _
       refine (ret_cct (by rfl) (by rfl) (by rfl) (by rfl) (by rfl) (hw13.blk 3 (by rfl)) (hw13.blk 2 (by rfl)) Tryz.underlying46 (by rfl) (hi_2 _) Tryz.underlying46 (by rfl) (hi_2 _) ⟨?_, hw13.below⟩)
       have hpt : pt2 (L0 : Int) bs0 = (rd2 (seg bs0 0 96), (0 : F2), 12) := by simp only [pt2, if_neg hf0, if_pos hf1, if_pos hf2, if_pos hf3, if_pos hf4, if_neg hf5]
       rw [hpt]
       dsimp only
       exact rfl
     ·
      refine seq_flow (by kernel_rfl) hw6 [] [(g4, 5, (cs_1.setIfInBounds (0 + (0)) (.int .u8 ((gt bs0 0) % 32)))), (g3, 46, (c2 (0 : F2))), (g2, 46, (c2 (0 : F2))), (g1, 109, (grp2 (k0)))] 12 (by rfl) ?_
      refine fT (i := 0) (u := (.pointer (some ⟨g1, 1, none⟩))) (g := gk) (h := ?_)
      refine fT (i := 1) (u := (.func (.func 29) #[] #[])) (g := (gives_loadV g1 1 (grp2 (k0)) (.func (.func 29) #[] #[]) (by rfl) (fun _ h => h.blk 3 (by rfl)) (grp2_1 _) Tryz.underlying52 (by rfl))) (h := ?_)
      refine fV (i := 2) (u := (.slice (some ⟨g4, 0, none⟩) L0 cap_1)) (h := ?_)
      refine fT (i := 3) (u := (.pointer (some ⟨g1, 0, none⟩))) (g := gk) (h := ?_)
      refine fT (i := 4) (u := (.int .i64 96)) (g := (gives_load1 g1 0 _ (grp2 (k0)) (.int .i64 96) (by rfl) (fun _ h => h.blk 3 (by rfl)) (grp2_0 _) und_int)) (h := ?_)
      refine fT (i := 5) (u := (.slice (some ⟨g4, 0, none⟩) 96 cap_1)) (g := (gives_slice_to g4 L0 cap_1 96 (96) (by rfl) (by rfl) und_u8s u8_sz (by omega) (by omega))) (h := ?_)
      refine fT (i := 6) (u := (.tuple #[.agg (c2 (0 : F2)), .int .i64 12])) (g := (gives_callT (f := 29) (q := 50) (vl := [.slice (some ⟨g4, 0, none⟩) 96 cap_1]) (by rfl) (by kernel_rfl) (by rfl) (fun w h => rdno2 (seg bs0 0 96) _ _ _ w (hG.keep h.below) (seg_reads (h.blk 0 (by rfl)) hq_1.2.2 hl0 0 96 (by omega)) (seg_oct ho0 _ _) (by omega) hf4))) (h := ?_)
      refine fV (i := 7) (u := (.tuple #[.agg (c2 (0 : F2)), .int .i64 12])) (h := ?_)
      refine fT (i := 8) (u := (.agg (c2 (0 : F2)))) (g := gk) (h := ?_)
      refine fT (i := 9) (u := (.int .i64 12)) (g := gk) (h := ?_)
      refine flow_one 10 (by kernel_rfl) ?_
      refine F_store (t := 46) 2 g2 _ _ (by rfl) (by rfl) (by rfl) (by rfl) (by rfl) (hi_2 _) ((c2_size _).trans (c2_size _).symm) (c2_one _) (.inr (List.Sublist.refl _)) ?_
      simp only [List.set_cons_zero, List.set_cons_succ]
      refine fV (i := 11) (u := (.int .i64 12)) (h := ?_)
      refine flow_done (by kernel_rfl) ?_
      intro w7 hw7
      refine seq_plain hw7 [0, 1] (by rfl) ?_
      refine lv (.int .i64 12) (h := ?_)
      refine L_val (.bool true) (by rfl) (by rfl) (gives_ine (k := .i64) (12) (0) true (by rfl) (by rfl) (by decide)) ?_
      refine L_end ?_
      intro w8 hw8
      refine wp_cond_true (fr_at _ _ (by rfl) _) ?_
      refine seq_flow (by kernel_rfl) hw8 [] [(g4, 5, (cs_1.setIfInBounds (0 + (0)) (.int .u8 ((gt bs0 0) % 32)))), (g3, 46, (c2 (0 : F2))), (g2, 46, (c2 (0 : F2))), (g1, 109, (grp2 (k0)))] 6 (by rfl) ?_
      refine fT (i := 0) (g := (gL g2 46 (c2 (0 : F2)) 2 Tryz.underlying46 (hi_2 _))) (h := ?_)
      refine fT (i := 1) (g := (gL g3 46 (c2 (0 : F2)) 1 Tryz.underlying46 (hi_2 _))) (h := ?_)
      refine fV (i := 2) (u := (.int .i64 12)) (h := ?_)
      refine flow_one 3 (by kernel_rfl) ?_
      refine F_store (t := 46) 2 g2 _ _ (by rfl) (by rfl) (by rfl) (by rfl) (by rfl) (hi_2 _) ((c2_size _).trans (c2_size _).symm) (c2_one _) (.inr (List.Sublist.refl _)) ?_
      simp only [List.set_cons_zero, List.set_cons_succ]
      refine flow_one 4 (by kernel_rfl) ?_
      refine F_store (t := 46) 1 g3 _ _ (by rfl) (by rfl) (by rfl) (by rfl) (by rfl) (hi_2 _) ((c2_size _).trans (c2_size _).symm) (c2_one _) (.inr (List.Sublist.refl _)) ?_
      simp only [List.set_cons_zero, List.set_cons_succ]
      refine fV (i := 5) (u := (.int .i64 12)) (h := ?_)
      refine flow_done (by kernel_rfl) ?_
      intro w9 hw9
      refine wp_ret ?_
      change bodyPost _ _ _ Exit.ret _ _
      refine (ret_cct (by rfl) (by rfl) (by rfl) (by rfl) (by rfl) (hw9.blk 2 (by rfl)) (hw9.blk 1 (by rfl)) Tryz.underlying46 (by rfl) (hi_2 _) Tryz.underlying46 (by rfl) (hi_2 _) ⟨?_, hw9.below⟩)
      have hpt : pt2 (L0 : Int) bs0 = ((0 : F2), (0 : F2), 12) := by simp only [pt2, if_neg hf0, if_pos hf1, if_pos hf2, if_pos hf3, if_neg hf4]
      rw [hpt]
      dsimp only
      exact rfl
    ·
     refine L_val (.bool true) (by rfl) (by rfl) (gives_ine (k := .u8) (64 * ((gt bs0 0) / 64 % 2)) (0) true (by rfl) (by rfl) (decide_eq_true (by omega))) ?_
     refine L_end ?_
     intro w4 hw4
     refine wp_cond_true (fr_at _ _ (by rfl) _) ?_
     refine seq_flow (by kernel_rfl) hw4 [] [(g3, 46, (c2 (0 : F2))), (g2, 46, (c2 (0 : F2))), (g1, 109, (grp2 (k0)))] 5 (by rfl) ?_
     refine fT (i := 0) (g := (gL g2 46 (c2 (0 : F2)) 1 Tryz.underlying46 (hi_2 _))) (h := ?_)
     refine fT (i := 1) (g := (gL g3 46 (c2 (0 : F2)) 0 Tryz.underlying46 (hi_2 _))) (h := ?_)
     refine flow_one 2 (by kernel_rfl) ?_
     refine F_store (t := 46) 1 g2 _ _ (by rfl) (by rfl) (by rfl) (by rfl) (by rfl) (hi_2 _) ((c2_size _).trans (c2_size _).symm) (c2_one _) (.inr (List.Sublist.refl _)) ?_
     simp only [List.set_cons_zero, List.set_cons_succ]
     refine flow_one 3 (by kernel_rfl) ?_
     refine F_store (t := 46) 0 g3 _ _ (by rfl) (by rfl) (by rfl) (by rfl) (by rfl) (hi_2 _) ((c2_size _).trans (c2_size _).symm) (c2_one _) (.inr (List.Sublist.refl _)) ?_
     simp only [List.set_cons_zero, List.set_cons_succ]
     refine fV (i := 4) (u := (.int .i64 0)) (h := ?_)
     refine flow_done (by kernel_rfl) ?_
     intro w5 hw5
     refine wp_ret ?_
     change bodyPost _ _ _ Exit.ret _ _
     refine (ret_cct (by rfl) (by rfl) (by rfl) (by rfl) (by rfl) (hw5.blk 1 (by rfl)) (hw5.blk 0 (by rfl)) Tryz.underlying46 (by rfl) (hi_2 _) Tryz.underlying46 (by rfl) (hi_2 _) ⟨?_, hw5.below⟩)
     have hpt : pt2 (L0 : Int) bs0 = ((0 : F2), (0 : F2), 0) := by simp only [pt2, if_neg hf0, if_pos hf1, if_pos hf2, if_neg hf3]
     rw [hpt]
     dsimp only
     exact rfl
   ·
    refine L_val (.bool false) (by rfl) (by rfl) (gives_call (vl := [.slice (some ⟨b0, o0, none⟩) L0 C0, .bool false]) (by kernel_rfl) (by rfl) (fun w h => cd_form_ff _ _ _ _ _ w hl0 ho0 (Nat.lt_of_lt_of_le hq0 h.below.size) (fun j hj => (h.below.cell (p := ⟨b0, _, none⟩) hq0).trans (hc0 j hj)) (by omega) hLC hLm hf2)) ?_
    refine lv (.bool true) (h := ?_)
    refine L_end ?_
    intro w3 hw3
    refine wp_cond_true (fr_at _ _ (by rfl) _) ?_
    refine seq_flow (by kernel_rfl) hw3 [] [(g3, 46, (c2 (0 : F2))), (g2, 46, (c2 (0 : F2))), (g1, 109, (grp2 (k0)))] 5 (by rfl) ?_
    refine fT (i := 0) (g := (gL g2 46 (c2 (0 : F2)) 1 Tryz.underlying46 (hi_2 _))) (h := ?_)
    refine fT (i := 1) (g := (gL g3 46 (c2 (0 : F2)) 0 Tryz.underlying46 (hi_2 _))) (h := ?_)
    refine flow_one 2 (by kernel_rfl) ?_
    refine F_store (t := 46) 1 g2 _ _ (by rfl) (by rfl) (by rfl) (by rfl) (by rfl) (hi_2 _) ((c2_size _).trans (c2_size _).symm) (c2_one _) (.inr (List.Sublist.refl _)) ?_
    simp only [List.set_cons_zero, List.set_cons_succ]
    refine flow_one 3 (by kernel_rfl) ?_
    refine F_store (t := 46) 0 g3 _ _ (by rfl) (by rfl) (by rfl) (by rfl) (by rfl) (hi_2 _) ((c2_size _).trans (c2_size _).symm) (c2_one _) (.inr (List.Sublist.refl _)) ?_
    simp only [List.set_cons_zero, List.set_cons_succ]
    refine fV (i := 4) (u := (.int .i64 11)) (h := ?_)
    refine flow_done (by kernel_rfl) ?_
    intro w4 hw4
    refine wp_ret ?_
    change bodyPost _ _ _ Exit.ret _ _
    refine (ret_cct (by rfl) (by rfl) (by rfl) (by rfl) (by rfl) (hw4.blk 1 (by rfl)) (hw4.blk 0 (by rfl)) Tryz.underlying46 (by rfl) (hi_2 _) Tryz.underlying46 (by rfl) (hi_2 _) ⟨?_, hw4.below⟩)
    have hpt : pt2 (L0 : Int) bs0 = ((0 : F2), (0 : F2), 11) := by simp only [pt2, if_neg hf0, if_pos hf1, if_neg hf2]
    rw [hpt]
    dsimp only
    exact rfl
  ·
   refine L_val_g (dj := 14) (.bool true) (by rfl) (by rfl) (by rfl) (by rfl) (by rfl) (gives_ine (k := .i64) ((L0 : Int)) (192) true (by rfl) (by rfl) (decide_eq_true (by omega))) ?_
   refine lv (.bool true) (h := ?_)
   refine L_end ?_
   intro w2 hw2
   refine wp_cond_true (fr_at _ _ (by rfl) _) ?_
   refine seq_flow (by kernel_rfl) hw2 [] [(g3, 46, (c2 (0 : F2))), (g2, 46, (c2 (0 : F2))), (g1, 109, (grp2 (k0)))] 5 (by rfl) ?_
   refine fT (i := 0) (g := (gL g2 46 (c2 (0 : F2)) 1 Tryz.underlying46 (hi_2 _))) (h := ?_)
   refine fT (i := 1) (g := (gL g3 46 (c2 (0 : F2)) 0 Tryz.underlying46 (hi_2 _))) (h := ?_)
   refine flow_one 2 (by kernel_rfl) ?_
   refine F_store (t := 46) 1 g2 _ _ (by rfl) (by rfl) (by rfl) (by rfl) (by rfl) (hi_2 _) ((c2_size _).trans (c2_size _).symm) (c2_one _) (.inr (List.Sublist.refl _)) ?_
   simp only [List.set_cons_zero, List.set_cons_succ]
   refine flow_one 3 (by kernel_rfl) ?_
   refine F_store (t := 46) 0 g3 _ _ (by rfl) (by rfl) (by rfl) (by rfl) (by rfl) (hi_2 _) ((c2_size _).trans (c2_size _).symm) (c2_one _) (.inr (List.Sublist.refl _)) ?_
   simp only [List.set_cons_zero, List.set_cons_succ]
   refine fV (i := 4) (u := (.int .i64 10)) (h := ?_)
   refine flow_done (by kernel_rfl) ?_
   intro w3 hw3
   refine wp_ret ?_
   change bodyPost _ _ _ Exit.ret _ _
   refine (ret_cct (by rfl) (by rfl) (by rfl) (by rfl) (by rfl) (hw3.blk 1 (by rfl)) (hw3.blk 0 (by rfl)) Tryz.underlying46 (by rfl) (hi_2 _) Tryz.underlying46 (by rfl) (hi_2 _) ⟨?_, hw3.below⟩)
   have hpt : pt2 (L0 : Int) bs0 = ((0 : F2), (0 : F2), 10) := by simp only [pt2, if_neg hf0, if_neg hf1]
   rw [hpt]
   dsimp only
   exact rfl
end Go.Proofs.YtifnnckbcjafgabGreatDoor
