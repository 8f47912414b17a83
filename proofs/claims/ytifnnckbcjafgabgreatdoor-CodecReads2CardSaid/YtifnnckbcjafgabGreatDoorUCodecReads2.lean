/-
  The law CodecReads2.
-/
import Derived.Test.YtifnnckbcjafgabGreatDoorUCRs2
import Derived.Test.YtifnnckbcjafgabGreatDoorUCRl2
namespace Go.Proofs.YtifnnckbcjafgabGreatDoor
set_option linter.unusedSimpArgs false
set_option linter.unusedVariables false
open Go.RowKit
attribute [local irreducible] wpL wpF fr Code.wp bodyPost
theorem codec_reads2 (b0 o0 L0 C0 : Nat) (bs0 : List Int) (v : World) (hl0 : bs0.length = L0) (ho0 : Oct bs0) (hq0 : b0 < v.heap.size) (hc0 : ∀ j, j < L0 → v.cell? ⟨b0, o0 + j, none⟩ = some (.int .u8 (gt bs0 j))) (hr0 : Reads v v.heap.size (some ⟨b0, o0, none⟩) L0 (bs0.map (Value.int .u8))) (hLC : L0 ≤ C0) (hG : Glo v) (hR : GloR v) (hQ : GQp v) (hU : GUp v) : Rets 4 #[.slice (some ⟨b0, o0, none⟩) L0 C0] v (.bool true) := by
  by_cases hA : 400 < L0
  · exact codec_reads2_f b0 o0 L0 C0 bs0 v hl0 ho0 hq0 hc0 hr0 hLC hG hR hQ hU hA
  · by_cases hB : (L0 : Int) = 96
    · exact codec_reads2_s b0 o0 L0 C0 bs0 v hl0 ho0 hq0 hc0 hr0 hLC hG hR hQ hU hA hB
    · by_cases hC : (L0 : Int) = 192
      · exact codec_reads2_l b0 o0 L0 C0 bs0 v hl0 ho0 hq0 hc0 hr0 hLC hG hR hQ hU hA hB hC
      · exact codec_reads2_o b0 o0 L0 C0 bs0 v hl0 ho0 hq0 hc0 hr0 hLC hG hR hQ hU hA hB hC
set_option maxRecDepth 100000 in
set_option maxHeartbeats 4000000 in
theorem codec_reads2_nil (A0 : Option Addr) (C0 : Nat) (v : World) (hG : Glo v) (hR : GloR v) (hQ : GQp v) (hU : GUp v) : Rets 4 #[.slice A0 0 C0] v (.bool true) := by
  refine calls_fr1 Tryz.func4 rfl (by rfl : _ = 167) (by rfl) ?_
  have hw := Hbl.nil v
  refine seq_plain hw [0] (by rfl) ?_
  refine lv (.bool false) (h := ?_)
  refine L_end ?_
  intro w1 hw1
  refine wp_seq ?_
  refine seq_plain hw1 [0, 1] (by rfl) ?_
  refine L_val (.bool true) (by rfl) (by rfl) (gives_call (vl := []) (by kernel_rfl) (by rfl) (fun w h => cd_head w (hG.keep h.below) (hU.keep h.below))) ?_
  refine lv (.bool false) (h := ?_)
  refine L_end ?_
  intro w2 hw2
  refine wp_cond_false (fr_at _ _ (by rfl) _) ?_
  refine wp_skip ?_
  change Code.wp _ _ _ _ _
  refine wp_seq ?_
  refine seq_plain hw2 [0, 1] (by rfl) ?_
  refine lv (.slice A0 0 C0) (h := ?_)
  refine L_val (.bool false) (by rfl) (by rfl) (gives_call (vl := [.slice A0 0 C0]) (by kernel_rfl) (by rfl) (fun w h => cd_lng_f _ _ _ w (by omega))) ?_
  refine L_end ?_
  intro w3 hw3
  refine wp_cond_false (fr_at _ _ (by rfl) _) ?_
  refine wp_skip ?_
  change Code.wp _ _ _ _ _
  refine seq_plain hw3 [0, 1, 2] (by rfl) ?_
  refine lv (.slice A0 0 C0) (h := ?_)
  refine L_fresh 5 (ag8 []) (fun g => .slice (some ⟨g, 0, none⟩) 0 0) (by rfl) (by rfl) (by kernel_rfl) (by rfl) (fun w h => copy_any w A0 0 C0 [] (nil_reads _ _) (by omega)) ?_; intro g1
  refine lv (.slice (some ⟨g1, 0, none⟩) 0 0) (h := ?_)
  refine L_end ?_
  intro w4 hw4
  refine seq_plain hw4 [0, 1, 2, 3, 4, 5, 6, 7] (by rfl) ?_
  refine lv (.slice (some ⟨g1, 0, none⟩) 0 0) (h := ?_)
  refine L_val (.tuple #[.agg (cg2 (0 : Pt F2)), .int .i64 10]) (by rfl) (by rfl) (gives_call (vl := [.slice (some ⟨g1, 0, none⟩) 0 0]) (by kernel_rfl) (by rfl) (fun w h => cd_readg2_e g1 0 0 0 [] w rfl (fun b hb => by cases hb) (h.blk 0 (by rfl)).lt (fun j hj => absurd hj (by omega)) (copy_reads (h.blk 0 (by rfl)) rfl) (Nat.le_refl _) (by omega) (hG.keep h.below) (hR.keep h.below) (hQ.keep h.below) (hU.keep h.below) (0 : F2) (0 : F2) 10 (by simp only [pt2]; rw [if_neg (by decide), if_neg (by decide)]) (by decide))) ?_
  refine lv (.tuple #[.agg (cg2 (0 : Pt F2)), .int .i64 10]) (h := ?_)
  refine L_val (.agg (cg2 (0 : Pt F2))) (by rfl) (by rfl) gk ?_
  refine L_val (.int .i64 10) (by rfl) (by rfl) gk ?_
  refine L_alloc _ (by rfl) (by rfl) z_g2 (cg2 (0 : Pt F2)) rfl ?_; intro g2
  refine L_store (t := 48) 0 g2 _ _ (by rfl) (by rfl) (by rfl) (by rfl) (by rfl) (hi_g2 _) ((cg2_size _).trans (cg2_size _).symm) (cg2_one _) ?_
  simp only [List.set_cons_zero, List.set_cons_succ]
  refine lv (.int .i64 10) (h := ?_)
  refine L_end ?_
  intro w5 hw5
  refine wp_seq ?_
  refine seq_plain hw5 [0, 1, 2, 3, 4, 5, 6, 7, 8, 9, 10, 11, 12] (by rfl) ?_
  refine lv (.slice (some ⟨g1, 0, none⟩) 0 0) (h := ?_)
  refine lv (.slice A0 0 C0) (h := ?_)
  refine L_val (.bool true) (by rfl) (by rfl) (gives_call (vl := [.slice (some ⟨g1, 0, none⟩) 0 0, .slice A0 0 C0]) (by kernel_rfl) (by rfl) (fun w h => same_t w w.heap.size w.heap.size _ 0 _ _ _ [] (nil_reads _ _) (nil_reads _ _) (by omega))) ?_
  refine lv (.bool false) (h := ?_)
  refine lv (.bool false) (h := ?_)
  refine L_val_g (dj := 33) (.int .i64 10) (by rfl) (by rfl) (by rfl) (by rfl) (by rfl) gv ?_
  refine L_val_g (dj := 33) (.bool true) (by rfl) (by rfl) (by rfl) (by rfl) (by rfl) (gives_ine (k := .i64) (10) (0) true (by rfl) (by rfl) (by decide)) ?_
  refine L_val_g (dj := 33) (.bool true) (by rfl) (by rfl) (by rfl) (by rfl) (by rfl) gv ?_
  refine L_val_g (dj := 36) (.agg (cg2 (0 : Pt F2))) (by rfl) (by rfl) (by rfl) (by rfl) (by rfl) (gives_load g2 0 48 (cg2 (0 : Pt F2)) (cg2 (0 : Pt F2)) _ (by rfl) (fun _ h => h.blk 0 (by rfl)) (Sl.refl _) Tryz.underlying48 (by rfl) (hi_g2 _)) ?_
  refine L_val_g (dj := 36) (.agg (cg2 (0 : Pt F2))) (by rfl) (by rfl) (by rfl) (by rfl) (by rfl) (gb_g2 [] trivial (by rfl) (cg2 (0 : Pt F2)) (by rfl)) ?_
  refine L_val_g (dj := 36) (.bool false) (by rfl) (by rfl) (by rfl) (by rfl) (by rfl) (gives_neq (cg2 (0 : Pt F2)) (cg2 (0 : Pt F2)) true (by rfl) (by rfl) (by kernel_rfl) (fun w => eq_g2_t (d := 9995) w rfl)) ?_
  refine L_val_g (dj := 33) (.bool false) (by rfl) (by rfl) (by rfl) (by rfl) (by rfl) gv ?_
  refine lv (.bool false) (h := ?_)
  refine L_end ?_
  intro w6 hw6
  refine wp_cond_false (fr_at _ _ (by rfl) _) ?_
  refine wp_skip ?_
  change Code.wp _ _ _ _ _
  refine seq_plain hw6 [0, 1, 2, 3, 4, 5, 6] (by rfl) ?_
  refine lv (.slice A0 0 C0) (h := ?_)
  refine L_val (.tuple #[.int .i64 10, .bool false]) (by rfl) (by rfl) (gives_call (vl := [.slice A0 0 C0, .int .i64 96]) (by kernel_rfl) (by rfl) (fun w h => cd_marks_96_len _ _ _ w (by decide) (by decide))) ?_
  refine lv (.tuple #[.int .i64 10, .bool false]) (h := ?_)
  refine L_val (.int .i64 10) (by rfl) (by rfl) gk ?_
  refine L_val (.bool false) (by rfl) (by rfl) gk ?_
  refine lv (.int .i64 10) (h := ?_)
  refine lv (.bool false) (h := ?_)
  refine L_end ?_
  intro w7 hw7
  refine wp_seq ?_
  refine seq_plain hw7 [0, 1, 2, 3, 4] (by rfl) ?_
  refine lv (.int .i64 10) (h := ?_)
  refine L_val (.bool true) (by rfl) (by rfl) (gives_ine (k := .i64) (10) (0) true (by rfl) (by rfl) (by decide)) ?_
  refine lv (.bool true) (h := ?_)
  refine lS (dj := 49) (h := ?_)
  refine lv (.bool true) (h := ?_)
  refine L_end ?_
  intro w8 hw8
  refine wp_cond_true (fr_at _ _ (by rfl) _) ?_
  refine seq_plain hw8 [0, 1, 2, 3, 4, 5, 6, 7, 8] (by rfl) ?_
  refine lv (.int .i64 10) (h := ?_)
  refine lv (.int .i64 10) (h := ?_)
  refine L_val (.bool true) (by rfl) (by rfl) (gives_ieq (k := .i64) (10) (10) true (by rfl) (by rfl) (by decide)) ?_
  refine lv (.bool true) (h := ?_)
  refine L_val_g (dj := 55) (.agg (cg2 (0 : Pt F2))) (by rfl) (by rfl) (by rfl) (by rfl) (by rfl) (gives_load g2 0 48 (cg2 (0 : Pt F2)) (cg2 (0 : Pt F2)) _ (by rfl) (fun _ h => h.blk 0 (by rfl)) (Sl.refl _) Tryz.underlying48 (by rfl) (hi_g2 _)) ?_
  refine L_val_g (dj := 55) (.agg (cg2 (0 : Pt F2))) (by rfl) (by rfl) (by rfl) (by rfl) (by rfl) (gb_g2 [] trivial (by rfl) (cg2 (0 : Pt F2)) (by rfl)) ?_
  refine L_val_g (dj := 55) (.bool true) (by rfl) (by rfl) (by rfl) (by rfl) (by rfl) (gives_eql (cg2 (0 : Pt F2)) (cg2 (0 : Pt F2)) true (by rfl) (by rfl) (by kernel_rfl) (fun w => eq_g2_t (d := 9995) w rfl)) ?_
  refine lv (.bool true) (h := ?_)
  refine lv (.bool true) (h := ?_)
  refine L_end ?_
  intro w9 hw9
  refine wp_ret ?_
  change bodyPost _ _ _ Exit.ret _ _
  refine (ret_tmp (by rfl) (by rfl) (by rfl) ⟨rfl, hw9.below⟩)
theorem codec_reads2_any (A0 : Option Addr) (L0 C0 : Nat) (bs0 : List Int) (v : World) (hr0 : Reads v v.heap.size A0 L0 (bs0.map (Value.int .u8))) (ho0 : Oct bs0) (hLC : L0 ≤ C0) (hG : Glo v) (hR : GloR v) (hQ : GQp v) (hU : GUp v) : Rets 4 #[.slice A0 L0 C0] v (.bool true) := by
  have hl0 : bs0.length = L0 := by simpa using hr0.1
  rcases Nat.eq_zero_or_pos L0 with h0 | h0
  · subst h0
    exact codec_reads2_nil A0 C0 v hG hR hQ hU
  · obtain ⟨b0, o0, rfl, hq0, hc⟩ := hr0.2 h0
    refine codec_reads2 b0 o0 L0 C0 bs0 v hl0 ho0 hq0 (fun j hj => hc j _ ?_) hr0 hLC hG hR hQ hU
    rw [List.getElem?_map, List.getElem?_eq_getElem (by omega)]
    simp [gt, List.getD_eq_getElem?_getD, List.getElem?_eq_getElem (show j < bs0.length by omega)]
end Go.Proofs.YtifnnckbcjafgabGreatDoor
