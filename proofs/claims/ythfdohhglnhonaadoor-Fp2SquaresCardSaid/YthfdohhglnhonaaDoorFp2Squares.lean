/-
  Fp2Squares: the walk.
-/
import Derived.Test.YthfdohhglnhonaaDoorFs
namespace Go.Proofs.YthfdohhglnhonaaDoor
set_option linter.unusedSimpArgs false
set_option linter.unusedVariables false
open Go.RowKit
attribute [local irreducible] wpL wpF fr Code.wp bodyPost

theorem F2.sm_one : F2.sm 1 0 = 1 := by
  apply F2.same <;> simp only [F2.sm_a, F2.sm_b, F2.one_a, F2.one_b, Fp.n_zero, Fp.n_one]
set_option maxRecDepth 100000 in
set_option maxHeartbeats 4000000 in
theorem q_sq_long (A0 : Option Addr) (L0 C0 : Nat) (bs0 : List Int) (A1 : Option Addr) (L1 C1 : Nat) (bs1 : List Int) (v : World) (hG : Glo v) (hH : GShp v) (hQ : GQp v) (hU : GUp v) (hr0 : Reads v v.heap.size A0 L0 (bs0.map (Value.int .u8))) (ho0 : Oct bs0) (hr1 : Reads v v.heap.size A1 L1 (bs1.map (Value.int .u8))) (ho1 : Oct bs1) (hlong : 64 < L0 ∨ 64 < L1) : Rets 6 #[.slice A0 L0 C0, .slice A1 L1 C1] v (.bool true) := by
  have hn0 : bs0.length = L0 := by simpa using hr0.1
  have hn1 : bs1.length = L1 := by simpa using hr1.1
  refine calls_fr2 Tryd.func6 rfl (by rfl : _ = 76) (by rfl) ?_
  have hw := Hbl.nil v
  refine seq_plain hw [0] (by rfl) ?_
  refine L_val (.bool false) (by rfl) (by rfl) (gives_value _ fun _ => by rfl) ?_
  refine L_end ?_
  intro w1 hw1
  refine wp_seq ?_
  refine seq_plain hw1 [0, 1] (by rfl) ?_
  refine L_val (.bool true) (by rfl) (by rfl) (gives_call (vl := []) (by kernel_rfl) (by rfl) (fun w h => q_head w (hG.keep h.below))) ?_
  refine L_val (.bool false) (by rfl) (by rfl) (gives_value _ fun _ => by rfl) ?_
  refine L_end ?_
  intro w2 hw2
  refine wp_cond_false (fr_at _ _ (by rfl) _) ?_
  refine wp_skip ?_
  change Code.wp _ _ _ _ _
  refine wp_seq ?_
  refine seq_plain hw2 [0, 1, 2] (by rfl) ?_
  refine L_val (.slice A0 L0 C0) (by rfl) (by rfl) (gives_value _ fun _ => by rfl) ?_
  refine L_val (.slice A1 L1 C1) (by rfl) (by rfl) (gives_value _ fun _ => by rfl) ?_
  refine L_val (.bool true) (by rfl) (by rfl) (gives_call (vl := [.slice A0 L0 C0, .slice A1 L1 C1, .slice none 0 0, .slice none 0 0]) (by kernel_rfl) (by rfl) (fun w h => long_yes _ _ _ _ _ _ _ _ _ _ _ _ w (by omega))) ?_
  refine L_end ?_
  intro w3 hw3
  refine wp_cond_true (fr_at _ _ (by rfl) _) ?_
  refine seq_plain hw3 [0] (by rfl) ?_
  refine L_val (.bool true) (by rfl) (by rfl) (gives_value _ fun _ => by rfl) ?_
  refine L_end ?_
  intro w4 hw4
  refine wp_ret ?_
  change bodyPost _ _ _ Exit.ret _ _
  refine (ret_tmp (by rfl) (by rfl) (by rfl) ⟨?_, hw4.below⟩)
  exact rfl
set_option maxRecDepth 100000 in
set_option maxHeartbeats 4000000 in
theorem q_sq_zs (A0 : Option Addr) (L0 C0 : Nat) (bs0 : List Int) (A1 : Option Addr) (L1 C1 : Nat) (bs1 : List Int) (y : F2) (v : World) (hG : Glo v) (hH : GShp v) (hQ : GQp v) (hU : GUp v) (hr0 : Reads v v.heap.size A0 L0 (bs0.map (Value.int .u8))) (ho0 : Oct bs0) (hr1 : Reads v v.heap.size A1 L1 (bs1.map (Value.int .u8))) (ho1 : Oct bs1) (hs0 : L0 ≤ 64) (hs1 : L1 ≤ 64) (hy : y = ((⟨Fp.n (num bs0), Fp.n (num bs1)⟩ : F2) * (⟨Fp.n (num bs0), Fp.n (num bs1)⟩ : F2)).rt) (hz : (⟨Fp.n (num bs0), Fp.n (num bs1)⟩ : F2) = 0) (hc : y = (⟨Fp.n (num bs0), Fp.n (num bs1)⟩ : F2)) : Rets 6 #[.slice A0 L0 C0, .slice A1 L1 C1] v (.bool true) := by
  have hn0 : bs0.length = L0 := by simpa using hr0.1
  have hn1 : bs1.length = L1 := by simpa using hr1.1
  refine calls_fr2 Tryd.func6 rfl (by rfl : _ = 76) (by rfl) ?_
  have hw := Hbl.nil v
  refine seq_plain hw [0] (by rfl) ?_
  refine L_val (.bool false) (by rfl) (by rfl) (gives_value _ fun _ => by rfl) ?_
  refine L_end ?_
  intro w1 hw1
  refine wp_seq ?_
  refine seq_plain hw1 [0, 1] (by rfl) ?_
  refine L_val (.bool true) (by rfl) (by rfl) (gives_call (vl := []) (by kernel_rfl) (by rfl) (fun w h => q_head w (hG.keep h.below))) ?_
  refine L_val (.bool false) (by rfl) (by rfl) (gives_value _ fun _ => by rfl) ?_
  refine L_end ?_
  intro w2 hw2
  refine wp_cond_false (fr_at _ _ (by rfl) _) ?_
  refine wp_skip ?_
  change Code.wp _ _ _ _ _
  refine wp_seq ?_
  refine seq_plain hw2 [0, 1, 2] (by rfl) ?_
  refine L_val (.slice A0 L0 C0) (by rfl) (by rfl) (gives_value _ fun _ => by rfl) ?_
  refine L_val (.slice A1 L1 C1) (by rfl) (by rfl) (gives_value _ fun _ => by rfl) ?_
  refine L_val (.bool false) (by rfl) (by rfl) (gives_call (vl := [.slice A0 L0 C0, .slice A1 L1 C1, .slice none 0 0, .slice none 0 0]) (by kernel_rfl) (by rfl) (fun w h => long_no _ _ _ _ _ _ _ _ _ _ _ _ w (by omega) (by omega) (by omega) (by omega))) ?_
  refine L_end ?_
  intro w3 hw3
  refine wp_cond_false (fr_at _ _ (by rfl) _) ?_
  refine wp_skip ?_
  change Code.wp _ _ _ _ _
  refine seq_plain hw3 [0, 1, 2, 3, 4, 5, 6, 7, 8] (by rfl) ?_
  refine L_val (.slice A0 L0 C0) (by rfl) (by rfl) (gives_value _ fun _ => by rfl) ?_
  refine L_fresh 5 (ag8 bs0) (fun g => .slice (some ⟨g, 0, none⟩) L0 L0) (by rfl) (by rfl) (by kernel_rfl) (by rfl) (fun w h => copy_any w A0 L0 C0 bs0 ((hr0.below h.below).more h.below.size) (by omega)) ?_; intro g1
  refine L_val (.agg (pc (Fp.n (num bs0)))) (by rfl) (by rfl) (gives_call (vl := [.slice (some ⟨g1, 0, none⟩) L0 L0]) (by kernel_rfl) (by rfl) (fun w h => v_wide _ _ _ bs0 w (hG.keep h.below) (hH.keep h.below) (copy_reads (h.blk 0 (by rfl)) hn0) ho0 (Nat.le_refl _) (by omega))) ?_
  refine L_val (.slice A1 L1 C1) (by rfl) (by rfl) (gives_value _ fun _ => by rfl) ?_
  refine L_fresh 5 (ag8 bs1) (fun g => .slice (some ⟨g, 0, none⟩) L1 L1) (by rfl) (by rfl) (by kernel_rfl) (by rfl) (fun w h => copy_any w A1 L1 C1 bs1 ((hr1.below h.below).more h.below.size) (by omega)) ?_; intro g2
  refine L_val (.agg (pc (Fp.n (num bs1)))) (by rfl) (by rfl) (gives_call (vl := [.slice (some ⟨g2, 0, none⟩) L1 L1]) (by kernel_rfl) (by rfl) (fun w h => v_wide _ _ _ bs1 w (hG.keep h.below) (hH.keep h.below) (copy_reads (h.blk 0 (by rfl)) hn1) ho1 (Nat.le_refl _) (by omega))) ?_
  refine L_val (.agg (c2 (⟨Fp.n (num bs0), Fp.n (num bs1)⟩ : F2))) (by rfl) (by rfl) (gb_fp2 [(0, (pc (Fp.n (num bs0)))), (1, (pc (Fp.n (num bs1))))] ⟨congrArg some (pc_size _).symm, congrArg some (pc_size _).symm, trivial⟩ (by rfl) (c2 (⟨Fp.n (num bs0), Fp.n (num bs1)⟩ : F2)) (by rfl)) ?_
  refine L_alloc _ (by rfl) (by rfl) z_2 (c2 (0 : F2)) rfl ?_; intro g3
  refine L_store (t := 30) 0 g3 (c2 (0 : F2)) (c2 (⟨Fp.n (num bs0), Fp.n (num bs1)⟩ : F2)) (by rfl) (by rfl) (by rfl) (by rfl) (by rfl) (hi_2 _) ((c2_size _).trans (c2_size _).symm) (c2_one _) ?_
  simp only [List.set_cons_zero, List.set_cons_succ]
  refine L_end ?_
  intro w4 hw4
  refine seq_plain hw4 [0, 1, 2, 3, 4, 5, 6, 7, 8] (by rfl) ?_
  refine L_val (.agg (c2 (⟨Fp.n (num bs0), Fp.n (num bs1)⟩ : F2))) (by rfl) (by rfl) (gives_load g3 0 30 (c2 (⟨Fp.n (num bs0), Fp.n (num bs1)⟩ : F2)) (c2 (⟨Fp.n (num bs0), Fp.n (num bs1)⟩ : F2)) _ (by rfl) (fun _ h => h.blk 0 (by rfl)) (Sl.refl _) Tryd.underlying30 (by rfl) (hi_2 _)) ?_
  refine L_val (.agg (c2 ((⟨Fp.n (num bs0), Fp.n (num bs1)⟩ : F2) * (⟨Fp.n (num bs0), Fp.n (num bs1)⟩ : F2)))) (by rfl) (by rfl) (gives_call (vl := [.agg (c2 (⟨Fp.n (num bs0), Fp.n (num bs1)⟩ : F2))]) (by kernel_rfl) (by rfl) (fun w h => q_square _ w (hG.keep h.below))) ?_
  refine L_val (.tuple #[.agg (c2 (y)), .bool true]) (by rfl) (by rfl) (gives_call (vl := [.agg (c2 ((⟨Fp.n (num bs0), Fp.n (num bs1)⟩ : F2) * (⟨Fp.n (num bs0), Fp.n (num bs1)⟩ : F2)))]) (by kernel_rfl) (by rfl) (fun w h => by rw [hy]; exact q_sqrt_yes _ w (hG.keep h.below) (hQ.keep h.below) ⟨_, rfl⟩)) ?_
  refine L_val (.tuple #[.agg (c2 (y)), .bool true]) (by rfl) (by rfl) (gives_value _ fun _ => by rfl) ?_
  refine L_val (.agg (c2 (y))) (by rfl) (by rfl) (gives_value _ fun _ => by kernel_rfl) ?_
  refine L_val (.bool true) (by rfl) (by rfl) (gives_value _ fun _ => by kernel_rfl) ?_
  refine L_alloc _ (by rfl) (by rfl) z_2 (c2 (0 : F2)) rfl ?_; intro g4
  refine L_store (t := 30) 0 g4 (c2 (0 : F2)) (c2 (y)) (by rfl) (by rfl) (by rfl) (by rfl) (by rfl) (hi_2 _) ((c2_size _).trans (c2_size _).symm) (c2_one _) ?_
  simp only [List.set_cons_zero, List.set_cons_succ]
  refine L_val (.bool true) (by rfl) (by rfl) (gives_value _ fun _ => by rfl) ?_
  refine L_end ?_
  intro w5 hw5
  refine wp_seq ?_
  refine seq_flow (by kernel_rfl) hw5 [] [(g4, 30, (c2 (y))), (g3, 30, (c2 (⟨Fp.n (num bs0), Fp.n (num bs1)⟩ : F2))), (g2, 5, (ag8 bs1)), (g1, 5, (ag8 bs0))] 13 (by rfl) ?_
  refine flow_take (i := 0) (.bool true) (by rfl) (by kernel_rfl) (by kernel_rfl) (by kernel_rfl) (by rfl) (by kernel_rfl) (List.Sublist.refl _) (gives_value _ fun _ => by rfl) ?_
  refine flow_take (i := 1) (.bool false) (by rfl) (by kernel_rfl) (by kernel_rfl) (by kernel_rfl) (by rfl) (by kernel_rfl) (List.Sublist.refl _) (gives_value _ fun _ => by rfl) ?_
  refine flow_take (i := 2) (.bool false) (by rfl) (by kernel_rfl) (by kernel_rfl) (by kernel_rfl) (by rfl) (by kernel_rfl) (List.Sublist.refl _) (gives_value _ fun _ => by rfl) ?_
  refine flow_take_g (i := 3) (dj := 28) (.agg (c2 (y))) (by rfl) (by kernel_rfl) (by kernel_rfl) (by kernel_rfl) (by rfl) (by kernel_rfl) (List.Sublist.refl _) (by rfl) (by rfl) (by rfl) (gives_load g4 0 30 (c2 (y)) (c2 (y)) _ (by rfl) (fun _ h => h.blk 0 (by rfl)) (Sl.refl _) Tryd.underlying30 (by rfl) (hi_2 _)) ?_
  refine flow_take_g (i := 4) (dj := 28) (.agg (c2 (⟨Fp.n (num bs0), Fp.n (num bs1)⟩ : F2))) (by rfl) (by kernel_rfl) (by kernel_rfl) (by kernel_rfl) (by rfl) (by kernel_rfl) (List.Sublist.refl _) (by rfl) (by rfl) (by rfl) (gives_load g3 0 30 (c2 (⟨Fp.n (num bs0), Fp.n (num bs1)⟩ : F2)) (c2 (⟨Fp.n (num bs0), Fp.n (num bs1)⟩ : F2)) _ (by rfl) (fun _ h => h.blk 1 (by rfl)) (Sl.refl _) Tryd.underlying30 (by rfl) (hi_2 _)) ?_
  refine flow_take_g (i := 5) (dj := 28) (.bool false) (by rfl) (by kernel_rfl) (by kernel_rfl) (by kernel_rfl) (by rfl) (by kernel_rfl) (List.Sublist.refl _) (by rfl) (by rfl) (by rfl) (gives_neq (c2 (y)) (c2 (⟨Fp.n (num bs0), Fp.n (num bs1)⟩ : F2)) true (by rfl) (by rfl) (by kernel_rfl) (fun w => eq_2_t (d := 9996) w hc)) ?_
  refine flow_take_g (i := 6) (dj := 28) (.bool false) (by rfl) (by kernel_rfl) (by kernel_rfl) (by kernel_rfl) (by rfl) (by kernel_rfl) (List.Sublist.refl _) (by rfl) (by rfl) (by rfl) (gives_value _ fun _ => by rfl) ?_
  refine flow_skip (i := 7) (dj := 32) (by rfl) (by kernel_rfl) (by kernel_rfl) (by kernel_rfl) (by rfl) (by kernel_rfl) (List.Sublist.refl _) (by rfl) (by rfl) (by rfl) ?_
  refine flow_skip (i := 8) (dj := 32) (by rfl) (by kernel_rfl) (by kernel_rfl) (by kernel_rfl) (by rfl) (by kernel_rfl) (List.Sublist.refl _) (by rfl) (by rfl) (by rfl) ?_
  refine flow_skip (i := 9) (dj := 32) (by rfl) (by kernel_rfl) (by kernel_rfl) (by kernel_rfl) (by rfl) (by kernel_rfl) (List.Sublist.refl _) (by rfl) (by rfl) (by rfl) ?_
  refine flow_skip (i := 10) (dj := 32) (by rfl) (by kernel_rfl) (by kernel_rfl) (by kernel_rfl) (by rfl) (by kernel_rfl) (List.Sublist.refl _) (by rfl) (by rfl) (by rfl) ?_
  refine flow_take_g (i := 11) (dj := 28) (.bool false) (by rfl) (by kernel_rfl) (by kernel_rfl) (by kernel_rfl) (by rfl) (by kernel_rfl) (List.Sublist.refl _) (by rfl) (by rfl) (by rfl) (gives_value _ fun _ => by rfl) ?_
  refine flow_take (i := 12) (.bool false) (by rfl) (by kernel_rfl) (by kernel_rfl) (by kernel_rfl) (by rfl) (by kernel_rfl) (List.Sublist.refl _) (gives_value _ fun _ => by rfl) ?_
  refine flow_done (by kernel_rfl) ?_
  intro w6 hw6
  refine wp_cond_false (fr_at _ _ (by rfl) _) ?_
  refine wp_skip ?_
  change Code.wp _ _ _ _ _
  refine wp_seq ?_
  refine seq_plain hw6 [0, 1] (by rfl) ?_
  refine L_val (.agg (c2 (⟨Fp.n (num bs0), Fp.n (num bs1)⟩ : F2))) (by rfl) (by rfl) (gives_load g3 0 30 (c2 (⟨Fp.n (num bs0), Fp.n (num bs1)⟩ : F2)) (c2 (⟨Fp.n (num bs0), Fp.n (num bs1)⟩ : F2)) _ (by rfl) (fun _ h => h.blk 1 (by rfl)) (Sl.refl _) Tryd.underlying30 (by rfl) (hi_2 _)) ?_
  refine L_val (.bool true) (by rfl) (by rfl) (gives_call (vl := [.agg (c2 (⟨Fp.n (num bs0), Fp.n (num bs1)⟩ : F2))]) (by kernel_rfl) (by rfl) (fun w h => q_zero_t w (hG.keep h.below) hz)) ?_
  refine L_end ?_
  intro w7 hw7
  refine wp_cond_true (fr_at _ _ (by rfl) _) ?_
  refine seq_plain hw7 [0, 1, 2, 3, 4, 5, 6, 7, 8, 9, 10, 11, 12, 13] (by rfl) ?_
  refine L_val (.agg (c2 (⟨Fp.n (num bs0), Fp.n (num bs1)⟩ : F2))) (by rfl) (by rfl) (gives_load g3 0 30 (c2 (⟨Fp.n (num bs0), Fp.n (num bs1)⟩ : F2)) (c2 (⟨Fp.n (num bs0), Fp.n (num bs1)⟩ : F2)) _ (by rfl) (fun _ h => h.blk 1 (by rfl)) (Sl.refl _) Tryd.underlying30 (by rfl) (hi_2 _)) ?_
  refine L_val (.bool false) (by rfl) (by rfl) (gives_call (vl := [.agg (c2 (⟨Fp.n (num bs0), Fp.n (num bs1)⟩ : F2))]) (by kernel_rfl) (by rfl) (fun w h => q_odd_0 w (hG.keep h.below) hz)) ?_
  refine L_val (.bool true) (by rfl) (by rfl) (gives_value _ fun _ => by rfl) ?_
  refine L_val (.bool true) (by rfl) (by rfl) (gives_value _ fun _ => by rfl) ?_
  refine L_val_g (dj := 44) (.agg (c2 (⟨Fp.n (num bs0), Fp.n (num bs1)⟩ : F2))) (by rfl) (by rfl) (by rfl) (by rfl) (by rfl) (gives_load g3 0 30 (c2 (⟨Fp.n (num bs0), Fp.n (num bs1)⟩ : F2)) (c2 (⟨Fp.n (num bs0), Fp.n (num bs1)⟩ : F2)) _ (by rfl) (fun _ h => h.blk 1 (by rfl)) (Sl.refl _) Tryd.underlying30 (by rfl) (hi_2 _)) ?_
  refine L_val_g (dj := 44) (.bool false) (by rfl) (by rfl) (by rfl) (by rfl) (by rfl) (gives_call (vl := [.agg (c2 (⟨Fp.n (num bs0), Fp.n (num bs1)⟩ : F2))]) (by kernel_rfl) (by rfl) (fun w h => q_large_0 w (hG.keep h.below) (hU.keep h.below) hz)) ?_
  refine L_val_g (dj := 44) (.bool true) (by rfl) (by rfl) (by rfl) (by rfl) (by rfl) (gives_value _ fun _ => by rfl) ?_
  refine L_val (.bool true) (by rfl) (by rfl) (gives_value _ fun _ => by rfl) ?_
  refine L_val (.bool true) (by rfl) (by rfl) (gives_value _ fun _ => by rfl) ?_
  refine L_val_g (dj := 49) (.agg (c2 (⟨Fp.n (num bs0), Fp.n (num bs1)⟩ : F2))) (by rfl) (by rfl) (by rfl) (by rfl) (by rfl) (gives_load g3 0 30 (c2 (⟨Fp.n (num bs0), Fp.n (num bs1)⟩ : F2)) (c2 (⟨Fp.n (num bs0), Fp.n (num bs1)⟩ : F2)) _ (by rfl) (fun _ h => h.blk 1 (by rfl)) (Sl.refl _) Tryd.underlying30 (by rfl) (hi_2 _)) ?_
  refine L_val_g (dj := 49) (.agg (c2 (F2.inv (⟨Fp.n (num bs0), Fp.n (num bs1)⟩ : F2)))) (by rfl) (by rfl) (by rfl) (by rfl) (by rfl) (gives_call (vl := [.agg (c2 (⟨Fp.n (num bs0), Fp.n (num bs1)⟩ : F2))]) (by kernel_rfl) (by rfl) (fun w h => q_inv _ w (hG.keep h.below))) ?_
  refine L_val_g (dj := 49) (.bool true) (by rfl) (by rfl) (by rfl) (by rfl) (by rfl) (gives_call (vl := [.agg (c2 (F2.inv (⟨Fp.n (num bs0), Fp.n (num bs1)⟩ : F2)))]) (by kernel_rfl) (by rfl) (fun w h => q_zero_t w (hG.keep h.below) (by rw [hz]; exact F2.inv_zero))) ?_
  refine L_val (.bool true) (by rfl) (by rfl) (gives_value _ fun _ => by rfl) ?_
  refine L_val (.bool true) (by rfl) (by rfl) (gives_value _ fun _ => by rfl) ?_
  refine L_end ?_
  intro w8 hw8
  refine wp_ret ?_
  change bodyPost _ _ _ Exit.ret _ _
  refine (ret_tmp (by rfl) (by rfl) (by rfl) ⟨?_, hw8.below⟩)
  exact rfl
set_option maxRecDepth 100000 in
set_option maxHeartbeats 4000000 in
theorem q_sq_zn (A0 : Option Addr) (L0 C0 : Nat) (bs0 : List Int) (A1 : Option Addr) (L1 C1 : Nat) (bs1 : List Int) (y : F2) (v : World) (hG : Glo v) (hH : GShp v) (hQ : GQp v) (hU : GUp v) (hr0 : Reads v v.heap.size A0 L0 (bs0.map (Value.int .u8))) (ho0 : Oct bs0) (hr1 : Reads v v.heap.size A1 L1 (bs1.map (Value.int .u8))) (ho1 : Oct bs1) (hs0 : L0 ≤ 64) (hs1 : L1 ≤ 64) (hy : y = ((⟨Fp.n (num bs0), Fp.n (num bs1)⟩ : F2) * (⟨Fp.n (num bs0), Fp.n (num bs1)⟩ : F2)).rt) (hz : (⟨Fp.n (num bs0), Fp.n (num bs1)⟩ : F2) = 0) (hc : y ≠ (⟨Fp.n (num bs0), Fp.n (num bs1)⟩ : F2)) (hm : y = -(⟨Fp.n (num bs0), Fp.n (num bs1)⟩ : F2)) : Rets 6 #[.slice A0 L0 C0, .slice A1 L1 C1] v (.bool true) := by
  have hn0 : bs0.length = L0 := by simpa using hr0.1
  have hn1 : bs1.length = L1 := by simpa using hr1.1
  refine calls_fr2 Tryd.func6 rfl (by rfl : _ = 76) (by rfl) ?_
  have hw := Hbl.nil v
  refine seq_plain hw [0] (by rfl) ?_
  refine L_val (.bool false) (by rfl) (by rfl) (gives_value _ fun _ => by rfl) ?_
  refine L_end ?_
  intro w1 hw1
  refine wp_seq ?_
  refine seq_plain hw1 [0, 1] (by rfl) ?_
  refine L_val (.bool true) (by rfl) (by rfl) (gives_call (vl := []) (by kernel_rfl) (by rfl) (fun w h => q_head w (hG.keep h.below))) ?_
  refine L_val (.bool false) (by rfl) (by rfl) (gives_value _ fun _ => by rfl) ?_
  refine L_end ?_
  intro w2 hw2
  refine wp_cond_false (fr_at _ _ (by rfl) _) ?_
  refine wp_skip ?_
  change Code.wp _ _ _ _ _
  refine wp_seq ?_
  refine seq_plain hw2 [0, 1, 2] (by rfl) ?_
  refine L_val (.slice A0 L0 C0) (by rfl) (by rfl) (gives_value _ fun _ => by rfl) ?_
  refine L_val (.slice A1 L1 C1) (by rfl) (by rfl) (gives_value _ fun _ => by rfl) ?_
  refine L_val (.bool false) (by rfl) (by rfl) (gives_call (vl := [.slice A0 L0 C0, .slice A1 L1 C1, .slice none 0 0, .slice none 0 0]) (by kernel_rfl) (by rfl) (fun w h => long_no _ _ _ _ _ _ _ _ _ _ _ _ w (by omega) (by omega) (by omega) (by omega))) ?_
  refine L_end ?_
  intro w3 hw3
  refine wp_cond_false (fr_at _ _ (by rfl) _) ?_
  refine wp_skip ?_
  change Code.wp _ _ _ _ _
  refine seq_plain hw3 [0, 1, 2, 3, 4, 5, 6, 7, 8] (by rfl) ?_
  refine L_val (.slice A0 L0 C0) (by rfl) (by rfl) (gives_value _ fun _ => by rfl) ?_
  refine L_fresh 5 (ag8 bs0) (fun g => .slice (some ⟨g, 0, none⟩) L0 L0) (by rfl) (by rfl) (by kernel_rfl) (by rfl) (fun w h => copy_any w A0 L0 C0 bs0 ((hr0.below h.below).more h.below.size) (by omega)) ?_; intro g1
  refine L_val (.agg (pc (Fp.n (num bs0)))) (by rfl) (by rfl) (gives_call (vl := [.slice (some ⟨g1, 0, none⟩) L0 L0]) (by kernel_rfl) (by rfl) (fun w h => v_wide _ _ _ bs0 w (hG.keep h.below) (hH.keep h.below) (copy_reads (h.blk 0 (by rfl)) hn0) ho0 (Nat.le_refl _) (by omega))) ?_
  refine L_val (.slice A1 L1 C1) (by rfl) (by rfl) (gives_value _ fun _ => by rfl) ?_
  refine L_fresh 5 (ag8 bs1) (fun g => .slice (some ⟨g, 0, none⟩) L1 L1) (by rfl) (by rfl) (by kernel_rfl) (by rfl) (fun w h => copy_any w A1 L1 C1 bs1 ((hr1.below h.below).more h.below.size) (by omega)) ?_; intro g2
  refine L_val (.agg (pc (Fp.n (num bs1)))) (by rfl) (by rfl) (gives_call (vl := [.slice (some ⟨g2, 0, none⟩) L1 L1]) (by kernel_rfl) (by rfl) (fun w h => v_wide _ _ _ bs1 w (hG.keep h.below) (hH.keep h.below) (copy_reads (h.blk 0 (by rfl)) hn1) ho1 (Nat.le_refl _) (by omega))) ?_
  refine L_val (.agg (c2 (⟨Fp.n (num bs0), Fp.n (num bs1)⟩ : F2))) (by rfl) (by rfl) (gb_fp2 [(0, (pc (Fp.n (num bs0)))), (1, (pc (Fp.n (num bs1))))] ⟨congrArg some (pc_size _).symm, congrArg some (pc_size _).symm, trivial⟩ (by rfl) (c2 (⟨Fp.n (num bs0), Fp.n (num bs1)⟩ : F2)) (by rfl)) ?_
  refine L_alloc _ (by rfl) (by rfl) z_2 (c2 (0 : F2)) rfl ?_; intro g3
  refine L_store (t := 30) 0 g3 (c2 (0 : F2)) (c2 (⟨Fp.n (num bs0), Fp.n (num bs1)⟩ : F2)) (by rfl) (by rfl) (by rfl) (by rfl) (by rfl) (hi_2 _) ((c2_size _).trans (c2_size _).symm) (c2_one _) ?_
  simp only [List.set_cons_zero, List.set_cons_succ]
  refine L_end ?_
  intro w4 hw4
  refine seq_plain hw4 [0, 1, 2, 3, 4, 5, 6, 7, 8] (by rfl) ?_
  refine L_val (.agg (c2 (⟨Fp.n (num bs0), Fp.n (num bs1)⟩ : F2))) (by rfl) (by rfl) (gives_load g3 0 30 (c2 (⟨Fp.n (num bs0), Fp.n (num bs1)⟩ : F2)) (c2 (⟨Fp.n (num bs0), Fp.n (num bs1)⟩ : F2)) _ (by rfl) (fun _ h => h.blk 0 (by rfl)) (Sl.refl _) Tryd.underlying30 (by rfl) (hi_2 _)) ?_
  refine L_val (.agg (c2 ((⟨Fp.n (num bs0), Fp.n (num bs1)⟩ : F2) * (⟨Fp.n (num bs0), Fp.n (num bs1)⟩ : F2)))) (by rfl) (by rfl) (gives_call (vl := [.agg (c2 (⟨Fp.n (num bs0), Fp.n (num bs1)⟩ : F2))]) (by kernel_rfl) (by rfl) (fun w h => q_square _ w (hG.keep h.below))) ?_
  refine L_val (.tuple #[.agg (c2 (y)), .bool true]) (by rfl) (by rfl) (gives_call (vl := [.agg (c2 ((⟨Fp.n (num bs0), Fp.n (num bs1)⟩ : F2) * (⟨Fp.n (num bs0), Fp.n (num bs1)⟩ : F2)))]) (by kernel_rfl) (by rfl) (fun w h => by rw [hy]; exact q_sqrt_yes _ w (hG.keep h.below) (hQ.keep h.below) ⟨_, rfl⟩)) ?_
  refine L_val (.tuple #[.agg (c2 (y)), .bool true]) (by rfl) (by rfl) (gives_value _ fun _ => by rfl) ?_
  refine L_val (.agg (c2 (y))) (by rfl) (by rfl) (gives_value _ fun _ => by kernel_rfl) ?_
  refine L_val (.bool true) (by rfl) (by rfl) (gives_value _ fun _ => by kernel_rfl) ?_
  refine L_alloc _ (by rfl) (by rfl) z_2 (c2 (0 : F2)) rfl ?_; intro g4
  refine L_store (t := 30) 0 g4 (c2 (0 : F2)) (c2 (y)) (by rfl) (by rfl) (by rfl) (by rfl) (by rfl) (hi_2 _) ((c2_size _).trans (c2_size _).symm) (c2_one _) ?_
  simp only [List.set_cons_zero, List.set_cons_succ]
  refine L_val (.bool true) (by rfl) (by rfl) (gives_value _ fun _ => by rfl) ?_
  refine L_end ?_
  intro w5 hw5
  refine wp_seq ?_
  refine seq_flow (by kernel_rfl) hw5 [] [(g4, 30, (c2 (y))), (g3, 30, (c2 (⟨Fp.n (num bs0), Fp.n (num bs1)⟩ : F2))), (g2, 5, (ag8 bs1)), (g1, 5, (ag8 bs0))] 13 (by rfl) ?_
  refine flow_take (i := 0) (.bool true) (by rfl) (by kernel_rfl) (by kernel_rfl) (by kernel_rfl) (by rfl) (by kernel_rfl) (List.Sublist.refl _) (gives_value _ fun _ => by rfl) ?_
  refine flow_take (i := 1) (.bool false) (by rfl) (by kernel_rfl) (by kernel_rfl) (by kernel_rfl) (by rfl) (by kernel_rfl) (List.Sublist.refl _) (gives_value _ fun _ => by rfl) ?_
  refine flow_take (i := 2) (.bool false) (by rfl) (by kernel_rfl) (by kernel_rfl) (by kernel_rfl) (by rfl) (by kernel_rfl) (List.Sublist.refl _) (gives_value _ fun _ => by rfl) ?_
  refine flow_take_g (i := 3) (dj := 28) (.agg (c2 (y))) (by rfl) (by kernel_rfl) (by kernel_rfl) (by kernel_rfl) (by rfl) (by kernel_rfl) (List.Sublist.refl _) (by rfl) (by rfl) (by rfl) (gives_load g4 0 30 (c2 (y)) (c2 (y)) _ (by rfl) (fun _ h => h.blk 0 (by rfl)) (Sl.refl _) Tryd.underlying30 (by rfl) (hi_2 _)) ?_
  refine flow_take_g (i := 4) (dj := 28) (.agg (c2 (⟨Fp.n (num bs0), Fp.n (num bs1)⟩ : F2))) (by rfl) (by kernel_rfl) (by kernel_rfl) (by kernel_rfl) (by rfl) (by kernel_rfl) (List.Sublist.refl _) (by rfl) (by rfl) (by rfl) (gives_load g3 0 30 (c2 (⟨Fp.n (num bs0), Fp.n (num bs1)⟩ : F2)) (c2 (⟨Fp.n (num bs0), Fp.n (num bs1)⟩ : F2)) _ (by rfl) (fun _ h => h.blk 1 (by rfl)) (Sl.refl _) Tryd.underlying30 (by rfl) (hi_2 _)) ?_
  refine flow_take_g (i := 5) (dj := 28) (.bool true) (by rfl) (by kernel_rfl) (by kernel_rfl) (by kernel_rfl) (by rfl) (by kernel_rfl) (List.Sublist.refl _) (by rfl) (by rfl) (by rfl) (gives_neq (c2 (y)) (c2 (⟨Fp.n (num bs0), Fp.n (num bs1)⟩ : F2)) false (by rfl) (by rfl) (by kernel_rfl) (fun w => eq_2_f (d := 9996) w hc)) ?_
  refine flow_take_g (i := 6) (dj := 28) (.bool true) (by rfl) (by kernel_rfl) (by kernel_rfl) (by kernel_rfl) (by rfl) (by kernel_rfl) (List.Sublist.refl _) (by rfl) (by rfl) (by rfl) (gives_value _ fun _ => by rfl) ?_
  refine flow_take_g (i := 7) (dj := 32) (.agg (c2 (y))) (by rfl) (by kernel_rfl) (by kernel_rfl) (by kernel_rfl) (by rfl) (by kernel_rfl) (List.Sublist.refl _) (by rfl) (by rfl) (by rfl) (gives_load g4 0 30 (c2 (y)) (c2 (y)) _ (by rfl) (fun _ h => h.blk 0 (by rfl)) (Sl.refl _) Tryd.underlying30 (by rfl) (hi_2 _)) ?_
  refine flow_take_g (i := 8) (dj := 32) (.agg (c2 (⟨Fp.n (num bs0), Fp.n (num bs1)⟩ : F2))) (by rfl) (by kernel_rfl) (by kernel_rfl) (by kernel_rfl) (by rfl) (by kernel_rfl) (List.Sublist.refl _) (by rfl) (by rfl) (by rfl) (gives_load g3 0 30 (c2 (⟨Fp.n (num bs0), Fp.n (num bs1)⟩ : F2)) (c2 (⟨Fp.n (num bs0), Fp.n (num bs1)⟩ : F2)) _ (by rfl) (fun _ h => h.blk 1 (by rfl)) (Sl.refl _) Tryd.underlying30 (by rfl) (hi_2 _)) ?_
  refine flow_take_g (i := 9) (dj := 32) (.agg (c2 (-(⟨Fp.n (num bs0), Fp.n (num bs1)⟩ : F2)))) (by rfl) (by kernel_rfl) (by kernel_rfl) (by kernel_rfl) (by rfl) (by kernel_rfl) (List.Sublist.refl _) (by rfl) (by rfl) (by rfl) (gives_call (vl := [.agg (c2 (⟨Fp.n (num bs0), Fp.n (num bs1)⟩ : F2))]) (by kernel_rfl) (by rfl) (fun w h => q_neg _ w (hG.keep h.below))) ?_
  refine flow_take_g (i := 10) (dj := 32) (.bool false) (by rfl) (by kernel_rfl) (by kernel_rfl) (by kernel_rfl) (by rfl) (by kernel_rfl) (List.Sublist.refl _) (by rfl) (by rfl) (by rfl) (gives_neq (c2 (y)) (c2 (-(⟨Fp.n (num bs0), Fp.n (num bs1)⟩ : F2))) true (by rfl) (by rfl) (by kernel_rfl) (fun w => eq_2_t (d := 9996) w hm)) ?_
  refine flow_take_g (i := 11) (dj := 28) (.bool false) (by rfl) (by kernel_rfl) (by kernel_rfl) (by kernel_rfl) (by rfl) (by kernel_rfl) (List.Sublist.refl _) (by rfl) (by rfl) (by rfl) (gives_value _ fun _ => by rfl) ?_
  refine flow_take (i := 12) (.bool false) (by rfl) (by kernel_rfl) (by kernel_rfl) (by kernel_rfl) (by rfl) (by kernel_rfl) (List.Sublist.refl _) (gives_value _ fun _ => by rfl) ?_
  refine flow_done (by kernel_rfl) ?_
  intro w6 hw6
  refine wp_cond_false (fr_at _ _ (by rfl) _) ?_
  refine wp_skip ?_
  change Code.wp _ _ _ _ _
  refine wp_seq ?_
  refine seq_plain hw6 [0, 1] (by rfl) ?_
  refine L_val (.agg (c2 (⟨Fp.n (num bs0), Fp.n (num bs1)⟩ : F2))) (by rfl) (by rfl) (gives_load g3 0 30 (c2 (⟨Fp.n (num bs0), Fp.n (num bs1)⟩ : F2)) (c2 (⟨Fp.n (num bs0), Fp.n (num bs1)⟩ : F2)) _ (by rfl) (fun _ h => h.blk 1 (by rfl)) (Sl.refl _) Tryd.underlying30 (by rfl) (hi_2 _)) ?_
  refine L_val (.bool true) (by rfl) (by rfl) (gives_call (vl := [.agg (c2 (⟨Fp.n (num bs0), Fp.n (num bs1)⟩ : F2))]) (by kernel_rfl) (by rfl) (fun w h => q_zero_t w (hG.keep h.below) hz)) ?_
  refine L_end ?_
  intro w7 hw7
  refine wp_cond_true (fr_at _ _ (by rfl) _) ?_
  refine seq_plain hw7 [0, 1, 2, 3, 4, 5, 6, 7, 8, 9, 10, 11, 12, 13] (by rfl) ?_
  refine L_val (.agg (c2 (⟨Fp.n (num bs0), Fp.n (num bs1)⟩ : F2))) (by rfl) (by rfl) (gives_load g3 0 30 (c2 (⟨Fp.n (num bs0), Fp.n (num bs1)⟩ : F2)) (c2 (⟨Fp.n (num bs0), Fp.n (num bs1)⟩ : F2)) _ (by rfl) (fun _ h => h.blk 1 (by rfl)) (Sl.refl _) Tryd.underlying30 (by rfl) (hi_2 _)) ?_
  refine L_val (.bool false) (by rfl) (by rfl) (gives_call (vl := [.agg (c2 (⟨Fp.n (num bs0), Fp.n (num bs1)⟩ : F2))]) (by kernel_rfl) (by rfl) (fun w h => q_odd_0 w (hG.keep h.below) hz)) ?_
  refine L_val (.bool true) (by rfl) (by rfl) (gives_value _ fun _ => by rfl) ?_
  refine L_val (.bool true) (by rfl) (by rfl) (gives_value _ fun _ => by rfl) ?_
  refine L_val_g (dj := 44) (.agg (c2 (⟨Fp.n (num bs0), Fp.n (num bs1)⟩ : F2))) (by rfl) (by rfl) (by rfl) (by rfl) (by rfl) (gives_load g3 0 30 (c2 (⟨Fp.n (num bs0), Fp.n (num bs1)⟩ : F2)) (c2 (⟨Fp.n (num bs0), Fp.n (num bs1)⟩ : F2)) _ (by rfl) (fun _ h => h.blk 1 (by rfl)) (Sl.refl _) Tryd.underlying30 (by rfl) (hi_2 _)) ?_
  refine L_val_g (dj := 44) (.bool false) (by rfl) (by rfl) (by rfl) (by rfl) (by rfl) (gives_call (vl := [.agg (c2 (⟨Fp.n (num bs0), Fp.n (num bs1)⟩ : F2))]) (by kernel_rfl) (by rfl) (fun w h => q_large_0 w (hG.keep h.below) (hU.keep h.below) hz)) ?_
  refine L_val_g (dj := 44) (.bool true) (by rfl) (by rfl) (by rfl) (by rfl) (by rfl) (gives_value _ fun _ => by rfl) ?_
  refine L_val (.bool true) (by rfl) (by rfl) (gives_value _ fun _ => by rfl) ?_
  refine L_val (.bool true) (by rfl) (by rfl) (gives_value _ fun _ => by rfl) ?_
  refine L_val_g (dj := 49) (.agg (c2 (⟨Fp.n (num bs0), Fp.n (num bs1)⟩ : F2))) (by rfl) (by rfl) (by rfl) (by rfl) (by rfl) (gives_load g3 0 30 (c2 (⟨Fp.n (num bs0), Fp.n (num bs1)⟩ : F2)) (c2 (⟨Fp.n (num bs0), Fp.n (num bs1)⟩ : F2)) _ (by rfl) (fun _ h => h.blk 1 (by rfl)) (Sl.refl _) Tryd.underlying30 (by rfl) (hi_2 _)) ?_
  refine L_val_g (dj := 49) (.agg (c2 (F2.inv (⟨Fp.n (num bs0), Fp.n (num bs1)⟩ : F2)))) (by rfl) (by rfl) (by rfl) (by rfl) (by rfl) (gives_call (vl := [.agg (c2 (⟨Fp.n (num bs0), Fp.n (num bs1)⟩ : F2))]) (by kernel_rfl) (by rfl) (fun w h => q_inv _ w (hG.keep h.below))) ?_
  refine L_val_g (dj := 49) (.bool true) (by rfl) (by rfl) (by rfl) (by rfl) (by rfl) (gives_call (vl := [.agg (c2 (F2.inv (⟨Fp.n (num bs0), Fp.n (num bs1)⟩ : F2)))]) (by kernel_rfl) (by rfl) (fun w h => q_zero_t w (hG.keep h.below) (by rw [hz]; exact F2.inv_zero))) ?_
  refine L_val (.bool true) (by rfl) (by rfl) (gives_value _ fun _ => by rfl) ?_
  refine L_val (.bool true) (by rfl) (by rfl) (gives_value _ fun _ => by rfl) ?_
  refine L_end ?_
  intro w8 hw8
  refine wp_ret ?_
  change bodyPost _ _ _ Exit.ret _ _
  refine (ret_tmp (by rfl) (by rfl) (by rfl) ⟨?_, hw8.below⟩)
  exact rfl
set_option maxRecDepth 100000 in
set_option maxHeartbeats 4000000 in
theorem q_sq_ns (A0 : Option Addr) (L0 C0 : Nat) (bs0 : List Int) (A1 : Option Addr) (L1 C1 : Nat) (bs1 : List Int) (y : F2) (v : World) (hG : Glo v) (hH : GShp v) (hQ : GQp v) (hU : GUp v) (hr0 : Reads v v.heap.size A0 L0 (bs0.map (Value.int .u8))) (ho0 : Oct bs0) (hr1 : Reads v v.heap.size A1 L1 (bs1.map (Value.int .u8))) (ho1 : Oct bs1) (hs0 : L0 ≤ 64) (hs1 : L1 ≤ 64) (hy : y = ((⟨Fp.n (num bs0), Fp.n (num bs1)⟩ : F2) * (⟨Fp.n (num bs0), Fp.n (num bs1)⟩ : F2)).rt) (hz : (⟨Fp.n (num bs0), Fp.n (num bs1)⟩ : F2) ≠ 0) (hc : y = (⟨Fp.n (num bs0), Fp.n (num bs1)⟩ : F2)) : Rets 6 #[.slice A0 L0 C0, .slice A1 L1 C1] v (.bool true) := by
  have hn0 : bs0.length = L0 := by simpa using hr0.1
  have hn1 : bs1.length = L1 := by simpa using hr1.1
  obtain ⟨k0, hk0⟩ : ∃ k : F2, k = F2.sm 1 0 := ⟨_, rfl⟩
  refine calls_fr2 Tryd.func6 rfl (by rfl : _ = 76) (by rfl) ?_
  have hw := Hbl.nil v
  refine seq_plain hw [0] (by rfl) ?_
  refine L_val (.bool false) (by rfl) (by rfl) (gives_value _ fun _ => by rfl) ?_
  refine L_end ?_
  intro w1 hw1
  refine wp_seq ?_
  refine seq_plain hw1 [0, 1] (by rfl) ?_
  refine L_val (.bool true) (by rfl) (by rfl) (gives_call (vl := []) (by kernel_rfl) (by rfl) (fun w h => q_head w (hG.keep h.below))) ?_
  refine L_val (.bool false) (by rfl) (by rfl) (gives_value _ fun _ => by rfl) ?_
  refine L_end ?_
  intro w2 hw2
  refine wp_cond_false (fr_at _ _ (by rfl) _) ?_
  refine wp_skip ?_
  change Code.wp _ _ _ _ _
  refine wp_seq ?_
  refine seq_plain hw2 [0, 1, 2] (by rfl) ?_
  refine L_val (.slice A0 L0 C0) (by rfl) (by rfl) (gives_value _ fun _ => by rfl) ?_
  refine L_val (.slice A1 L1 C1) (by rfl) (by rfl) (gives_value _ fun _ => by rfl) ?_
  refine L_val (.bool false) (by rfl) (by rfl) (gives_call (vl := [.slice A0 L0 C0, .slice A1 L1 C1, .slice none 0 0, .slice none 0 0]) (by kernel_rfl) (by rfl) (fun w h => long_no _ _ _ _ _ _ _ _ _ _ _ _ w (by omega) (by omega) (by omega) (by omega))) ?_
  refine L_end ?_
  intro w3 hw3
  refine wp_cond_false (fr_at _ _ (by rfl) _) ?_
  refine wp_skip ?_
  change Code.wp _ _ _ _ _
  refine seq_plain hw3 [0, 1, 2, 3, 4, 5, 6, 7, 8] (by rfl) ?_
  refine L_val (.slice A0 L0 C0) (by rfl) (by rfl) (gives_value _ fun _ => by rfl) ?_
  refine L_fresh 5 (ag8 bs0) (fun g => .slice (some ⟨g, 0, none⟩) L0 L0) (by rfl) (by rfl) (by kernel_rfl) (by rfl) (fun w h => copy_any w A0 L0 C0 bs0 ((hr0.below h.below).more h.below.size) (by omega)) ?_; intro g1
  refine L_val (.agg (pc (Fp.n (num bs0)))) (by rfl) (by rfl) (gives_call (vl := [.slice (some ⟨g1, 0, none⟩) L0 L0]) (by kernel_rfl) (by rfl) (fun w h => v_wide _ _ _ bs0 w (hG.keep h.below) (hH.keep h.below) (copy_reads (h.blk 0 (by rfl)) hn0) ho0 (Nat.le_refl _) (by omega))) ?_
  refine L_val (.slice A1 L1 C1) (by rfl) (by rfl) (gives_value _ fun _ => by rfl) ?_
  refine L_fresh 5 (ag8 bs1) (fun g => .slice (some ⟨g, 0, none⟩) L1 L1) (by rfl) (by rfl) (by kernel_rfl) (by rfl) (fun w h => copy_any w A1 L1 C1 bs1 ((hr1.below h.below).more h.below.size) (by omega)) ?_; intro g2
  refine L_val (.agg (pc (Fp.n (num bs1)))) (by rfl) (by rfl) (gives_call (vl := [.slice (some ⟨g2, 0, none⟩) L1 L1]) (by kernel_rfl) (by rfl) (fun w h => v_wide _ _ _ bs1 w (hG.keep h.below) (hH.keep h.below) (copy_reads (h.blk 0 (by rfl)) hn1) ho1 (Nat.le_refl _) (by omega))) ?_
  refine L_val (.agg (c2 (⟨Fp.n (num bs0), Fp.n (num bs1)⟩ : F2))) (by rfl) (by rfl) (gb_fp2 [(0, (pc (Fp.n (num bs0)))), (1, (pc (Fp.n (num bs1))))] ⟨congrArg some (pc_size _).symm, congrArg some (pc_size _).symm, trivial⟩ (by rfl) (c2 (⟨Fp.n (num bs0), Fp.n (num bs1)⟩ : F2)) (by rfl)) ?_
  refine L_alloc _ (by rfl) (by rfl) z_2 (c2 (0 : F2)) rfl ?_; intro g3
  refine L_store (t := 30) 0 g3 (c2 (0 : F2)) (c2 (⟨Fp.n (num bs0), Fp.n (num bs1)⟩ : F2)) (by rfl) (by rfl) (by rfl) (by rfl) (by rfl) (hi_2 _) ((c2_size _).trans (c2_size _).symm) (c2_one _) ?_
  simp only [List.set_cons_zero, List.set_cons_succ]
  refine L_end ?_
  intro w4 hw4
  refine seq_plain hw4 [0, 1, 2, 3, 4, 5, 6, 7, 8] (by rfl) ?_
  refine L_val (.agg (c2 (⟨Fp.n (num bs0), Fp.n (num bs1)⟩ : F2))) (by rfl) (by rfl) (gives_load g3 0 30 (c2 (⟨Fp.n (num bs0), Fp.n (num bs1)⟩ : F2)) (c2 (⟨Fp.n (num bs0), Fp.n (num bs1)⟩ : F2)) _ (by rfl) (fun _ h => h.blk 0 (by rfl)) (Sl.refl _) Tryd.underlying30 (by rfl) (hi_2 _)) ?_
  refine L_val (.agg (c2 ((⟨Fp.n (num bs0), Fp.n (num bs1)⟩ : F2) * (⟨Fp.n (num bs0), Fp.n (num bs1)⟩ : F2)))) (by rfl) (by rfl) (gives_call (vl := [.agg (c2 (⟨Fp.n (num bs0), Fp.n (num bs1)⟩ : F2))]) (by kernel_rfl) (by rfl) (fun w h => q_square _ w (hG.keep h.below))) ?_
  refine L_val (.tuple #[.agg (c2 (y)), .bool true]) (by rfl) (by rfl) (gives_call (vl := [.agg (c2 ((⟨Fp.n (num bs0), Fp.n (num bs1)⟩ : F2) * (⟨Fp.n (num bs0), Fp.n (num bs1)⟩ : F2)))]) (by kernel_rfl) (by rfl) (fun w h => by rw [hy]; exact q_sqrt_yes _ w (hG.keep h.below) (hQ.keep h.below) ⟨_, rfl⟩)) ?_
  refine L_val (.tuple #[.agg (c2 (y)), .bool true]) (by rfl) (by rfl) (gives_value _ fun _ => by rfl) ?_
  refine L_val (.agg (c2 (y))) (by rfl) (by rfl) (gives_value _ fun _ => by kernel_rfl) ?_
  refine L_val (.bool true) (by rfl) (by rfl) (gives_value _ fun _ => by kernel_rfl) ?_
  refine L_alloc _ (by rfl) (by rfl) z_2 (c2 (0 : F2)) rfl ?_; intro g4
  refine L_store (t := 30) 0 g4 (c2 (0 : F2)) (c2 (y)) (by rfl) (by rfl) (by rfl) (by rfl) (by rfl) (hi_2 _) ((c2_size _).trans (c2_size _).symm) (c2_one _) ?_
  simp only [List.set_cons_zero, List.set_cons_succ]
  refine L_val (.bool true) (by rfl) (by rfl) (gives_value _ fun _ => by rfl) ?_
  refine L_end ?_
  intro w5 hw5
  refine wp_seq ?_
  refine seq_flow (by kernel_rfl) hw5 [] [(g4, 30, (c2 (y))), (g3, 30, (c2 (⟨Fp.n (num bs0), Fp.n (num bs1)⟩ : F2))), (g2, 5, (ag8 bs1)), (g1, 5, (ag8 bs0))] 13 (by rfl) ?_
  refine flow_take (i := 0) (.bool true) (by rfl) (by kernel_rfl) (by kernel_rfl) (by kernel_rfl) (by rfl) (by kernel_rfl) (List.Sublist.refl _) (gives_value _ fun _ => by rfl) ?_
  refine flow_take (i := 1) (.bool false) (by rfl) (by kernel_rfl) (by kernel_rfl) (by kernel_rfl) (by rfl) (by kernel_rfl) (List.Sublist.refl _) (gives_value _ fun _ => by rfl) ?_
  refine flow_take (i := 2) (.bool false) (by rfl) (by kernel_rfl) (by kernel_rfl) (by kernel_rfl) (by rfl) (by kernel_rfl) (List.Sublist.refl _) (gives_value _ fun _ => by rfl) ?_
  refine flow_take_g (i := 3) (dj := 28) (.agg (c2 (y))) (by rfl) (by kernel_rfl) (by kernel_rfl) (by kernel_rfl) (by rfl) (by kernel_rfl) (List.Sublist.refl _) (by rfl) (by rfl) (by rfl) (gives_load g4 0 30 (c2 (y)) (c2 (y)) _ (by rfl) (fun _ h => h.blk 0 (by rfl)) (Sl.refl _) Tryd.underlying30 (by rfl) (hi_2 _)) ?_
  refine flow_take_g (i := 4) (dj := 28) (.agg (c2 (⟨Fp.n (num bs0), Fp.n (num bs1)⟩ : F2))) (by rfl) (by kernel_rfl) (by kernel_rfl) (by kernel_rfl) (by rfl) (by kernel_rfl) (List.Sublist.refl _) (by rfl) (by rfl) (by rfl) (gives_load g3 0 30 (c2 (⟨Fp.n (num bs0), Fp.n (num bs1)⟩ : F2)) (c2 (⟨Fp.n (num bs0), Fp.n (num bs1)⟩ : F2)) _ (by rfl) (fun _ h => h.blk 1 (by rfl)) (Sl.refl _) Tryd.underlying30 (by rfl) (hi_2 _)) ?_
  refine flow_take_g (i := 5) (dj := 28) (.bool false) (by rfl) (by kernel_rfl) (by kernel_rfl) (by kernel_rfl) (by rfl) (by kernel_rfl) (List.Sublist.refl _) (by rfl) (by rfl) (by rfl) (gives_neq (c2 (y)) (c2 (⟨Fp.n (num bs0), Fp.n (num bs1)⟩ : F2)) true (by rfl) (by rfl) (by kernel_rfl) (fun w => eq_2_t (d := 9996) w hc)) ?_
  refine flow_take_g (i := 6) (dj := 28) (.bool false) (by rfl) (by kernel_rfl) (by kernel_rfl) (by kernel_rfl) (by rfl) (by kernel_rfl) (List.Sublist.refl _) (by rfl) (by rfl) (by rfl) (gives_value _ fun _ => by rfl) ?_
  refine flow_skip (i := 7) (dj := 32) (by rfl) (by kernel_rfl) (by kernel_rfl) (by kernel_rfl) (by rfl) (by kernel_rfl) (List.Sublist.refl _) (by rfl) (by rfl) (by rfl) ?_
  refine flow_skip (i := 8) (dj := 32) (by rfl) (by kernel_rfl) (by kernel_rfl) (by kernel_rfl) (by rfl) (by kernel_rfl) (List.Sublist.refl _) (by rfl) (by rfl) (by rfl) ?_
  refine flow_skip (i := 9) (dj := 32) (by rfl) (by kernel_rfl) (by kernel_rfl) (by kernel_rfl) (by rfl) (by kernel_rfl) (List.Sublist.refl _) (by rfl) (by rfl) (by rfl) ?_
  refine flow_skip (i := 10) (dj := 32) (by rfl) (by kernel_rfl) (by kernel_rfl) (by kernel_rfl) (by rfl) (by kernel_rfl) (List.Sublist.refl _) (by rfl) (by rfl) (by rfl) ?_
  refine flow_take_g (i := 11) (dj := 28) (.bool false) (by rfl) (by kernel_rfl) (by kernel_rfl) (by kernel_rfl) (by rfl) (by kernel_rfl) (List.Sublist.refl _) (by rfl) (by rfl) (by rfl) (gives_value _ fun _ => by rfl) ?_
  refine flow_take (i := 12) (.bool false) (by rfl) (by kernel_rfl) (by kernel_rfl) (by kernel_rfl) (by rfl) (by kernel_rfl) (List.Sublist.refl _) (gives_value _ fun _ => by rfl) ?_
  refine flow_done (by kernel_rfl) ?_
  intro w6 hw6
  refine wp_cond_false (fr_at _ _ (by rfl) _) ?_
  refine wp_skip ?_
  change Code.wp _ _ _ _ _
  refine wp_seq ?_
  refine seq_plain hw6 [0, 1] (by rfl) ?_
  refine L_val (.agg (c2 (⟨Fp.n (num bs0), Fp.n (num bs1)⟩ : F2))) (by rfl) (by rfl) (gives_load g3 0 30 (c2 (⟨Fp.n (num bs0), Fp.n (num bs1)⟩ : F2)) (c2 (⟨Fp.n (num bs0), Fp.n (num bs1)⟩ : F2)) _ (by rfl) (fun _ h => h.blk 1 (by rfl)) (Sl.refl _) Tryd.underlying30 (by rfl) (hi_2 _)) ?_
  refine L_val (.bool false) (by rfl) (by rfl) (gives_call (vl := [.agg (c2 (⟨Fp.n (num bs0), Fp.n (num bs1)⟩ : F2))]) (by kernel_rfl) (by rfl) (fun w h => q_zero_f w (hG.keep h.below) hz)) ?_
  refine L_end ?_
  intro w7 hw7
  refine wp_cond_false (fr_at _ _ (by rfl) _) ?_
  refine wp_skip ?_
  change Code.wp _ _ _ _ _
  refine seq_flow (by kernel_rfl) hw7 [] [(g4, 30, (c2 (y))), (g3, 30, (c2 (⟨Fp.n (num bs0), Fp.n (num bs1)⟩ : F2))), (g2, 5, (ag8 bs1)), (g1, 5, (ag8 bs0))] 23 (by rfl) ?_
  refine flow_take (i := 0) (.agg (c2 (⟨Fp.n (num bs0), Fp.n (num bs1)⟩ : F2))) (by rfl) (by kernel_rfl) (by kernel_rfl) (by kernel_rfl) (by rfl) (by kernel_rfl) (List.Sublist.refl _) (gives_load g3 0 30 (c2 (⟨Fp.n (num bs0), Fp.n (num bs1)⟩ : F2)) (c2 (⟨Fp.n (num bs0), Fp.n (num bs1)⟩ : F2)) _ (by rfl) (fun _ h => h.blk 1 (by rfl)) (Sl.refl _) Tryd.underlying30 (by rfl) (hi_2 _)) ?_
  refine flow_take (i := 1) (.bool (F2.odd (⟨Fp.n (num bs0), Fp.n (num bs1)⟩ : F2))) (by rfl) (by kernel_rfl) (by kernel_rfl) (by kernel_rfl) (by rfl) (by kernel_rfl) (List.Sublist.refl _) (gives_call (vl := [.agg (c2 (⟨Fp.n (num bs0), Fp.n (num bs1)⟩ : F2))]) (by kernel_rfl) (by rfl) (fun w h => q_odd _ w (hG.keep h.below))) ?_
  refine flow_take (i := 2) (.agg (c2 (⟨Fp.n (num bs0), Fp.n (num bs1)⟩ : F2))) (by rfl) (by kernel_rfl) (by kernel_rfl) (by kernel_rfl) (by rfl) (by kernel_rfl) (List.Sublist.refl _) (gives_load g3 0 30 (c2 (⟨Fp.n (num bs0), Fp.n (num bs1)⟩ : F2)) (c2 (⟨Fp.n (num bs0), Fp.n (num bs1)⟩ : F2)) _ (by rfl) (fun _ h => h.blk 1 (by rfl)) (Sl.refl _) Tryd.underlying30 (by rfl) (hi_2 _)) ?_
  refine flow_take (i := 3) (.agg (c2 (-(⟨Fp.n (num bs0), Fp.n (num bs1)⟩ : F2)))) (by rfl) (by kernel_rfl) (by kernel_rfl) (by kernel_rfl) (by rfl) (by kernel_rfl) (List.Sublist.refl _) (gives_call (vl := [.agg (c2 (⟨Fp.n (num bs0), Fp.n (num bs1)⟩ : F2))]) (by kernel_rfl) (by rfl) (fun w h => q_neg _ w (hG.keep h.below))) ?_
  refine flow_take (i := 4) (.bool (F2.odd (-(⟨Fp.n (num bs0), Fp.n (num bs1)⟩ : F2)))) (by rfl) (by kernel_rfl) (by kernel_rfl) (by kernel_rfl) (by rfl) (by kernel_rfl) (List.Sublist.refl _) (gives_call (vl := [.agg (c2 (-(⟨Fp.n (num bs0), Fp.n (num bs1)⟩ : F2)))]) (by kernel_rfl) (by rfl) (fun w h => q_odd _ w (hG.keep h.below))) ?_
  refine flow_take (i := 5) (.bool true) (by rfl) (by kernel_rfl) (by kernel_rfl) (by kernel_rfl) (by rfl) (by kernel_rfl) (List.Sublist.refl _) (gives_neqb _ _ (by rfl) (by rfl) (by rfl) true (F2.odd_neg hz)) ?_
  refine flow_take (i := 6) (.bool true) (by rfl) (by kernel_rfl) (by kernel_rfl) (by kernel_rfl) (by rfl) (by kernel_rfl) (List.Sublist.refl _) (gives_value _ fun _ => by rfl) ?_
  refine flow_take_g (i := 7) (dj := 60) (.agg (c2 (⟨Fp.n (num bs0), Fp.n (num bs1)⟩ : F2))) (by rfl) (by kernel_rfl) (by kernel_rfl) (by kernel_rfl) (by rfl) (by kernel_rfl) (List.Sublist.refl _) (by rfl) (by rfl) (by rfl) (gives_load g3 0 30 (c2 (⟨Fp.n (num bs0), Fp.n (num bs1)⟩ : F2)) (c2 (⟨Fp.n (num bs0), Fp.n (num bs1)⟩ : F2)) _ (by rfl) (fun _ h => h.blk 1 (by rfl)) (Sl.refl _) Tryd.underlying30 (by rfl) (hi_2 _)) ?_
  refine flow_take_g (i := 8) (dj := 60) (.bool (F2.large (⟨Fp.n (num bs0), Fp.n (num bs1)⟩ : F2))) (by rfl) (by kernel_rfl) (by kernel_rfl) (by kernel_rfl) (by rfl) (by kernel_rfl) (List.Sublist.refl _) (by rfl) (by rfl) (by rfl) (gives_call (vl := [.agg (c2 (⟨Fp.n (num bs0), Fp.n (num bs1)⟩ : F2))]) (by kernel_rfl) (by rfl) (fun w h => q_large _ w (hG.keep h.below) (hU.keep h.below))) ?_
  refine flow_take_g (i := 9) (dj := 60) (.agg (c2 (⟨Fp.n (num bs0), Fp.n (num bs1)⟩ : F2))) (by rfl) (by kernel_rfl) (by kernel_rfl) (by kernel_rfl) (by rfl) (by kernel_rfl) (List.Sublist.refl _) (by rfl) (by rfl) (by rfl) (gives_load g3 0 30 (c2 (⟨Fp.n (num bs0), Fp.n (num bs1)⟩ : F2)) (c2 (⟨Fp.n (num bs0), Fp.n (num bs1)⟩ : F2)) _ (by rfl) (fun _ h => h.blk 1 (by rfl)) (Sl.refl _) Tryd.underlying30 (by rfl) (hi_2 _)) ?_
  refine flow_take_g (i := 10) (dj := 60) (.agg (c2 (-(⟨Fp.n (num bs0), Fp.n (num bs1)⟩ : F2)))) (by rfl) (by kernel_rfl) (by kernel_rfl) (by kernel_rfl) (by rfl) (by kernel_rfl) (List.Sublist.refl _) (by rfl) (by rfl) (by rfl) (gives_call (vl := [.agg (c2 (⟨Fp.n (num bs0), Fp.n (num bs1)⟩ : F2))]) (by kernel_rfl) (by rfl) (fun w h => q_neg _ w (hG.keep h.below))) ?_
  refine flow_take_g (i := 11) (dj := 60) (.bool (F2.large (-(⟨Fp.n (num bs0), Fp.n (num bs1)⟩ : F2)))) (by rfl) (by kernel_rfl) (by kernel_rfl) (by kernel_rfl) (by rfl) (by kernel_rfl) (List.Sublist.refl _) (by rfl) (by rfl) (by rfl) (gives_call (vl := [.agg (c2 (-(⟨Fp.n (num bs0), Fp.n (num bs1)⟩ : F2)))]) (by kernel_rfl) (by rfl) (fun w h => q_large _ w (hG.keep h.below) (hU.keep h.below))) ?_
  refine flow_take_g (i := 12) (dj := 60) (.bool true) (by rfl) (by kernel_rfl) (by kernel_rfl) (by kernel_rfl) (by rfl) (by kernel_rfl) (List.Sublist.refl _) (by rfl) (by rfl) (by rfl) (gives_neqb _ _ (by rfl) (by rfl) (by rfl) true (F2.large_neg hz)) ?_
  refine flow_take (i := 13) (.bool true) (by rfl) (by kernel_rfl) (by kernel_rfl) (by kernel_rfl) (by rfl) (by kernel_rfl) (List.Sublist.refl _) (gives_value _ fun _ => by rfl) ?_
  refine flow_take (i := 14) (.bool true) (by rfl) (by kernel_rfl) (by kernel_rfl) (by kernel_rfl) (by rfl) (by kernel_rfl) (List.Sublist.refl _) (gives_value _ fun _ => by rfl) ?_
  refine flow_take_g (i := 15) (dj := 68) (.agg (c2 (⟨Fp.n (num bs0), Fp.n (num bs1)⟩ : F2))) (by rfl) (by kernel_rfl) (by kernel_rfl) (by kernel_rfl) (by rfl) (by kernel_rfl) (List.Sublist.refl _) (by rfl) (by rfl) (by rfl) (gives_load g3 0 30 (c2 (⟨Fp.n (num bs0), Fp.n (num bs1)⟩ : F2)) (c2 (⟨Fp.n (num bs0), Fp.n (num bs1)⟩ : F2)) _ (by rfl) (fun _ h => h.blk 1 (by rfl)) (Sl.refl _) Tryd.underlying30 (by rfl) (hi_2 _)) ?_
  refine flow_take_g (i := 16) (dj := 68) (.agg (c2 (⟨Fp.n (num bs0), Fp.n (num bs1)⟩ : F2))) (by rfl) (by kernel_rfl) (by kernel_rfl) (by kernel_rfl) (by rfl) (by kernel_rfl) (List.Sublist.refl _) (by rfl) (by rfl) (by rfl) (gives_load g3 0 30 (c2 (⟨Fp.n (num bs0), Fp.n (num bs1)⟩ : F2)) (c2 (⟨Fp.n (num bs0), Fp.n (num bs1)⟩ : F2)) _ (by rfl) (fun _ h => h.blk 1 (by rfl)) (Sl.refl _) Tryd.underlying30 (by rfl) (hi_2 _)) ?_
  refine flow_take_g (i := 17) (dj := 68) (.agg (c2 (F2.inv (⟨Fp.n (num bs0), Fp.n (num bs1)⟩ : F2)))) (by rfl) (by kernel_rfl) (by kernel_rfl) (by kernel_rfl) (by rfl) (by kernel_rfl) (List.Sublist.refl _) (by rfl) (by rfl) (by rfl) (gives_call (vl := [.agg (c2 (⟨Fp.n (num bs0), Fp.n (num bs1)⟩ : F2))]) (by kernel_rfl) (by rfl) (fun w h => q_inv _ w (hG.keep h.below))) ?_
  refine flow_take_g (i := 18) (dj := 68) (.agg (c2 ((⟨Fp.n (num bs0), Fp.n (num bs1)⟩ : F2) * (F2.inv (⟨Fp.n (num bs0), Fp.n (num bs1)⟩ : F2))))) (by rfl) (by kernel_rfl) (by kernel_rfl) (by kernel_rfl) (by rfl) (by kernel_rfl) (List.Sublist.refl _) (by rfl) (by rfl) (by rfl) (gives_call (vl := [.agg (c2 (⟨Fp.n (num bs0), Fp.n (num bs1)⟩ : F2)), .agg (c2 (F2.inv (⟨Fp.n (num bs0), Fp.n (num bs1)⟩ : F2)))]) (by kernel_rfl) (by rfl) (fun w h => q_mul _ _ w (hG.keep h.below))) ?_
  refine flow_take_g (i := 19) (dj := 68) (.agg (c2 (k0))) (by rfl) (by kernel_rfl) (by kernel_rfl) (by kernel_rfl) (by rfl) (by kernel_rfl) (List.Sublist.refl _) (by rfl) (by rfl) (by rfl) (gives_call (vl := [.int .u64 1, .int .u64 0]) (by kernel_rfl) (by rfl) (fun w h => by rw [hk0]; exact q_small _ _ w (hG.keep h.below) (by omega) (by simp only [Wd]; omega) (by omega) (by simp only [Wd]; omega))) ?_
  refine flow_take_g (i := 20) (dj := 68) (.bool true) (by rfl) (by kernel_rfl) (by kernel_rfl) (by kernel_rfl) (by rfl) (by kernel_rfl) (List.Sublist.refl _) (by rfl) (by rfl) (by rfl) (gives_eql (c2 ((⟨Fp.n (num bs0), Fp.n (num bs1)⟩ : F2) * (F2.inv (⟨Fp.n (num bs0), Fp.n (num bs1)⟩ : F2)))) (c2 (k0)) true (by rfl) (by rfl) (by kernel_rfl) (fun w => eq_2_t (d := 9996) w ((F2.mul_inv hz).trans (by rw [hk0]; exact F2.sm_one.symm)))) ?_
  refine flow_take (i := 21) (.bool true) (by rfl) (by kernel_rfl) (by kernel_rfl) (by kernel_rfl) (by rfl) (by kernel_rfl) (List.Sublist.refl _) (gives_value _ fun _ => by rfl) ?_
  refine flow_take (i := 22) (.bool true) (by rfl) (by kernel_rfl) (by kernel_rfl) (by kernel_rfl) (by rfl) (by kernel_rfl) (List.Sublist.refl _) (gives_value _ fun _ => by rfl) ?_
  refine flow_done (by kernel_rfl) ?_
  intro w8 hw8
  refine wp_ret ?_
  change bodyPost _ _ _ Exit.ret _ _
  refine (ret_tmp (by rfl) (by rfl) (by rfl) ⟨?_, hw8.below⟩)
  exact rfl
set_option maxRecDepth 100000 in
set_option maxHeartbeats 4000000 in
theorem q_sq_nn (A0 : Option Addr) (L0 C0 : Nat) (bs0 : List Int) (A1 : Option Addr) (L1 C1 : Nat) (bs1 : List Int) (y : F2) (v : World) (hG : Glo v) (hH : GShp v) (hQ : GQp v) (hU : GUp v) (hr0 : Reads v v.heap.size A0 L0 (bs0.map (Value.int .u8))) (ho0 : Oct bs0) (hr1 : Reads v v.heap.size A1 L1 (bs1.map (Value.int .u8))) (ho1 : Oct bs1) (hs0 : L0 ≤ 64) (hs1 : L1 ≤ 64) (hy : y = ((⟨Fp.n (num bs0), Fp.n (num bs1)⟩ : F2) * (⟨Fp.n (num bs0), Fp.n (num bs1)⟩ : F2)).rt) (hz : (⟨Fp.n (num bs0), Fp.n (num bs1)⟩ : F2) ≠ 0) (hc : y ≠ (⟨Fp.n (num bs0), Fp.n (num bs1)⟩ : F2)) (hm : y = -(⟨Fp.n (num bs0), Fp.n (num bs1)⟩ : F2)) : Rets 6 #[.slice A0 L0 C0, .slice A1 L1 C1] v (.bool true) := by
  have hn0 : bs0.length = L0 := by simpa using hr0.1
  have hn1 : bs1.length = L1 := by simpa using hr1.1
  obtain ⟨k0, hk0⟩ : ∃ k : F2, k = F2.sm 1 0 := ⟨_, rfl⟩
  refine calls_fr2 Tryd.func6 rfl (by rfl : _ = 76) (by rfl) ?_
  have hw := Hbl.nil v
  refine seq_plain hw [0] (by rfl) ?_
  refine L_val (.bool false) (by rfl) (by rfl) (gives_value _ fun _ => by rfl) ?_
  refine L_end ?_
  intro w1 hw1
  refine wp_seq ?_
  refine seq_plain hw1 [0, 1] (by rfl) ?_
  refine L_val (.bool true) (by rfl) (by rfl) (gives_call (vl := []) (by kernel_rfl) (by rfl) (fun w h => q_head w (hG.keep h.below))) ?_
  refine L_val (.bool false) (by rfl) (by rfl) (gives_value _ fun _ => by rfl) ?_
  refine L_end ?_
  intro w2 hw2
  refine wp_cond_false (fr_at _ _ (by rfl) _) ?_
  refine wp_skip ?_
  change Code.wp _ _ _ _ _
  refine wp_seq ?_
  refine seq_plain hw2 [0, 1, 2] (by rfl) ?_
  refine L_val (.slice A0 L0 C0) (by rfl) (by rfl) (gives_value _ fun _ => by rfl) ?_
  refine L_val (.slice A1 L1 C1) (by rfl) (by rfl) (gives_value _ fun _ => by rfl) ?_
  refine L_val (.bool false) (by rfl) (by rfl) (gives_call (vl := [.slice A0 L0 C0, .slice A1 L1 C1, .slice none 0 0, .slice none 0 0]) (by kernel_rfl) (by rfl) (fun w h => long_no _ _ _ _ _ _ _ _ _ _ _ _ w (by omega) (by omega) (by omega) (by omega))) ?_
  refine L_end ?_
  intro w3 hw3
  refine wp_cond_false (fr_at _ _ (by rfl) _) ?_
  refine wp_skip ?_
  change Code.wp _ _ _ _ _
  refine seq_plain hw3 [0, 1, 2, 3, 4, 5, 6, 7, 8] (by rfl) ?_
  refine L_val (.slice A0 L0 C0) (by rfl) (by rfl) (gives_value _ fun _ => by rfl) ?_
  refine L_fresh 5 (ag8 bs0) (fun g => .slice (some ⟨g, 0, none⟩) L0 L0) (by rfl) (by rfl) (by kernel_rfl) (by rfl) (fun w h => copy_any w A0 L0 C0 bs0 ((hr0.below h.below).more h.below.size) (by omega)) ?_; intro g1
  refine L_val (.agg (pc (Fp.n (num bs0)))) (by rfl) (by rfl) (gives_call (vl := [.slice (some ⟨g1, 0, none⟩) L0 L0]) (by kernel_rfl) (by rfl) (fun w h => v_wide _ _ _ bs0 w (hG.keep h.below) (hH.keep h.below) (copy_reads (h.blk 0 (by rfl)) hn0) ho0 (Nat.le_refl _) (by omega))) ?_
  refine L_val (.slice A1 L1 C1) (by rfl) (by rfl) (gives_value _ fun _ => by rfl) ?_
  refine L_fresh 5 (ag8 bs1) (fun g => .slice (some ⟨g, 0, none⟩) L1 L1) (by rfl) (by rfl) (by kernel_rfl) (by rfl) (fun w h => copy_any w A1 L1 C1 bs1 ((hr1.below h.below).more h.below.size) (by omega)) ?_; intro g2
  refine L_val (.agg (pc (Fp.n (num bs1)))) (by rfl) (by rfl) (gives_call (vl := [.slice (some ⟨g2, 0, none⟩) L1 L1]) (by kernel_rfl) (by rfl) (fun w h => v_wide _ _ _ bs1 w (hG.keep h.below) (hH.keep h.below) (copy_reads (h.blk 0 (by rfl)) hn1) ho1 (Nat.le_refl _) (by omega))) ?_
  refine L_val (.agg (c2 (⟨Fp.n (num bs0), Fp.n (num bs1)⟩ : F2))) (by rfl) (by rfl) (gb_fp2 [(0, (pc (Fp.n (num bs0)))), (1, (pc (Fp.n (num bs1))))] ⟨congrArg some (pc_size _).symm, congrArg some (pc_size _).symm, trivial⟩ (by rfl) (c2 (⟨Fp.n (num bs0), Fp.n (num bs1)⟩ : F2)) (by rfl)) ?_
  refine L_alloc _ (by rfl) (by rfl) z_2 (c2 (0 : F2)) rfl ?_; intro g3
  refine L_store (t := 30) 0 g3 (c2 (0 : F2)) (c2 (⟨Fp.n (num bs0), Fp.n (num bs1)⟩ : F2)) (by rfl) (by rfl) (by rfl) (by rfl) (by rfl) (hi_2 _) ((c2_size _).trans (c2_size _).symm) (c2_one _) ?_
  simp only [List.set_cons_zero, List.set_cons_succ]
  refine L_end ?_
  intro w4 hw4
  refine seq_plain hw4 [0, 1, 2, 3, 4, 5, 6, 7, 8] (by rfl) ?_
  refine L_val (.agg (c2 (⟨Fp.n (num bs0), Fp.n (num bs1)⟩ : F2))) (by rfl) (by rfl) (gives_load g3 0 30 (c2 (⟨Fp.n (num bs0), Fp.n (num bs1)⟩ : F2)) (c2 (⟨Fp.n (num bs0), Fp.n (num bs1)⟩ : F2)) _ (by rfl) (fun _ h => h.blk 0 (by rfl)) (Sl.refl _) Tryd.underlying30 (by rfl) (hi_2 _)) ?_
  refine L_val (.agg (c2 ((⟨Fp.n (num bs0), Fp.n (num bs1)⟩ : F2) * (⟨Fp.n (num bs0), Fp.n (num bs1)⟩ : F2)))) (by rfl) (by rfl) (gives_call (vl := [.agg (c2 (⟨Fp.n (num bs0), Fp.n (num bs1)⟩ : F2))]) (by kernel_rfl) (by rfl) (fun w h => q_square _ w (hG.keep h.below))) ?_
  refine L_val (.tuple #[.agg (c2 (y)), .bool true]) (by rfl) (by rfl) (gives_call (vl := [.agg (c2 ((⟨Fp.n (num bs0), Fp.n (num bs1)⟩ : F2) * (⟨Fp.n (num bs0), Fp.n (num bs1)⟩ : F2)))]) (by kernel_rfl) (by rfl) (fun w h => by rw [hy]; exact q_sqrt_yes _ w (hG.keep h.below) (hQ.keep h.below) ⟨_, rfl⟩)) ?_
  refine L_val (.tuple #[.agg (c2 (y)), .bool true]) (by rfl) (by rfl) (gives_value _ fun _ => by rfl) ?_
  refine L_val (.agg (c2 (y))) (by rfl) (by rfl) (gives_value _ fun _ => by kernel_rfl) ?_
  refine L_val (.bool true) (by rfl) (by rfl) (gives_value _ fun _ => by kernel_rfl) ?_
  refine L_alloc _ (by rfl) (by rfl) z_2 (c2 (0 : F2)) rfl ?_; intro g4
  refine L_store (t := 30) 0 g4 (c2 (0 : F2)) (c2 (y)) (by rfl) (by rfl) (by rfl) (by rfl) (by rfl) (hi_2 _) ((c2_size _).trans (c2_size _).symm) (c2_one _) ?_
  simp only [List.set_cons_zero, List.set_cons_succ]
  refine L_val (.bool true) (by rfl) (by rfl) (gives_value _ fun _ => by rfl) ?_
  refine L_end ?_
  intro w5 hw5
  refine wp_seq ?_
  refine seq_flow (by kernel_rfl) hw5 [] [(g4, 30, (c2 (y))), (g3, 30, (c2 (⟨Fp.n (num bs0), Fp.n (num bs1)⟩ : F2))), (g2, 5, (ag8 bs1)), (g1, 5, (ag8 bs0))] 13 (by rfl) ?_
  refine flow_take (i := 0) (.bool true) (by rfl) (by kernel_rfl) (by kernel_rfl) (by kernel_rfl) (by rfl) (by kernel_rfl) (List.Sublist.refl _) (gives_value _ fun _ => by rfl) ?_
  refine flow_take (i := 1) (.bool false) (by rfl) (by kernel_rfl) (by kernel_rfl) (by kernel_rfl) (by rfl) (by kernel_rfl) (List.Sublist.refl _) (gives_value _ fun _ => by rfl) ?_
  refine flow_take (i := 2) (.bool false) (by rfl) (by kernel_rfl) (by kernel_rfl) (by kernel_rfl) (by rfl) (by kernel_rfl) (List.Sublist.refl _) (gives_value _ fun _ => by rfl) ?_
  refine flow_take_g (i := 3) (dj := 28) (.agg (c2 (y))) (by rfl) (by kernel_rfl) (by kernel_rfl) (by kernel_rfl) (by rfl) (by kernel_rfl) (List.Sublist.refl _) (by rfl) (by rfl) (by rfl) (gives_load g4 0 30 (c2 (y)) (c2 (y)) _ (by rfl) (fun _ h => h.blk 0 (by rfl)) (Sl.refl _) Tryd.underlying30 (by rfl) (hi_2 _)) ?_
  refine flow_take_g (i := 4) (dj := 28) (.agg (c2 (⟨Fp.n (num bs0), Fp.n (num bs1)⟩ : F2))) (by rfl) (by kernel_rfl) (by kernel_rfl) (by kernel_rfl) (by rfl) (by kernel_rfl) (List.Sublist.refl _) (by rfl) (by rfl) (by rfl) (gives_load g3 0 30 (c2 (⟨Fp.n (num bs0), Fp.n (num bs1)⟩ : F2)) (c2 (⟨Fp.n (num bs0), Fp.n (num bs1)⟩ : F2)) _ (by rfl) (fun _ h => h.blk 1 (by rfl)) (Sl.refl _) Tryd.underlying30 (by rfl) (hi_2 _)) ?_
  refine flow_take_g (i := 5) (dj := 28) (.bool true) (by rfl) (by kernel_rfl) (by kernel_rfl) (by kernel_rfl) (by rfl) (by kernel_rfl) (List.Sublist.refl _) (by rfl) (by rfl) (by rfl) (gives_neq (c2 (y)) (c2 (⟨Fp.n (num bs0), Fp.n (num bs1)⟩ : F2)) false (by rfl) (by rfl) (by kernel_rfl) (fun w => eq_2_f (d := 9996) w hc)) ?_
  refine flow_take_g (i := 6) (dj := 28) (.bool true) (by rfl) (by kernel_rfl) (by kernel_rfl) (by kernel_rfl) (by rfl) (by kernel_rfl) (List.Sublist.refl _) (by rfl) (by rfl) (by rfl) (gives_value _ fun _ => by rfl) ?_
  refine flow_take_g (i := 7) (dj := 32) (.agg (c2 (y))) (by rfl) (by kernel_rfl) (by kernel_rfl) (by kernel_rfl) (by rfl) (by kernel_rfl) (List.Sublist.refl _) (by rfl) (by rfl) (by rfl) (gives_load g4 0 30 (c2 (y)) (c2 (y)) _ (by rfl) (fun _ h => h.blk 0 (by rfl)) (Sl.refl _) Tryd.underlying30 (by rfl) (hi_2 _)) ?_
  refine flow_take_g (i := 8) (dj := 32) (.agg (c2 (⟨Fp.n (num bs0), Fp.n (num bs1)⟩ : F2))) (by rfl) (by kernel_rfl) (by kernel_rfl) (by kernel_rfl) (by rfl) (by kernel_rfl) (List.Sublist.refl _) (by rfl) (by rfl) (by rfl) (gives_load g3 0 30 (c2 (⟨Fp.n (num bs0), Fp.n (num bs1)⟩ : F2)) (c2 (⟨Fp.n (num bs0), Fp.n (num bs1)⟩ : F2)) _ (by rfl) (fun _ h => h.blk 1 (by rfl)) (Sl.refl _) Tryd.underlying30 (by rfl) (hi_2 _)) ?_
  refine flow_take_g (i := 9) (dj := 32) (.agg (c2 (-(⟨Fp.n (num bs0), Fp.n (num bs1)⟩ : F2)))) (by rfl) (by kernel_rfl) (by kernel_rfl) (by kernel_rfl) (by rfl) (by kernel_rfl) (List.Sublist.refl _) (by rfl) (by rfl) (by rfl) (gives_call (vl := [.agg (c2 (⟨Fp.n (num bs0), Fp.n (num bs1)⟩ : F2))]) (by kernel_rfl) (by rfl) (fun w h => q_neg _ w (hG.keep h.below))) ?_
  refine flow_take_g (i := 10) (dj := 32) (.bool false) (by rfl) (by kernel_rfl) (by kernel_rfl) (by kernel_rfl) (by rfl) (by kernel_rfl) (List.Sublist.refl _) (by rfl) (by rfl) (by rfl) (gives_neq (c2 (y)) (c2 (-(⟨Fp.n (num bs0), Fp.n (num bs1)⟩ : F2))) true (by rfl) (by rfl) (by kernel_rfl) (fun w => eq_2_t (d := 9996) w hm)) ?_
  refine flow_take_g (i := 11) (dj := 28) (.bool false) (by rfl) (by kernel_rfl) (by kernel_rfl) (by kernel_rfl) (by rfl) (by kernel_rfl) (List.Sublist.refl _) (by rfl) (by rfl) (by rfl) (gives_value _ fun _ => by rfl) ?_
  refine flow_take (i := 12) (.bool false) (by rfl) (by kernel_rfl) (by kernel_rfl) (by kernel_rfl) (by rfl) (by kernel_rfl) (List.Sublist.refl _) (gives_value _ fun _ => by rfl) ?_
  refine flow_done (by kernel_rfl) ?_
  intro w6 hw6
  refine wp_cond_false (fr_at _ _ (by rfl) _) ?_
  refine wp_skip ?_
  change Code.wp _ _ _ _ _
  refine wp_seq ?_
  refine seq_plain hw6 [0, 1] (by rfl) ?_
  refine L_val (.agg (c2 (⟨Fp.n (num bs0), Fp.n (num bs1)⟩ : F2))) (by rfl) (by rfl) (gives_load g3 0 30 (c2 (⟨Fp.n (num bs0), Fp.n (num bs1)⟩ : F2)) (c2 (⟨Fp.n (num bs0), Fp.n (num bs1)⟩ : F2)) _ (by rfl) (fun _ h => h.blk 1 (by rfl)) (Sl.refl _) Tryd.underlying30 (by rfl) (hi_2 _)) ?_
  refine L_val (.bool false) (by rfl) (by rfl) (gives_call (vl := [.agg (c2 (⟨Fp.n (num bs0), Fp.n (num bs1)⟩ : F2))]) (by kernel_rfl) (by rfl) (fun w h => q_zero_f w (hG.keep h.below) hz)) ?_
  refine L_end ?_
  intro w7 hw7
  refine wp_cond_false (fr_at _ _ (by rfl) _) ?_
  refine wp_skip ?_
  change Code.wp _ _ _ _ _
  refine seq_flow (by kernel_rfl) hw7 [] [(g4, 30, (c2 (y))), (g3, 30, (c2 (⟨Fp.n (num bs0), Fp.n (num bs1)⟩ : F2))), (g2, 5, (ag8 bs1)), (g1, 5, (ag8 bs0))] 23 (by rfl) ?_
  refine flow_take (i := 0) (.agg (c2 (⟨Fp.n (num bs0), Fp.n (num bs1)⟩ : F2))) (by rfl) (by kernel_rfl) (by kernel_rfl) (by kernel_rfl) (by rfl) (by kernel_rfl) (List.Sublist.refl _) (gives_load g3 0 30 (c2 (⟨Fp.n (num bs0), Fp.n (num bs1)⟩ : F2)) (c2 (⟨Fp.n (num bs0), Fp.n (num bs1)⟩ : F2)) _ (by rfl) (fun _ h => h.blk 1 (by rfl)) (Sl.refl _) Tryd.underlying30 (by rfl) (hi_2 _)) ?_
  refine flow_take (i := 1) (.bool (F2.odd (⟨Fp.n (num bs0), Fp.n (num bs1)⟩ : F2))) (by rfl) (by kernel_rfl) (by kernel_rfl) (by kernel_rfl) (by rfl) (by kernel_rfl) (List.Sublist.refl _) (gives_call (vl := [.agg (c2 (⟨Fp.n (num bs0), Fp.n (num bs1)⟩ : F2))]) (by kernel_rfl) (by rfl) (fun w h => q_odd _ w (hG.keep h.below))) ?_
  refine flow_take (i := 2) (.agg (c2 (⟨Fp.n (num bs0), Fp.n (num bs1)⟩ : F2))) (by rfl) (by kernel_rfl) (by kernel_rfl) (by kernel_rfl) (by rfl) (by kernel_rfl) (List.Sublist.refl _) (gives_load g3 0 30 (c2 (⟨Fp.n (num bs0), Fp.n (num bs1)⟩ : F2)) (c2 (⟨Fp.n (num bs0), Fp.n (num bs1)⟩ : F2)) _ (by rfl) (fun _ h => h.blk 1 (by rfl)) (Sl.refl _) Tryd.underlying30 (by rfl) (hi_2 _)) ?_
  refine flow_take (i := 3) (.agg (c2 (-(⟨Fp.n (num bs0), Fp.n (num bs1)⟩ : F2)))) (by rfl) (by kernel_rfl) (by kernel_rfl) (by kernel_rfl) (by rfl) (by kernel_rfl) (List.Sublist.refl _) (gives_call (vl := [.agg (c2 (⟨Fp.n (num bs0), Fp.n (num bs1)⟩ : F2))]) (by kernel_rfl) (by rfl) (fun w h => q_neg _ w (hG.keep h.below))) ?_
  refine flow_take (i := 4) (.bool (F2.odd (-(⟨Fp.n (num bs0), Fp.n (num bs1)⟩ : F2)))) (by rfl) (by kernel_rfl) (by kernel_rfl) (by kernel_rfl) (by rfl) (by kernel_rfl) (List.Sublist.refl _) (gives_call (vl := [.agg (c2 (-(⟨Fp.n (num bs0), Fp.n (num bs1)⟩ : F2)))]) (by kernel_rfl) (by rfl) (fun w h => q_odd _ w (hG.keep h.below))) ?_
  refine flow_take (i := 5) (.bool true) (by rfl) (by kernel_rfl) (by kernel_rfl) (by kernel_rfl) (by rfl) (by kernel_rfl) (List.Sublist.refl _) (gives_neqb _ _ (by rfl) (by rfl) (by rfl) true (F2.odd_neg hz)) ?_
  refine flow_take (i := 6) (.bool true) (by rfl) (by kernel_rfl) (by kernel_rfl) (by kernel_rfl) (by rfl) (by kernel_rfl) (List.Sublist.refl _) (gives_value _ fun _ => by rfl) ?_
  refine flow_take_g (i := 7) (dj := 60) (.agg (c2 (⟨Fp.n (num bs0), Fp.n (num bs1)⟩ : F2))) (by rfl) (by kernel_rfl) (by kernel_rfl) (by kernel_rfl) (by rfl) (by kernel_rfl) (List.Sublist.refl _) (by rfl) (by rfl) (by rfl) (gives_load g3 0 30 (c2 (⟨Fp.n (num bs0), Fp.n (num bs1)⟩ : F2)) (c2 (⟨Fp.n (num bs0), Fp.n (num bs1)⟩ : F2)) _ (by rfl) (fun _ h => h.blk 1 (by rfl)) (Sl.refl _) Tryd.underlying30 (by rfl) (hi_2 _)) ?_
  refine flow_take_g (i := 8) (dj := 60) (.bool (F2.large (⟨Fp.n (num bs0), Fp.n (num bs1)⟩ : F2))) (by rfl) (by kernel_rfl) (by kernel_rfl) (by kernel_rfl) (by rfl) (by kernel_rfl) (List.Sublist.refl _) (by rfl) (by rfl) (by rfl) (gives_call (vl := [.agg (c2 (⟨Fp.n (num bs0), Fp.n (num bs1)⟩ : F2))]) (by kernel_rfl) (by rfl) (fun w h => q_large _ w (hG.keep h.below) (hU.keep h.below))) ?_
  refine flow_take_g (i := 9) (dj := 60) (.agg (c2 (⟨Fp.n (num bs0), Fp.n (num bs1)⟩ : F2))) (by rfl) (by kernel_rfl) (by kernel_rfl) (by kernel_rfl) (by rfl) (by kernel_rfl) (List.Sublist.refl _) (by rfl) (by rfl) (by rfl) (gives_load g3 0 30 (c2 (⟨Fp.n (num bs0), Fp.n (num bs1)⟩ : F2)) (c2 (⟨Fp.n (num bs0), Fp.n (num bs1)⟩ : F2)) _ (by rfl) (fun _ h => h.blk 1 (by rfl)) (Sl.refl _) Tryd.underlying30 (by rfl) (hi_2 _)) ?_
  refine flow_take_g (i := 10) (dj := 60) (.agg (c2 (-(⟨Fp.n (num bs0), Fp.n (num bs1)⟩ : F2)))) (by rfl) (by kernel_rfl) (by kernel_rfl) (by kernel_rfl) (by rfl) (by kernel_rfl) (List.Sublist.refl _) (by rfl) (by rfl) (by rfl) (gives_call (vl := [.agg (c2 (⟨Fp.n (num bs0), Fp.n (num bs1)⟩ : F2))]) (by kernel_rfl) (by rfl) (fun w h => q_neg _ w (hG.keep h.below))) ?_
  refine flow_take_g (i := 11) (dj := 60) (.bool (F2.large (-(⟨Fp.n (num bs0), Fp.n (num bs1)⟩ : F2)))) (by rfl) (by kernel_rfl) (by kernel_rfl) (by kernel_rfl) (by rfl) (by kernel_rfl) (List.Sublist.refl _) (by rfl) (by rfl) (by rfl) (gives_call (vl := [.agg (c2 (-(⟨Fp.n (num bs0), Fp.n (num bs1)⟩ : F2)))]) (by kernel_rfl) (by rfl) (fun w h => q_large _ w (hG.keep h.below) (hU.keep h.below))) ?_
  refine flow_take_g (i := 12) (dj := 60) (.bool true) (by rfl) (by kernel_rfl) (by kernel_rfl) (by kernel_rfl) (by rfl) (by kernel_rfl) (List.Sublist.refl _) (by rfl) (by rfl) (by rfl) (gives_neqb _ _ (by rfl) (by rfl) (by rfl) true (F2.large_neg hz)) ?_
  refine flow_take (i := 13) (.bool true) (by rfl) (by kernel_rfl) (by kernel_rfl) (by kernel_rfl) (by rfl) (by kernel_rfl) (List.Sublist.refl _) (gives_value _ fun _ => by rfl) ?_
  refine flow_take (i := 14) (.bool true) (by rfl) (by kernel_rfl) (by kernel_rfl) (by kernel_rfl) (by rfl) (by kernel_rfl) (List.Sublist.refl _) (gives_value _ fun _ => by rfl) ?_
  refine flow_take_g (i := 15) (dj := 68) (.agg (c2 (⟨Fp.n (num bs0), Fp.n (num bs1)⟩ : F2))) (by rfl) (by kernel_rfl) (by kernel_rfl) (by kernel_rfl) (by rfl) (by kernel_rfl) (List.Sublist.refl _) (by rfl) (by rfl) (by rfl) (gives_load g3 0 30 (c2 (⟨Fp.n (num bs0), Fp.n (num bs1)⟩ : F2)) (c2 (⟨Fp.n (num bs0), Fp.n (num bs1)⟩ : F2)) _ (by rfl) (fun _ h => h.blk 1 (by rfl)) (Sl.refl _) Tryd.underlying30 (by rfl) (hi_2 _)) ?_
  refine flow_take_g (i := 16) (dj := 68) (.agg (c2 (⟨Fp.n (num bs0), Fp.n (num bs1)⟩ : F2))) (by rfl) (by kernel_rfl) (by kernel_rfl) (by kernel_rfl) (by rfl) (by kernel_rfl) (List.Sublist.refl _) (by rfl) (by rfl) (by rfl) (gives_load g3 0 30 (c2 (⟨Fp.n (num bs0), Fp.n (num bs1)⟩ : F2)) (c2 (⟨Fp.n (num bs0), Fp.n (num bs1)⟩ : F2)) _ (by rfl) (fun _ h => h.blk 1 (by rfl)) (Sl.refl _) Tryd.underlying30 (by rfl) (hi_2 _)) ?_
  refine flow_take_g (i := 17) (dj := 68) (.agg (c2 (F2.inv (⟨Fp.n (num bs0), Fp.n (num bs1)⟩ : F2)))) (by rfl) (by kernel_rfl) (by kernel_rfl) (by kernel_rfl) (by rfl) (by kernel_rfl) (List.Sublist.refl _) (by rfl) (by rfl) (by rfl) (gives_call (vl := [.agg (c2 (⟨Fp.n (num bs0), Fp.n (num bs1)⟩ : F2))]) (by kernel_rfl) (by rfl) (fun w h => q_inv _ w (hG.keep h.below))) ?_
  refine flow_take_g (i := 18) (dj := 68) (.agg (c2 ((⟨Fp.n (num bs0), Fp.n (num bs1)⟩ : F2) * (F2.inv (⟨Fp.n (num bs0), Fp.n (num bs1)⟩ : F2))))) (by rfl) (by kernel_rfl) (by kernel_rfl) (by kernel_rfl) (by rfl) (by kernel_rfl) (List.Sublist.refl _) (by rfl) (by rfl) (by rfl) (gives_call (vl := [.agg (c2 (⟨Fp.n (num bs0), Fp.n (num bs1)⟩ : F2)), .agg (c2 (F2.inv (⟨Fp.n (num bs0), Fp.n (num bs1)⟩ : F2)))]) (by kernel_rfl) (by rfl) (fun w h => q_mul _ _ w (hG.keep h.below))) ?_
  refine flow_take_g (i := 19) (dj := 68) (.agg (c2 (k0))) (by rfl) (by kernel_rfl) (by kernel_rfl) (by kernel_rfl) (by rfl) (by kernel_rfl) (List.Sublist.refl _) (by rfl) (by rfl) (by rfl) (gives_call (vl := [.int .u64 1, .int .u64 0]) (by kernel_rfl) (by rfl) (fun w h => by rw [hk0]; exact q_small _ _ w (hG.keep h.below) (by omega) (by simp only [Wd]; omega) (by omega) (by simp only [Wd]; omega))) ?_
  refine flow_take_g (i := 20) (dj := 68) (.bool true) (by rfl) (by kernel_rfl) (by kernel_rfl) (by kernel_rfl) (by rfl) (by kernel_rfl) (List.Sublist.refl _) (by rfl) (by rfl) (by rfl) (gives_eql (c2 ((⟨Fp.n (num bs0), Fp.n (num bs1)⟩ : F2) * (F2.inv (⟨Fp.n (num bs0), Fp.n (num bs1)⟩ : F2)))) (c2 (k0)) true (by rfl) (by rfl) (by kernel_rfl) (fun w => eq_2_t (d := 9996) w ((F2.mul_inv hz).trans (by rw [hk0]; exact F2.sm_one.symm)))) ?_
  refine flow_take (i := 21) (.bool true) (by rfl) (by kernel_rfl) (by kernel_rfl) (by kernel_rfl) (by rfl) (by kernel_rfl) (List.Sublist.refl _) (gives_value _ fun _ => by rfl) ?_
  refine flow_take (i := 22) (.bool true) (by rfl) (by kernel_rfl) (by kernel_rfl) (by kernel_rfl) (by rfl) (by kernel_rfl) (List.Sublist.refl _) (gives_value _ fun _ => by rfl) ?_
  refine flow_done (by kernel_rfl) ?_
  intro w8 hw8
  refine wp_ret ?_
  change bodyPost _ _ _ Exit.ret _ _
  refine (ret_tmp (by rfl) (by rfl) (by rfl) ⟨?_, hw8.below⟩)
  exact rfl
theorem q_sq_any (A0 : Option Addr) (L0 C0 : Nat) (bs0 : List Int) (A1 : Option Addr) (L1 C1 : Nat) (bs1 : List Int) (v : World) (hG : Glo v) (hH : GShp v) (hQ : GQp v) (hU : GUp v) (hr0 : Reads v v.heap.size A0 L0 (bs0.map (Value.int .u8))) (ho0 : Oct bs0) (hr1 : Reads v v.heap.size A1 L1 (bs1.map (Value.int .u8))) (ho1 : Oct bs1) : Rets 6 #[.slice A0 L0 C0, .slice A1 L1 C1] v (.bool true) := by
  by_cases hlong : 64 < L0 ∨ 64 < L1
  · exact q_sq_long A0 L0 C0 bs0 A1 L1 C1 bs1 v hG hH hQ hU hr0 ho0 hr1 ho1 hlong
  · have hm : ((⟨Fp.n (num bs0), Fp.n (num bs1)⟩ : F2) * (⟨Fp.n (num bs0), Fp.n (num bs1)⟩ : F2)).rt = (⟨Fp.n (num bs0), Fp.n (num bs1)⟩ : F2) ∨ ((⟨Fp.n (num bs0), Fp.n (num bs1)⟩ : F2) * (⟨Fp.n (num bs0), Fp.n (num bs1)⟩ : F2)).rt = -(⟨Fp.n (num bs0), Fp.n (num bs1)⟩ : F2) := F2.rt_square _
    by_cases hz : (⟨Fp.n (num bs0), Fp.n (num bs1)⟩ : F2) = 0
    · by_cases hc : ((⟨Fp.n (num bs0), Fp.n (num bs1)⟩ : F2) * (⟨Fp.n (num bs0), Fp.n (num bs1)⟩ : F2)).rt = (⟨Fp.n (num bs0), Fp.n (num bs1)⟩ : F2)
      · exact q_sq_zs A0 L0 C0 bs0 A1 L1 C1 bs1 _ v hG hH hQ hU hr0 ho0 hr1 ho1 (by omega) (by omega) rfl hz hc
      · exact q_sq_zn A0 L0 C0 bs0 A1 L1 C1 bs1 _ v hG hH hQ hU hr0 ho0 hr1 ho1 (by omega) (by omega) rfl hz hc (hm.resolve_left hc)
    · by_cases hc : ((⟨Fp.n (num bs0), Fp.n (num bs1)⟩ : F2) * (⟨Fp.n (num bs0), Fp.n (num bs1)⟩ : F2)).rt = (⟨Fp.n (num bs0), Fp.n (num bs1)⟩ : F2)
      · exact q_sq_ns A0 L0 C0 bs0 A1 L1 C1 bs1 _ v hG hH hQ hU hr0 ho0 hr1 ho1 (by omega) (by omega) rfl hz hc
      · exact q_sq_nn A0 L0 C0 bs0 A1 L1 C1 bs1 _ v hG hH hQ hU hr0 ho0 hr1 ho1 (by omega) (by omega) rfl hz hc (hm.resolve_left hc)
end Go.Proofs.YthfdohhglnhonaaDoor
