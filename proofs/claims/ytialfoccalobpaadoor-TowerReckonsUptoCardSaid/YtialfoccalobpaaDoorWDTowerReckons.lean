/-
  TowerReckons: the walk.
-/
import Derived.Test.YtialfoccalobpaaDoorWDTmM
import Derived.Test.YtialfoccalobpaaDoorWDTmN
namespace Go.Proofs.YtialfoccalobpaaDoor
set_option linter.unusedSimpArgs false
set_option linter.unusedVariables false
open Go.RowKit
theorem SixAt.eq {w : World} {co : Nat → Array Value} {f f' : Nat → F2} (h : SixAt w co f) (e : ∀ k, k < 6 → f k = f' k) : SixAt w co f' := fun i hi => e i hi ▸ h i hi
theorem mirror_in {M : List (Nat × TypeId × Array Value)} {co : Nat → Array Value} {x : T12} {a b c : Array Value} (h : SixIn M co (comp x)) (ha : PIn M a ((0 : F2) - comp x 1)) (hb : PIn M b ((0 : F2) - comp x 3)) (hc : PIn M c ((0 : F2) - comp x 5)) : SixIn M (upd (upd (upd co 1 a) 3 b) 5 c) (comp (T12.conj x)) := fun i hi => by
  rcases i with _ | _ | _ | _ | _ | _ | i
  · exact h 0 (by omega)
  · rw [F2.zero_sub] at ha; exact ha
  · exact h 2 (by omega)
  · rw [F2.zero_sub] at hb; exact hb
  · exact h 4 (by omega)
  · rw [F2.zero_sub] at hc; exact hc
  · omega
attribute [local irreducible] wpL wpF fr Code.wp bodyPost
set_option maxRecDepth 100000 in
set_option maxHeartbeats 4000000 in
theorem t_reckons_long (A0 : Option Addr) (L0 C0 : Nat) (bs0 : List Int) (A1 : Option Addr) (L1 C1 : Nat) (bs1 : List Int) (v : World) (hG : Glo v) (hr0 : Reads v v.heap.size A0 L0 (bs0.map (Value.int .u8))) (ho0 : Oct bs0) (hr1 : Reads v v.heap.size A1 L1 (bs1.map (Value.int .u8))) (ho1 : Oct bs1) (hlong : 2000 < L0 ∨ 2000 < L1) : Rets 7 #[.slice A0 L0 C0, .slice A1 L1 C1] v (.bool true) := by
  refine calls_fr2 Tryd.func7 rfl (by rfl : _ = 92) (by rfl) ?_
  have hw := Hbl.nil v
  refine seq_plain hw [0] (by rfl) ?_
  refine L_val (.bool false) (by rfl) (by rfl) (gives_value _ fun _ => by rfl) ?_
  refine L_end ?_
  intro w1 hw1
  refine wp_seq ?_
  refine seq_plain hw1 [0, 1] (by rfl) ?_
  refine L_val (.bool true) (by rfl) (by rfl) (gives_call (vl := []) (by kernel_rfl) (by rfl) (fun w h => t_head w (hG.keep h.below))) ?_
  refine L_val (.bool false) (by rfl) (by rfl) (gives_value _ fun _ => by rfl) ?_
  refine L_end ?_
  intro w2 hw2
  refine wp_cond_false (fr_at _ _ (by rfl) _) ?_
  refine wp_skip ?_
  change Code.wp _ _ _ _ _
  refine wp_seq ?_
  refine seq_plain hw2 [0, 1, 2] (by rfl) ?_
  refine L_val (.slice A0 L0 C0) (by rfl) (by rfl) (gives_value _ fun _ => by rfl) ?_
  refine L_val (.slice A1 L1 C1) (by rfl) (by rfl) (gives_value _ fun _ => by rfl) ?_
  refine L_val (.bool true) (by rfl) (by rfl) (gives_call (vl := [.slice A0 L0 C0, .slice A1 L1 C1]) (by kernel_rfl) (by rfl) (fun w h => tlong_yes _ _ _ _ _ _ w (by omega))) ?_
  refine L_end ?_
  intro w3 hw3
  refine wp_cond_true (fr_at _ _ (by rfl) _) ?_
  refine seq_plain hw3 [0] (by rfl) ?_
  refine L_val (.bool true) (by rfl) (by rfl) (gives_value _ fun _ => by rfl) ?_
  refine L_end ?_
  intro w4 hw4
  refine wp_ret ?_
  change bodyPost _ _ _ Exit.ret _ _
  refine (ret_tmp (by rfl) (by rfl) (by rfl) ⟨rfl, hw4.below⟩)
set_option maxRecDepth 100000 in
set_option maxHeartbeats 4000000 in
theorem t_reckons_short (A0 : Option Addr) (L0 C0 : Nat) (bs0 : List Int) (A1 : Option Addr) (L1 C1 : Nat) (bs1 : List Int) (v : World) (hG : Glo v) (hr0 : Reads v v.heap.size A0 L0 (bs0.map (Value.int .u8))) (ho0 : Oct bs0) (hr1 : Reads v v.heap.size A1 L1 (bs1.map (Value.int .u8))) (ho1 : Oct bs1) (hs0 : L0 ≤ 2000) (hs1 : L1 ≤ 2000) : Rets 7 #[.slice A0 L0 C0, .slice A1 L1 C1] v (.bool true) := by
  refine calls_fr2 Tryd.func7 rfl (by rfl : _ = 92) (by rfl) ?_
  have hw := Hbl.nil v
  refine seq_plain hw [0] (by rfl) ?_
  refine L_val (.bool false) (by rfl) (by rfl) (gives_value _ fun _ => by rfl) ?_
  refine L_end ?_
  intro w1 hw1
  refine wp_seq ?_
  refine seq_plain hw1 [0, 1] (by rfl) ?_
  refine L_val (.bool true) (by rfl) (by rfl) (gives_call (vl := []) (by kernel_rfl) (by rfl) (fun w h => t_head w (hG.keep h.below))) ?_
  refine L_val (.bool false) (by rfl) (by rfl) (gives_value _ fun _ => by rfl) ?_
  refine L_end ?_
  intro w2 hw2
  refine wp_cond_false (fr_at _ _ (by rfl) _) ?_
  refine wp_skip ?_
  change Code.wp _ _ _ _ _
  refine wp_seq ?_
  refine seq_plain hw2 [0, 1, 2] (by rfl) ?_
  refine L_val (.slice A0 L0 C0) (by rfl) (by rfl) (gives_value _ fun _ => by rfl) ?_
  refine L_val (.slice A1 L1 C1) (by rfl) (by rfl) (gives_value _ fun _ => by rfl) ?_
  refine L_val (.bool false) (by rfl) (by rfl) (gives_call (vl := [.slice A0 L0 C0, .slice A1 L1 C1]) (by kernel_rfl) (by rfl) (fun w h => tlong_no _ _ _ _ _ _ w (by omega) (by omega))) ?_
  refine L_end ?_
  intro w3 hw3
  refine wp_cond_false (fr_at _ _ (by rfl) _) ?_
  refine wp_skip ?_
  change Code.wp _ _ _ _ _
  refine seq_plain hw3 [0, 1, 2, 3, 4, 5, 6, 7, 8] (by rfl) ?_
  refine L_val (.slice A0 L0 C0) (by rfl) (by rfl) (gives_value _ fun _ => by rfl) ?_
  refine L_freshM (vl := [.slice A0 L0 C0]) QN (fun T => T) [] [] (fun _ => rfl) QN.mono (by rfl) (by rfl) Want.none (by kernel_rfl) (by rfl)  (fun w h => number6_any A0 L0 C0 bs0 w (hG.keep h.below) ((hr0.below h.below).more h.below.size) ho0 (by omega)) ?_
  rintro _ T_1 hs_1 ⟨co_1, x_1, rfl, hn_1⟩
  refine L_val (.tuple #[.agg (six co_1), .agg (c12 (x_1))]) (by rfl) (by rfl) (gives_value _ fun _ => by rfl) ?_
  refine L_val (.agg (six co_1)) (by rfl) (by rfl) (gives_value _ fun _ => by kernel_rfl) ?_
  refine L_val (.agg (c12 (x_1))) (by rfl) (by rfl) (gives_value _ fun _ => by kernel_rfl) ?_
  refine L_alloc _ (by rfl) (by rfl) z_aN (six nco) rfl ?_; intro g1
  refine L_alloc _ (by rfl) (by rfl) z_12 (c12 (0 : T12)) rfl ?_; intro g2
  refine L_store (t := 79) 1 g1 (six nco) (six co_1) (by rfl) (by rfl) (by rfl) (by rfl) (by rfl) (hi_six hn_1.siz) (sz_six nco_siz hn_1.siz) (six_one hn_1.siz) ?_
  simp only [List.set_cons_zero, List.set_cons_succ]
  refine L_store (t := 83) 0 g2 (c12 (0 : T12)) (c12 (x_1)) (by rfl) (by rfl) (by rfl) (by rfl) (by rfl) (hi_12 _) ((c12_size _).trans (c12_size _).symm) (c12_one _) ?_
  simp only [List.set_cons_zero, List.set_cons_succ]
  refine L_end ?_
  intro w4 hw4
  refine seq_plain hw4 [0, 1, 2, 3, 4, 5, 6, 7, 8] (by rfl) ?_
  refine L_val (.slice A1 L1 C1) (by rfl) (by rfl) (gives_value _ fun _ => by rfl) ?_
  refine L_freshM (vl := [.slice A1 L1 C1]) QN (fun T => (g2, 83, (c12 (x_1))) :: (g1, 79, (six co_1)) :: T) [(g2, 83, (c12 (x_1))), (g1, 79, (six co_1))] T_1 (fun _ => rfl) QN.mono (by rfl) (by rfl) Want.none (by kernel_rfl) (by rfl)  (fun w h => number6_any A1 L1 C1 bs1 w (hG.keep h.below) ((hr1.below h.below).more h.below.size) ho1 (by omega)) ?_
  rintro _ T_2 hs_2 ⟨co_2, x_2, rfl, hn_2⟩
  refine L_val (.tuple #[.agg (six co_2), .agg (c12 (x_2))]) (by rfl) (by rfl) (gives_value _ fun _ => by rfl) ?_
  refine L_val (.agg (six co_2)) (by rfl) (by rfl) (gives_value _ fun _ => by kernel_rfl) ?_
  refine L_val (.agg (c12 (x_2))) (by rfl) (by rfl) (gives_value _ fun _ => by kernel_rfl) ?_
  refine L_alloc _ (by rfl) (by rfl) z_aN (six nco) rfl ?_; intro g3
  refine L_alloc _ (by rfl) (by rfl) z_12 (c12 (0 : T12)) rfl ?_; intro g4
  refine L_store (t := 79) 1 g3 (six nco) (six co_2) (by rfl) (by rfl) (by rfl) (by rfl) (by rfl) (hi_six hn_2.siz) (sz_six nco_siz hn_2.siz) (six_one hn_2.siz) ?_
  simp only [List.set_cons_zero, List.set_cons_succ]
  refine L_store (t := 83) 0 g4 (c12 (0 : T12)) (c12 (x_2)) (by rfl) (by rfl) (by rfl) (by rfl) (by rfl) (hi_12 _) ((c12_size _).trans (c12_size _).symm) (c12_one _) ?_
  simp only [List.set_cons_zero, List.set_cons_succ]
  refine L_end ?_
  intro w5 hw5
  refine wp_seq ?_
  refine seq_flow (by kernel_rfl) hw5 [] ((g4, 83, (c12 (x_2))) :: (g3, 79, (six co_2)) :: (g2, 83, (c12 (x_1))) :: (g1, 79, (six co_1)) :: T_2) 23 (by rfl) ?_
  refine flow_take (i := 0) (.agg (c12 (x_1))) (by rfl) (by kernel_rfl) (by kernel_rfl) (by kernel_rfl) (by rfl) (by kernel_rfl) (List.Sublist.refl _) (gives_load g2 0 83 (c12 (x_1)) (c12 (x_1)) _ (by rfl) (fun _ h => h.blk 2 (by rfl)) (Sl.refl _) Tryd.underlying83 (by rfl) (hi_12 _)) ?_
  refine flow_take (i := 1) (.agg (six co_1)) (by rfl) (by kernel_rfl) (by kernel_rfl) (by kernel_rfl) (by rfl) (by kernel_rfl) (List.Sublist.refl _) (gives_load g1 0 79 (six co_1) (six co_1) _ (by rfl) (fun _ h => h.blk 3 (by rfl)) (Sl.refl _) Tryd.underlying79 (by rfl) (hi_six hn_1.siz)) ?_
  refine flow_one 2 (by kernel_rfl) ?_
  refine F_val (vl := [.agg (c12 (x_1)), .agg (six co_1)]) (.bool true) (by rfl) (by rfl) Want.none (by kernel_rfl) (by rfl) (List.Sublist.refl _) (fun w h => is6 (x_1) _ w (hG.keep h.below) (hn_1.here h (List.Sublist.cons _ (List.Sublist.cons _ (List.Sublist.cons _ (List.Sublist.cons _ hs_2)))))) ?_
  refine flow_take (i := 3) (.bool false) (by rfl) (by kernel_rfl) (by kernel_rfl) (by kernel_rfl) (by rfl) (by kernel_rfl) (List.Sublist.refl _) (gives_value _ fun _ => by rfl) ?_
  refine flow_take (i := 4) (.bool false) (by rfl) (by kernel_rfl) (by kernel_rfl) (by kernel_rfl) (by rfl) (by kernel_rfl) (List.Sublist.refl _) (gives_value _ fun _ => by rfl) ?_
  refine flow_take_g (i := 5) (dj := 31) (.agg (c12 (x_1))) (by rfl) (by kernel_rfl) (by kernel_rfl) (by kernel_rfl) (by rfl) (by kernel_rfl) (List.Sublist.refl _) (by rfl) (by rfl) (by rfl) (gives_load g2 0 83 (c12 (x_1)) (c12 (x_1)) _ (by rfl) (fun _ h => h.blk 2 (by rfl)) (Sl.refl _) Tryd.underlying83 (by rfl) (hi_12 _)) ?_
  refine flow_take_g (i := 6) (dj := 31) (.agg (c12 (x_2))) (by rfl) (by kernel_rfl) (by kernel_rfl) (by kernel_rfl) (by rfl) (by kernel_rfl) (List.Sublist.refl _) (by rfl) (by rfl) (by rfl) (gives_load g4 0 83 (c12 (x_2)) (c12 (x_2)) _ (by rfl) (fun _ h => h.blk 0 (by rfl)) (Sl.refl _) Tryd.underlying83 (by rfl) (hi_12 _)) ?_
  refine flow_take_g (i := 8) (dj := 31) (.agg (six co_1)) (by rfl) (by kernel_rfl) (by kernel_rfl) (by kernel_rfl) (by rfl) (by kernel_rfl) (List.Sublist.refl _) (by rfl) (by rfl) (by rfl) (gives_load g1 0 79 (six co_1) (six co_1) _ (by rfl) (fun _ h => h.blk 3 (by rfl)) (Sl.refl _) Tryd.underlying79 (by rfl) (hi_six hn_1.siz)) ?_
  refine flow_take_g (i := 9) (dj := 31) (.agg (six co_2)) (by rfl) (by kernel_rfl) (by kernel_rfl) (by kernel_rfl) (by rfl) (by kernel_rfl) (List.Sublist.refl _) (by rfl) (by rfl) (by rfl) (gives_load g3 0 79 (six co_2) (six co_2) _ (by rfl) (fun _ h => h.blk 1 (by rfl)) (Sl.refl _) Tryd.underlying79 (by rfl) (hi_six hn_2.siz)) ?_
  refine flow_one 7 (by kernel_rfl) ?_
  refine F_val (vl := [.agg (c12 (x_1)), .agg (c12 (x_2))]) (.agg (c12 ((x_1) * (x_2)))) (by rfl) (by rfl) (Want.some (dj := 31) (by rfl) (by rfl) (by rfl) (by rfl)) (by kernel_rfl) (by rfl) (List.Sublist.refl _) (fun w h => t_mul _ _ w (hG.keep h.below)) ?_
  refine flow_one 10 (by kernel_rfl) ?_
  refine F_freshM (vl := [.agg (six co_1), .agg (six co_2)]) (QS (mall (comp x_1) (comp x_2) 6)) (fun T => (g4, 83, (c12 (x_2))) :: (g3, 79, (six co_2)) :: (g2, 83, (c12 (x_1))) :: (g1, 79, (six co_1)) :: T) [(g4, 83, (c12 (x_2))), (g3, 79, (six co_2)), (g2, 83, (c12 (x_1))), (g1, 79, (six co_1))] T_2 (fun _ => rfl) QS.mono (by rfl) (by rfl) (Want.some (dj := 31) (by rfl) (by rfl) (by rfl) (by rfl)) (by kernel_rfl) (by rfl) (List.Sublist.refl _) (fun w h => m6_mul _ _ (comp x_1) (comp x_2) w (hn_1.here h (List.Sublist.cons _ (List.Sublist.cons _ (List.Sublist.cons _ (List.Sublist.cons _ hs_2))))) (hn_2.here h (List.Sublist.cons _ (List.Sublist.cons _ (List.Sublist.cons _ (List.Sublist.cons _ (List.Sublist.refl _))))))) ?_
  rintro _ T_3 hs_3 ⟨co_3, rfl, hn_3⟩
  refine flow_one 11 (by kernel_rfl) ?_
  refine F_val (vl := [.agg (c12 ((x_1) * (x_2))), .agg (six co_3)]) (.bool true) (by rfl) (by rfl) (Want.some (dj := 31) (by rfl) (by rfl) (by rfl) (by rfl)) (by kernel_rfl) (by rfl) (List.Sublist.cons_cons _ (List.Sublist.cons_cons _ (List.Sublist.cons_cons _ (List.Sublist.cons_cons _ hs_3)))) (fun w h => is6 ((x_1) * (x_2)) _ w (hG.keep h.below) ((hn_3.here h (List.Sublist.cons _ (List.Sublist.cons _ (List.Sublist.cons _ (List.Sublist.cons _ (List.Sublist.refl _)))))).eq (mall_comp x_1 x_2))) ?_
  refine flow_take_g (i := 12) (dj := 31) (.bool false) (by rfl) (by kernel_rfl) (by kernel_rfl) (by kernel_rfl) (by rfl) (by kernel_rfl) (List.Sublist.cons_cons _ (List.Sublist.cons_cons _ (List.Sublist.cons_cons _ (List.Sublist.cons_cons _ hs_3)))) (by rfl) (by rfl) (by rfl) (gives_value _ fun _ => by rfl) ?_
  refine flow_take (i := 13) (.bool false) (by rfl) (by kernel_rfl) (by kernel_rfl) (by kernel_rfl) (by rfl) (by kernel_rfl) (List.Sublist.cons_cons _ (List.Sublist.cons_cons _ (List.Sublist.cons_cons _ (List.Sublist.cons_cons _ hs_3)))) (gives_value _ fun _ => by rfl) ?_
  refine flow_take (i := 14) (.bool false) (by rfl) (by kernel_rfl) (by kernel_rfl) (by kernel_rfl) (by rfl) (by kernel_rfl) (List.Sublist.cons_cons _ (List.Sublist.cons_cons _ (List.Sublist.cons_cons _ (List.Sublist.cons_cons _ hs_3)))) (gives_value _ fun _ => by rfl) ?_
  refine flow_take_g (i := 15) (dj := 41) (.agg (c12 (x_1))) (by rfl) (by kernel_rfl) (by kernel_rfl) (by kernel_rfl) (by rfl) (by kernel_rfl) (List.Sublist.cons_cons _ (List.Sublist.cons_cons _ (List.Sublist.cons_cons _ (List.Sublist.cons_cons _ hs_3)))) (by rfl) (by rfl) (by rfl) (gives_load g2 0 83 (c12 (x_1)) (c12 (x_1)) _ (by rfl) (fun _ h => h.blk 2 (by rfl)) (Sl.refl _) Tryd.underlying83 (by rfl) (hi_12 _)) ?_
  refine flow_take_g (i := 17) (dj := 41) (.agg (six co_1)) (by rfl) (by kernel_rfl) (by kernel_rfl) (by kernel_rfl) (by rfl) (by kernel_rfl) (List.Sublist.cons_cons _ (List.Sublist.cons_cons _ (List.Sublist.cons_cons _ (List.Sublist.cons_cons _ hs_3)))) (by rfl) (by rfl) (by rfl) (gives_load g1 0 79 (six co_1) (six co_1) _ (by rfl) (fun _ h => h.blk 3 (by rfl)) (Sl.refl _) Tryd.underlying79 (by rfl) (hi_six hn_1.siz)) ?_
  refine flow_take_g (i := 18) (dj := 41) (.agg (six co_1)) (by rfl) (by kernel_rfl) (by kernel_rfl) (by kernel_rfl) (by rfl) (by kernel_rfl) (List.Sublist.cons_cons _ (List.Sublist.cons_cons _ (List.Sublist.cons_cons _ (List.Sublist.cons_cons _ hs_3)))) (by rfl) (by rfl) (by rfl) (gives_load g1 0 79 (six co_1) (six co_1) _ (by rfl) (fun _ h => h.blk 3 (by rfl)) (Sl.refl _) Tryd.underlying79 (by rfl) (hi_six hn_1.siz)) ?_
  refine flow_one 16 (by kernel_rfl) ?_
  refine F_val (vl := [.agg (c12 (x_1))]) (.agg (c12 ((x_1) * (x_1)))) (by rfl) (by rfl) (Want.some (dj := 41) (by rfl) (by rfl) (by rfl) (by rfl)) (by kernel_rfl) (by rfl) (List.Sublist.cons_cons _ (List.Sublist.cons_cons _ (List.Sublist.cons_cons _ (List.Sublist.cons_cons _ hs_3)))) (fun w h => t_square _ w (hG.keep h.below)) ?_
  refine flow_one 19 (by kernel_rfl) ?_
  refine F_freshM (vl := [.agg (six co_1), .agg (six co_1)]) (QS (mall (comp x_1) (comp x_1) 6)) (fun T => (g4, 83, (c12 (x_2))) :: (g3, 79, (six co_2)) :: (g2, 83, (c12 (x_1))) :: (g1, 79, (six co_1)) :: T) [(g4, 83, (c12 (x_2))), (g3, 79, (six co_2)), (g2, 83, (c12 (x_1))), (g1, 79, (six co_1))] T_3 (fun _ => rfl) QS.mono (by rfl) (by rfl) (Want.some (dj := 41) (by rfl) (by rfl) (by rfl) (by rfl)) (by kernel_rfl) (by rfl) (List.Sublist.cons_cons _ (List.Sublist.cons_cons _ (List.Sublist.cons_cons _ (List.Sublist.cons_cons _ hs_3)))) (fun w h => m6_mul _ _ (comp x_1) (comp x_1) w (hn_1.here h (List.Sublist.cons _ (List.Sublist.cons _ (List.Sublist.cons _ (List.Sublist.cons _ (hs_2.trans hs_3)))))) (hn_1.here h (List.Sublist.cons _ (List.Sublist.cons _ (List.Sublist.cons _ (List.Sublist.cons _ (hs_2.trans hs_3))))))) ?_
  rintro _ T_4 hs_4 ⟨co_4, rfl, hn_4⟩
  refine flow_one 20 (by kernel_rfl) ?_
  refine F_val (vl := [.agg (c12 ((x_1) * (x_1))), .agg (six co_4)]) (.bool true) (by rfl) (by rfl) (Want.some (dj := 41) (by rfl) (by rfl) (by rfl) (by rfl)) (by kernel_rfl) (by rfl) (List.Sublist.cons_cons _ (List.Sublist.cons_cons _ (List.Sublist.cons_cons _ (List.Sublist.cons_cons _ (hs_3.trans hs_4))))) (fun w h => is6 ((x_1) * (x_1)) _ w (hG.keep h.below) ((hn_4.here h (List.Sublist.cons _ (List.Sublist.cons _ (List.Sublist.cons _ (List.Sublist.cons _ (List.Sublist.refl _)))))).eq (mall_comp x_1 x_1))) ?_
  refine flow_take_g (i := 21) (dj := 41) (.bool false) (by rfl) (by kernel_rfl) (by kernel_rfl) (by kernel_rfl) (by rfl) (by kernel_rfl) (List.Sublist.cons_cons _ (List.Sublist.cons_cons _ (List.Sublist.cons_cons _ (List.Sublist.cons_cons _ (hs_3.trans hs_4))))) (by rfl) (by rfl) (by rfl) (gives_value _ fun _ => by rfl) ?_
  refine flow_take (i := 22) (.bool false) (by rfl) (by kernel_rfl) (by kernel_rfl) (by kernel_rfl) (by rfl) (by kernel_rfl) (List.Sublist.cons_cons _ (List.Sublist.cons_cons _ (List.Sublist.cons_cons _ (List.Sublist.cons_cons _ (hs_3.trans hs_4))))) (gives_value _ fun _ => by rfl) ?_
  refine flow_done (by kernel_rfl) ?_
  intro w6 hw6
  refine wp_cond_false (fr_at _ _ (by rfl) _) ?_
  refine wp_skip ?_
  change Code.wp _ _ _ _ _
  refine seq_plain hw6 [0, 1, 2, 3, 4, 5, 6, 7, 8, 9, 10, 11] (by rfl) ?_
  refine L_val (.pointer (some ⟨g3, 0, none⟩)) (by rfl) (by rfl) (gives_value _ fun _ => by kernel_rfl) ?_
  refine L_val (.agg (co_2 0)) (by rfl) (by rfl) (gives_load g3 (0) 79 (six co_2) (co_2 0) _ (by rfl) (fun _ h => h.blk 1 (by rfl)) (six_at co_2 hn_2.siz 0 (by omega)) Tryd.underlying77 (by rfl) (hi_P (hn_2.siz 0 (by omega)))) ?_
  refine L_val (.agg (#[.slice none 0 0, .slice none 0 0])) (by rfl) (by rfl) gives_build0N ?_
  refine L_val (.pointer (some ⟨g3, 4, none⟩)) (by rfl) (by rfl) (gives_value _ fun _ => by kernel_rfl) ?_
  refine L_val (.agg (co_2 2)) (by rfl) (by rfl) (gives_load g3 (4) 79 (six co_2) (co_2 2) _ (by rfl) (fun _ h => h.blk 1 (by rfl)) (six_at co_2 hn_2.siz 2 (by omega)) Tryd.underlying77 (by rfl) (hi_P (hn_2.siz 2 (by omega)))) ?_
  refine L_val (.pointer (some ⟨g3, 6, none⟩)) (by rfl) (by rfl) (gives_value _ fun _ => by kernel_rfl) ?_
  refine L_val (.agg (co_2 3)) (by rfl) (by rfl) (gives_load g3 (6) 79 (six co_2) (co_2 3) _ (by rfl) (fun _ h => h.blk 1 (by rfl)) (six_at co_2 hn_2.siz 3 (by omega)) Tryd.underlying77 (by rfl) (hi_P (hn_2.siz 3 (by omega)))) ?_
  refine L_val (.agg (#[.slice none 0 0, .slice none 0 0])) (by rfl) (by rfl) gives_build0N ?_
  refine L_val (.agg (#[.slice none 0 0, .slice none 0 0])) (by rfl) (by rfl) gives_build0N ?_
  have hm_5 : SixIn T_4 (mk6 (co_2 0) (#[.slice none 0 0, .slice none 0 0]) (co_2 2) (co_2 3) (#[.slice none 0 0, .slice none 0 0]) (#[.slice none 0 0, .slice none 0 0])) (comp (T12.mk (C3.mk (x_2).a.a (x_2).a.b 0) (C3.mk 0 (x_2).b.b 0))) := mk6_in ((hn_2 0 (by omega)).mono (hs_3.trans hs_4)) (PIn.nil.mono (List.nil_sublist _)) ((hn_2 2 (by omega)).mono (hs_3.trans hs_4)) ((hn_2 3 (by omega)).mono (hs_3.trans hs_4)) (PIn.nil.mono (List.nil_sublist _)) (PIn.nil.mono (List.nil_sublist _))
  have hz_5 : Siz (mk6 (co_2 0) (#[.slice none 0 0, .slice none 0 0]) (co_2 2) (co_2 3) (#[.slice none 0 0, .slice none 0 0]) (#[.slice none 0 0, .slice none 0 0])) := hm_5.siz
  refine L_val (.agg (six (mk6 (co_2 0) (#[.slice none 0 0, .slice none 0 0]) (co_2 2) (co_2 3) (#[.slice none 0 0, .slice none 0 0]) (#[.slice none 0 0, .slice none 0 0])))) (by rfl) (by rfl) (gives_buildA 6 2 _ Tryd.underlying79 z_aN (by kernel_rfl) [#[.slice none 0 0, .slice none 0 0], #[.slice none 0 0, .slice none 0 0], #[.slice none 0 0, .slice none 0 0], #[.slice none 0 0, .slice none 0 0], #[.slice none 0 0, .slice none 0 0], #[.slice none 0 0, .slice none 0 0]] (by simp) rfl [(0, (co_2 0)), (1, #[.slice none 0 0, .slice none 0 0]), (2, (co_2 2)), (3, (co_2 3)), (4, #[.slice none 0 0, .slice none 0 0]), (5, #[.slice none 0 0, .slice none 0 0])] (by simp [fits, (hn_2.siz 0 (by omega)).1, (hn_2.siz 2 (by omega)).1, (hn_2.siz 3 (by omega)).1]) (by rfl) (six (mk6 (co_2 0) (#[.slice none 0 0, .slice none 0 0]) (co_2 2) (co_2 3) (#[.slice none 0 0, .slice none 0 0]) (#[.slice none 0 0, .slice none 0 0]))) (by rfl)) ?_
  refine L_alloc _ (by rfl) (by rfl) z_aN (six nco) rfl ?_; intro g5
  refine L_store (t := 79) 0 g5 (six nco) (six (mk6 (co_2 0) (#[.slice none 0 0, .slice none 0 0]) (co_2 2) (co_2 3) (#[.slice none 0 0, .slice none 0 0]) (#[.slice none 0 0, .slice none 0 0]))) (by rfl) (by rfl) (by rfl) (by rfl) (by rfl) (hi_six hz_5) (sz_six nco_siz hz_5) (six_one hz_5) ?_
  simp only [List.set_cons_zero, List.set_cons_succ]
  refine L_end ?_
  intro w7 hw7
  refine wp_seq ?_
  refine seq_flow (by kernel_rfl) hw7 [] ((g5, 79, (six (mk6 (co_2 0) (#[.slice none 0 0, .slice none 0 0]) (co_2 2) (co_2 3) (#[.slice none 0 0, .slice none 0 0]) (#[.slice none 0 0, .slice none 0 0])))) :: (g4, 83, (c12 (x_2))) :: (g3, 79, (six co_2)) :: (g2, 83, (c12 (x_1))) :: (g1, 79, (six co_1)) :: T_4) 16 (by rfl) ?_
  refine flow_take (i := 0) (.agg (c12 (x_1))) (by rfl) (by kernel_rfl) (by kernel_rfl) (by kernel_rfl) (by rfl) (by kernel_rfl) (List.Sublist.refl _) (gives_load g2 0 83 (c12 (x_1)) (c12 (x_1)) _ (by rfl) (fun _ h => h.blk 3 (by rfl)) (Sl.refl _) Tryd.underlying83 (by rfl) (hi_12 _)) ?_
  refine flow_take (i := 1) (.pointer (some ⟨g4, 0, none⟩)) (by rfl) (by kernel_rfl) (by kernel_rfl) (by kernel_rfl) (by rfl) (by kernel_rfl) (List.Sublist.refl _) (gives_value _ fun _ => by kernel_rfl) ?_
  refine flow_take (i := 2) (.pointer (some ⟨g4, 0, none⟩)) (by rfl) (by kernel_rfl) (by kernel_rfl) (by kernel_rfl) (by rfl) (by kernel_rfl) (List.Sublist.refl _) (gives_value _ fun _ => by kernel_rfl) ?_
  refine flow_take (i := 3) (.agg (c2 (((x_2).a).a))) (by rfl) (by kernel_rfl) (by kernel_rfl) (by kernel_rfl) (by rfl) (by kernel_rfl) (List.Sublist.refl _) (gives_load g4 0 83 (c12 (x_2)) (c2 (((x_2).a).a)) _ (by rfl) (fun _ h => h.blk 1 (by rfl)) (sl_3a ((x_2).a) _ _ (sl_12a (x_2) _ _ (Sl.refl _))) Tryd.underlying37 (by rfl) (hi_2 _)) ?_
  refine flow_take (i := 4) (.pointer (some ⟨g4, 0, none⟩)) (by rfl) (by kernel_rfl) (by kernel_rfl) (by kernel_rfl) (by rfl) (by kernel_rfl) (List.Sublist.refl _) (gives_value _ fun _ => by kernel_rfl) ?_
  refine flow_take (i := 5) (.pointer (some ⟨g4, 12, none⟩)) (by rfl) (by kernel_rfl) (by kernel_rfl) (by kernel_rfl) (by rfl) (by kernel_rfl) (List.Sublist.refl _) (gives_value _ fun _ => by kernel_rfl) ?_
  refine flow_take (i := 6) (.agg (c2 (((x_2).a).b))) (by rfl) (by kernel_rfl) (by kernel_rfl) (by kernel_rfl) (by rfl) (by kernel_rfl) (List.Sublist.refl _) (gives_load g4 12 83 (c12 (x_2)) (c2 (((x_2).a).b)) _ (by rfl) (fun _ h => h.blk 1 (by rfl)) (sl_3b ((x_2).a) _ _ 12 (sl_12a (x_2) _ _ (Sl.refl _)) (by rfl)) Tryd.underlying37 (by rfl) (hi_2 _)) ?_
  refine flow_take (i := 7) (.pointer (some ⟨g4, 36, none⟩)) (by rfl) (by kernel_rfl) (by kernel_rfl) (by kernel_rfl) (by rfl) (by kernel_rfl) (List.Sublist.refl _) (gives_value _ fun _ => by kernel_rfl) ?_
  refine flow_take (i := 8) (.pointer (some ⟨g4, 48, none⟩)) (by rfl) (by kernel_rfl) (by kernel_rfl) (by kernel_rfl) (by rfl) (by kernel_rfl) (List.Sublist.refl _) (gives_value _ fun _ => by kernel_rfl) ?_
  refine flow_take (i := 9) (.agg (c2 (((x_2).b).b))) (by rfl) (by kernel_rfl) (by kernel_rfl) (by kernel_rfl) (by rfl) (by kernel_rfl) (List.Sublist.refl _) (gives_load g4 48 83 (c12 (x_2)) (c2 (((x_2).b).b)) _ (by rfl) (fun _ h => h.blk 1 (by rfl)) (sl_3b ((x_2).b) _ _ 48 (sl_12b (x_2) _ _ 36 (Sl.refl _) (by rfl)) (by rfl)) Tryd.underlying37 (by rfl) (hi_2 _)) ?_
  refine flow_take (i := 11) (.agg (six co_1)) (by rfl) (by kernel_rfl) (by kernel_rfl) (by kernel_rfl) (by rfl) (by kernel_rfl) (List.Sublist.refl _) (gives_load g1 0 79 (six co_1) (six co_1) _ (by rfl) (fun _ h => h.blk 4 (by rfl)) (Sl.refl _) Tryd.underlying79 (by rfl) (hi_six hn_1.siz)) ?_
  refine flow_take (i := 12) (.agg (six (mk6 (co_2 0) (#[.slice none 0 0, .slice none 0 0]) (co_2 2) (co_2 3) (#[.slice none 0 0, .slice none 0 0]) (#[.slice none 0 0, .slice none 0 0])))) (by rfl) (by kernel_rfl) (by kernel_rfl) (by kernel_rfl) (by rfl) (by kernel_rfl) (List.Sublist.refl _) (gives_load g5 0 79 (six (mk6 (co_2 0) (#[.slice none 0 0, .slice none 0 0]) (co_2 2) (co_2 3) (#[.slice none 0 0, .slice none 0 0]) (#[.slice none 0 0, .slice none 0 0]))) (six (mk6 (co_2 0) (#[.slice none 0 0, .slice none 0 0]) (co_2 2) (co_2 3) (#[.slice none 0 0, .slice none 0 0]) (#[.slice none 0 0, .slice none 0 0]))) _ (by rfl) (fun _ h => h.blk 0 (by rfl)) (Sl.refl _) Tryd.underlying79 (by rfl) (hi_six hz_5)) ?_
  refine flow_one 10 (by kernel_rfl) ?_
  refine F_val (vl := [.agg (c12 (x_1)), .agg (c2 (((x_2).a).a)), .agg (c2 (((x_2).a).b)), .agg (c2 (((x_2).b).b))]) (.agg (c12 ((x_1) * T12.mk (C3.mk (((x_2).a).a) (((x_2).a).b) 0) (C3.mk 0 (((x_2).b).b) 0)))) (by rfl) (by rfl) Want.none (by kernel_rfl) (by rfl) (List.Sublist.refl _) (fun w h => t_line _ _ _ _ w (hG.keep h.below)) ?_
  refine flow_one 13 (by kernel_rfl) ?_
  refine F_freshM (vl := [.agg (six co_1), .agg (six (mk6 (co_2 0) (#[.slice none 0 0, .slice none 0 0]) (co_2 2) (co_2 3) (#[.slice none 0 0, .slice none 0 0]) (#[.slice none 0 0, .slice none 0 0])))]) (QS (mall (comp x_1) (comp (T12.mk (C3.mk (x_2).a.a (x_2).a.b 0) (C3.mk 0 (x_2).b.b 0))) 6)) (fun T => (g5, 79, (six (mk6 (co_2 0) (#[.slice none 0 0, .slice none 0 0]) (co_2 2) (co_2 3) (#[.slice none 0 0, .slice none 0 0]) (#[.slice none 0 0, .slice none 0 0])))) :: (g4, 83, (c12 (x_2))) :: (g3, 79, (six co_2)) :: (g2, 83, (c12 (x_1))) :: (g1, 79, (six co_1)) :: T) [(g5, 79, (six (mk6 (co_2 0) (#[.slice none 0 0, .slice none 0 0]) (co_2 2) (co_2 3) (#[.slice none 0 0, .slice none 0 0]) (#[.slice none 0 0, .slice none 0 0])))), (g4, 83, (c12 (x_2))), (g3, 79, (six co_2)), (g2, 83, (c12 (x_1))), (g1, 79, (six co_1))] T_4 (fun _ => rfl) QS.mono (by rfl) (by rfl) Want.none (by kernel_rfl) (by rfl) (List.Sublist.refl _) (fun w h => m6_mul _ _ (comp x_1) (comp (T12.mk (C3.mk (x_2).a.a (x_2).a.b 0) (C3.mk 0 (x_2).b.b 0))) w (hn_1.here h (List.Sublist.cons _ (List.Sublist.cons _ (List.Sublist.cons _ (List.Sublist.cons _ (List.Sublist.cons _ ((hs_2.trans hs_3).trans hs_4))))))) (hm_5.here h (List.Sublist.cons _ (List.Sublist.cons _ (List.Sublist.cons _ (List.Sublist.cons _ (List.Sublist.cons _ (List.Sublist.refl _)))))))) ?_
  rintro _ T_6 hs_6 ⟨co_6, rfl, hn_6⟩
  refine flow_one 14 (by kernel_rfl) ?_
  refine F_val (vl := [.agg (c12 ((x_1) * T12.mk (C3.mk (((x_2).a).a) (((x_2).a).b) 0) (C3.mk 0 (((x_2).b).b) 0))), .agg (six co_6)]) (.bool true) (by rfl) (by rfl) Want.none (by kernel_rfl) (by rfl) (List.Sublist.cons_cons _ (List.Sublist.cons_cons _ (List.Sublist.cons_cons _ (List.Sublist.cons_cons _ (List.Sublist.cons_cons _ hs_6))))) (fun w h => is6 ((x_1) * T12.mk (C3.mk (((x_2).a).a) (((x_2).a).b) 0) (C3.mk 0 (((x_2).b).b) 0)) _ w (hG.keep h.below) ((hn_6.here h (List.Sublist.cons _ (List.Sublist.cons _ (List.Sublist.cons _ (List.Sublist.cons _ (List.Sublist.cons _ (List.Sublist.refl _))))))).eq (mall_comp x_1 (T12.mk (C3.mk (x_2).a.a (x_2).a.b 0) (C3.mk 0 (x_2).b.b 0))))) ?_
  refine flow_take (i := 15) (.bool false) (by rfl) (by kernel_rfl) (by kernel_rfl) (by kernel_rfl) (by rfl) (by kernel_rfl) (List.Sublist.cons_cons _ (List.Sublist.cons_cons _ (List.Sublist.cons_cons _ (List.Sublist.cons_cons _ (List.Sublist.cons_cons _ hs_6))))) (gives_value _ fun _ => by rfl) ?_
  refine flow_done (by kernel_rfl) ?_
  intro w8 hw8
  refine wp_cond_false (fr_at _ _ (by rfl) _) ?_
  refine wp_skip ?_
  change Code.wp _ _ _ _ _
  refine seq_plain hw8 [0, 1, 2] (by rfl) ?_
  refine L_val (.agg (six co_1)) (by rfl) (by rfl) (gives_load g1 0 79 (six co_1) (six co_1) _ (by rfl) (fun _ h => h.blk 4 (by rfl)) (Sl.refl _) Tryd.underlying79 (by rfl) (hi_six hn_1.siz)) ?_
  refine L_alloc _ (by rfl) (by rfl) z_aN (six nco) rfl ?_; intro g6
  refine L_store (t := 79) 0 g6 (six nco) (six co_1) (by rfl) (by rfl) (by rfl) (by rfl) (by rfl) (hi_six hn_1.siz) (sz_six nco_siz hn_1.siz) (six_one hn_1.siz) ?_
  simp only [List.set_cons_zero, List.set_cons_succ]
  refine L_end ?_
  intro w9 hw9
  refine wp_seq ?_
  refine seq_plain hw9 [0] (by rfl) ?_
  refine L_val (.int .i64 1) (by rfl) (by rfl) (gives_value _ fun _ => by rfl) ?_
  refine L_end ?_
  intro w10 hw10
  refine wp_block ?_
  refine rounds_first 3 ?_
  refine wp_seq ?_
  refine seq_plain hw10 [0, 1] (by rfl) ?_
  refine L_val (.int .i64 1) (by rfl) (by rfl) (gives_value _ fun _ => by rfl) ?_
  refine L_val (.bool true) (by rfl) (by rfl) (gives_lss (k := .i64) 1 6 true (by rfl) (by rfl) (by rfl)) ?_
  refine L_end ?_
  intro w11 hw11
  refine wp_cond_true (fr_at _ _ (by rfl) _) ?_
  refine wp_skip ?_
  change Code.wp _ _ _ _ _
  refine wp_seq ?_
  refine wp_block ?_
  refine one_plain hw11 [0, 1, 2, 3, 4, 5, 6, 7] (by rfl) ?_
  refine L_val (.int .i64 1) (by rfl) (by rfl) (gives_value _ fun _ => by rfl) ?_
  refine L_val (.agg (#[.slice none 0 0, .slice none 0 0])) (by rfl) (by rfl) gives_build0N ?_
  refine L_val (.int .i64 1) (by rfl) (by rfl) (gives_value _ fun _ => by rfl) ?_
  refine L_val (.pointer (some ⟨g1, 2, none⟩)) (by rfl) (by rfl) (gives_value _ fun _ => by kernel_rfl) ?_
  refine L_val (.agg (co_1 1)) (by rfl) (by rfl) (gives_load g1 (2) 79 (six co_1) (co_1 1) _ (by rfl) (fun _ h => h.blk 5 (by rfl)) (six_at co_1 hn_1.siz 1 (by omega)) Tryd.underlying77 (by rfl) (hi_P (hn_1.siz 1 (by omega)))) ?_
  refine L_freshM (vl := [.agg (#[.slice none 0 0, .slice none 0 0]), .agg (co_1 1)]) (QP ((0 : F2) - ((comp x_1) 1))) (fun T => (g6, 79, (six co_1)) :: (g5, 79, (six (mk6 (co_2 0) (#[.slice none 0 0, .slice none 0 0]) (co_2 2) (co_2 3) (#[.slice none 0 0, .slice none 0 0]) (#[.slice none 0 0, .slice none 0 0])))) :: (g4, 83, (c12 (x_2))) :: (g3, 79, (six co_2)) :: (g2, 83, (c12 (x_1))) :: (g1, 79, (six co_1)) :: T) [(g6, 79, (six co_1)), (g5, 79, (six (mk6 (co_2 0) (#[.slice none 0 0, .slice none 0 0]) (co_2 2) (co_2 3) (#[.slice none 0 0, .slice none 0 0]) (#[.slice none 0 0, .slice none 0 0])))), (g4, 83, (c12 (x_2))), (g3, 79, (six co_2)), (g2, 83, (c12 (x_1))), (g1, 79, (six co_1))] T_6 (fun _ => rfl) QP.mono (by rfl) (by rfl) Want.none (by kernel_rfl) (by rfl)  (fun w h => m5_sub (0 : F2) ((comp x_1) 1) _ _ w (PairAt.nil w) ((hn_1 1 (by omega)).here h (List.Sublist.cons _ (List.Sublist.cons _ (List.Sublist.cons _ (List.Sublist.cons _ (List.Sublist.cons _ (List.Sublist.cons _ (((hs_2.trans hs_3).trans hs_4).trans hs_6))))))))) ?_
  rintro _ T_7 hs_7 ⟨a_7, rfl, hp_7⟩
  refine L_val (.pointer (some ⟨g6, 2, none⟩)) (by rfl) (by rfl) (gives_value _ fun _ => by kernel_rfl) ?_
  have hz_8 : Siz (upd co_1 1 a_7) := upd_siz hn_1.siz 1 hp_7.1
  refine L_storeA (t := 79) 0 g6 2 (six co_1) a_7 (six (upd co_1 1 a_7)) (by rfl) (by rfl) (by rfl) (by rfl) (by rfl) (hi_P hp_7.1) (by rw [six_size hn_1.siz, hp_7.1.1]; omega) hp_7.1.2 (six_splice co_1 hn_1.siz 1 (by omega) _ hp_7.1) ?_
  simp only [List.set_cons_zero, List.set_cons_succ]
  refine L_end ?_
  intro w12 hw12
  change Code.wp _ _ _ _ _
  refine one_plain hw12 [0, 1, 2] (by rfl) ?_
  refine L_val (.int .i64 1) (by rfl) (by rfl) (gives_value _ fun _ => by rfl) ?_
  refine L_val (.int .i64 3) (by rfl) (by rfl) (gives_add (k := .i64) 1 2 3 (by rfl) (by rfl) (by rfl)) ?_
  refine L_val (.int .i64 3) (by rfl) (by rfl) (gives_value _ fun _ => by rfl) ?_
  refine L_end ?_
  intro w13 hw13
  refine rounds_next ?_
  refine wp_seq ?_
  refine seq_plain hw13 [0, 1] (by rfl) ?_
  refine L_val (.int .i64 3) (by rfl) (by rfl) (gives_value _ fun _ => by rfl) ?_
  refine L_val (.bool true) (by rfl) (by rfl) (gives_lss (k := .i64) 3 6 true (by rfl) (by rfl) (by rfl)) ?_
  refine L_end ?_
  intro w14 hw14
  refine wp_cond_true (fr_at _ _ (by rfl) _) ?_
  refine wp_skip ?_
  change Code.wp _ _ _ _ _
  refine wp_seq ?_
  refine wp_block ?_
  refine one_plain hw14 [0, 1, 2, 3, 4, 5, 6, 7] (by rfl) ?_
  refine L_val (.int .i64 3) (by rfl) (by rfl) (gives_value _ fun _ => by rfl) ?_
  refine L_val (.agg (#[.slice none 0 0, .slice none 0 0])) (by rfl) (by rfl) gives_build0N ?_
  refine L_val (.int .i64 3) (by rfl) (by rfl) (gives_value _ fun _ => by rfl) ?_
  refine L_val (.pointer (some ⟨g1, 6, none⟩)) (by rfl) (by rfl) (gives_value _ fun _ => by kernel_rfl) ?_
  refine L_val (.agg (co_1 3)) (by rfl) (by rfl) (gives_load g1 (6) 79 (six co_1) (co_1 3) _ (by rfl) (fun _ h => h.blk 5 (by rfl)) (six_at co_1 hn_1.siz 3 (by omega)) Tryd.underlying77 (by rfl) (hi_P (hn_1.siz 3 (by omega)))) ?_
  refine L_freshM (vl := [.agg (#[.slice none 0 0, .slice none 0 0]), .agg (co_1 3)]) (QP ((0 : F2) - ((comp x_1) 3))) (fun T => (g6, 79, (six (upd co_1 1 a_7))) :: (g5, 79, (six (mk6 (co_2 0) (#[.slice none 0 0, .slice none 0 0]) (co_2 2) (co_2 3) (#[.slice none 0 0, .slice none 0 0]) (#[.slice none 0 0, .slice none 0 0])))) :: (g4, 83, (c12 (x_2))) :: (g3, 79, (six co_2)) :: (g2, 83, (c12 (x_1))) :: (g1, 79, (six co_1)) :: T) [(g6, 79, (six (upd co_1 1 a_7))), (g5, 79, (six (mk6 (co_2 0) (#[.slice none 0 0, .slice none 0 0]) (co_2 2) (co_2 3) (#[.slice none 0 0, .slice none 0 0]) (#[.slice none 0 0, .slice none 0 0])))), (g4, 83, (c12 (x_2))), (g3, 79, (six co_2)), (g2, 83, (c12 (x_1))), (g1, 79, (six co_1))] T_7 (fun _ => rfl) QP.mono (by rfl) (by rfl) Want.none (by kernel_rfl) (by rfl)  (fun w h => m5_sub (0 : F2) ((comp x_1) 3) _ _ w (PairAt.nil w) ((hn_1 3 (by omega)).here h (List.Sublist.cons _ (List.Sublist.cons _ (List.Sublist.cons _ (List.Sublist.cons _ (List.Sublist.cons _ (List.Sublist.cons _ ((((hs_2.trans hs_3).trans hs_4).trans hs_6).trans hs_7))))))))) ?_
  rintro _ T_9 hs_9 ⟨a_9, rfl, hp_9⟩
  refine L_val (.pointer (some ⟨g6, 6, none⟩)) (by rfl) (by rfl) (gives_value _ fun _ => by kernel_rfl) ?_
  have hz_10 : Siz (upd (upd co_1 1 a_7) 3 a_9) := upd_siz hz_8 3 hp_9.1
  refine L_storeA (t := 79) 0 g6 6 (six (upd co_1 1 a_7)) a_9 (six (upd (upd co_1 1 a_7) 3 a_9)) (by rfl) (by rfl) (by rfl) (by rfl) (by rfl) (hi_P hp_9.1) (by rw [six_size hz_8, hp_9.1.1]; omega) hp_9.1.2 (six_splice (upd co_1 1 a_7) hz_8 3 (by omega) _ hp_9.1) ?_
  simp only [List.set_cons_zero, List.set_cons_succ]
  refine L_end ?_
  intro w15 hw15
  change Code.wp _ _ _ _ _
  refine one_plain hw15 [0, 1, 2] (by rfl) ?_
  refine L_val (.int .i64 3) (by rfl) (by rfl) (gives_value _ fun _ => by rfl) ?_
  refine L_val (.int .i64 5) (by rfl) (by rfl) (gives_add (k := .i64) 3 2 5 (by rfl) (by rfl) (by rfl)) ?_
  refine L_val (.int .i64 5) (by rfl) (by rfl) (gives_value _ fun _ => by rfl) ?_
  refine L_end ?_
  intro w16 hw16
  refine rounds_next ?_
  refine wp_seq ?_
  refine seq_plain hw16 [0, 1] (by rfl) ?_
  refine L_val (.int .i64 5) (by rfl) (by rfl) (gives_value _ fun _ => by rfl) ?_
  refine L_val (.bool true) (by rfl) (by rfl) (gives_lss (k := .i64) 5 6 true (by rfl) (by rfl) (by rfl)) ?_
  refine L_end ?_
  intro w17 hw17
  refine wp_cond_true (fr_at _ _ (by rfl) _) ?_
  refine wp_skip ?_
  change Code.wp _ _ _ _ _
  refine wp_seq ?_
  refine wp_block ?_
  refine one_plain hw17 [0, 1, 2, 3, 4, 5, 6, 7] (by rfl) ?_
  refine L_val (.int .i64 5) (by rfl) (by rfl) (gives_value _ fun _ => by rfl) ?_
  refine L_val (.agg (#[.slice none 0 0, .slice none 0 0])) (by rfl) (by rfl) gives_build0N ?_
  refine L_val (.int .i64 5) (by rfl) (by rfl) (gives_value _ fun _ => by rfl) ?_
  refine L_val (.pointer (some ⟨g1, 10, none⟩)) (by rfl) (by rfl) (gives_value _ fun _ => by kernel_rfl) ?_
  refine L_val (.agg (co_1 5)) (by rfl) (by rfl) (gives_load g1 (10) 79 (six co_1) (co_1 5) _ (by rfl) (fun _ h => h.blk 5 (by rfl)) (six_at co_1 hn_1.siz 5 (by omega)) Tryd.underlying77 (by rfl) (hi_P (hn_1.siz 5 (by omega)))) ?_
  refine L_freshM (vl := [.agg (#[.slice none 0 0, .slice none 0 0]), .agg (co_1 5)]) (QP ((0 : F2) - ((comp x_1) 5))) (fun T => (g6, 79, (six (upd (upd co_1 1 a_7) 3 a_9))) :: (g5, 79, (six (mk6 (co_2 0) (#[.slice none 0 0, .slice none 0 0]) (co_2 2) (co_2 3) (#[.slice none 0 0, .slice none 0 0]) (#[.slice none 0 0, .slice none 0 0])))) :: (g4, 83, (c12 (x_2))) :: (g3, 79, (six co_2)) :: (g2, 83, (c12 (x_1))) :: (g1, 79, (six co_1)) :: T) [(g6, 79, (six (upd (upd co_1 1 a_7) 3 a_9))), (g5, 79, (six (mk6 (co_2 0) (#[.slice none 0 0, .slice none 0 0]) (co_2 2) (co_2 3) (#[.slice none 0 0, .slice none 0 0]) (#[.slice none 0 0, .slice none 0 0])))), (g4, 83, (c12 (x_2))), (g3, 79, (six co_2)), (g2, 83, (c12 (x_1))), (g1, 79, (six co_1))] T_9 (fun _ => rfl) QP.mono (by rfl) (by rfl) Want.none (by kernel_rfl) (by rfl)  (fun w h => m5_sub (0 : F2) ((comp x_1) 5) _ _ w (PairAt.nil w) ((hn_1 5 (by omega)).here h (List.Sublist.cons _ (List.Sublist.cons _ (List.Sublist.cons _ (List.Sublist.cons _ (List.Sublist.cons _ (List.Sublist.cons _ (((((hs_2.trans hs_3).trans hs_4).trans hs_6).trans hs_7).trans hs_9))))))))) ?_
  rintro _ T_11 hs_11 ⟨a_11, rfl, hp_11⟩
  refine L_val (.pointer (some ⟨g6, 10, none⟩)) (by rfl) (by rfl) (gives_value _ fun _ => by kernel_rfl) ?_
  have hz_12 : Siz (upd (upd (upd co_1 1 a_7) 3 a_9) 5 a_11) := upd_siz hz_10 5 hp_11.1
  refine L_storeA (t := 79) 0 g6 10 (six (upd (upd co_1 1 a_7) 3 a_9)) a_11 (six (upd (upd (upd co_1 1 a_7) 3 a_9) 5 a_11)) (by rfl) (by rfl) (by rfl) (by rfl) (by rfl) (hi_P hp_11.1) (by rw [six_size hz_10, hp_11.1.1]; omega) hp_11.1.2 (six_splice (upd (upd co_1 1 a_7) 3 a_9) hz_10 5 (by omega) _ hp_11.1) ?_
  simp only [List.set_cons_zero, List.set_cons_succ]
  refine L_end ?_
  intro w18 hw18
  change Code.wp _ _ _ _ _
  refine one_plain hw18 [0, 1, 2] (by rfl) ?_
  refine L_val (.int .i64 5) (by rfl) (by rfl) (gives_value _ fun _ => by rfl) ?_
  refine L_val (.int .i64 7) (by rfl) (by rfl) (gives_add (k := .i64) 5 2 7 (by rfl) (by rfl) (by rfl)) ?_
  refine L_val (.int .i64 7) (by rfl) (by rfl) (gives_value _ fun _ => by rfl) ?_
  refine L_end ?_
  intro w19 hw19
  refine rounds_next ?_
  refine wp_seq ?_
  refine seq_plain hw19 [0, 1] (by rfl) ?_
  refine L_val (.int .i64 7) (by rfl) (by rfl) (gives_value _ fun _ => by rfl) ?_
  refine L_val (.bool false) (by rfl) (by rfl) (gives_lss (k := .i64) 7 6 false (by rfl) (by rfl) (by rfl)) ?_
  refine L_end ?_
  intro w20 hw20
  refine wp_cond_false (fr_at _ _ (by rfl) _) ?_
  refine wp_exit ?_
  change Code.wp _ _ _ _ _
  change Code.wp _ _ _ _ _
  refine seq_flow (by kernel_rfl) hw20 [] ((g6, 79, (six (upd (upd (upd co_1 1 a_7) 3 a_9) 5 a_11))) :: (g5, 79, (six (mk6 (co_2 0) (#[.slice none 0 0, .slice none 0 0]) (co_2 2) (co_2 3) (#[.slice none 0 0, .slice none 0 0]) (#[.slice none 0 0, .slice none 0 0])))) :: (g4, 83, (c12 (x_2))) :: (g3, 79, (six co_2)) :: (g2, 83, (c12 (x_1))) :: (g1, 79, (six co_1)) :: T_11) 5 (by rfl) ?_
  refine flow_take (i := 0) (.agg (c12 (x_1))) (by rfl) (by kernel_rfl) (by kernel_rfl) (by kernel_rfl) (by rfl) (by kernel_rfl) (List.Sublist.refl _) (gives_load g2 0 83 (c12 (x_1)) (c12 (x_1)) _ (by rfl) (fun _ h => h.blk 4 (by rfl)) (Sl.refl _) Tryd.underlying83 (by rfl) (hi_12 _)) ?_
  refine flow_take (i := 2) (.agg (six (upd (upd (upd co_1 1 a_7) 3 a_9) 5 a_11))) (by rfl) (by kernel_rfl) (by kernel_rfl) (by kernel_rfl) (by rfl) (by kernel_rfl) (List.Sublist.refl _) (gives_load g6 0 79 (six (upd (upd (upd co_1 1 a_7) 3 a_9) 5 a_11)) (six (upd (upd (upd co_1 1 a_7) 3 a_9) 5 a_11)) _ (by rfl) (fun _ h => h.blk 0 (by rfl)) (Sl.refl _) Tryd.underlying79 (by rfl) (hi_six hz_12)) ?_
  refine flow_one 1 (by kernel_rfl) ?_
  refine F_val (vl := [.agg (c12 (x_1))]) (.agg (c12 (T12.conj (x_1)))) (by rfl) (by rfl) Want.none (by kernel_rfl) (by rfl) (List.Sublist.refl _) (fun w h => t_conj _ w (hG.keep h.below)) ?_
  refine flow_one 3 (by kernel_rfl) ?_
  refine F_val (vl := [.agg (c12 (T12.conj (x_1))), .agg (six (upd (upd (upd co_1 1 a_7) 3 a_9) 5 a_11))]) (.bool true) (by rfl) (by rfl) Want.none (by kernel_rfl) (by rfl) (List.Sublist.refl _) (fun w h => is6 (T12.conj (x_1)) _ w (hG.keep h.below) ((mirror_in (hn_1.mono ((((((hs_2.trans hs_3).trans hs_4).trans hs_6).trans hs_7).trans hs_9).trans hs_11)) (hp_7.mono (hs_9.trans hs_11)) (hp_9.mono hs_11) (hp_11.mono (List.Sublist.refl _))).here h (List.Sublist.cons _ (List.Sublist.cons _ (List.Sublist.cons _ (List.Sublist.cons _ (List.Sublist.cons _ (List.Sublist.cons _ (List.Sublist.refl _))))))))) ?_
  refine flow_take (i := 4) (.bool true) (by rfl) (by kernel_rfl) (by kernel_rfl) (by kernel_rfl) (by rfl) (by kernel_rfl) (List.Sublist.refl _) (gives_value _ fun _ => by rfl) ?_
  refine flow_done (by kernel_rfl) ?_
  intro w21 hw21
  refine wp_ret ?_
  change bodyPost _ _ _ Exit.ret _ _
  refine (ret_tmp (by rfl) (by rfl) (by rfl) ⟨rfl, hw21.below⟩)
theorem t_reckons_any (A0 : Option Addr) (L0 C0 : Nat) (bs0 : List Int) (A1 : Option Addr) (L1 C1 : Nat) (bs1 : List Int) (v : World) (hG : Glo v) (hr0 : Reads v v.heap.size A0 L0 (bs0.map (Value.int .u8))) (ho0 : Oct bs0) (hr1 : Reads v v.heap.size A1 L1 (bs1.map (Value.int .u8))) (ho1 : Oct bs1) : Rets 7 #[.slice A0 L0 C0, .slice A1 L1 C1] v (.bool true) := by
  by_cases hlong : 2000 < L0 ∨ 2000 < L1
  · exact t_reckons_long A0 L0 C0 bs0 A1 L1 C1 bs1 v hG hr0 ho0 hr1 ho1 hlong
  · exact t_reckons_short A0 L0 C0 bs0 A1 L1 C1 bs1 v hG hr0 ho0 hr1 ho1 (by omega) (by omega)
end Go.Proofs.YtialfoccalobpaaDoor
