/-
  The groups: which points are of the curve, the generators, which points are of the group.
-/
import Derived.Test.YtialfoccalobpaaDoorWBGp
import Derived.Test.YtialfoccalobpaaDoorWBFn3
namespace Go.Proofs.YtialfoccalobpaaDoor
set_option linter.unusedSimpArgs false
set_option linter.unusedVariables false
open Go.RowKit
instance {K : Type} [Add K] [Mul K] [Zero K] [DecidableEq K] (b : K) (p : Pt K) : Decidable (OnC b p) := by unfold OnC Aff; infer_instance
def gen2 : Pt F2 := ⟨⟨Fp.n 352701069587466618187139116011060144890029952792775240219908644239793785735715026873347600343865175952761926303160, Fp.n 3059144344244213709971259814753781636986470325476647558659373206291635324768958432433509563104347017837885763365758⟩, ⟨Fp.n 1985150602287291935568054521177171638300868978215655730859378665066344726373823718423869104263333984641494340347905, Fp.n 927553665492332455747201965776037880757740193453592970025027978793976877002675564980949289727957565575433344219582⟩⟩
theorem spl_two (a b c : Array Value) (o : Nat) (h : (o = 0 ∧ a.size = c.size) ∨ (o = a.size ∧ c.size = b.size)) : (splice (a ++ b).toList o c.toList).toArray = if o = 0 ∧ a.size = c.size then c ++ b else a ++ c := by
  rcases h with ⟨h1, h2⟩ | ⟨h1, h2⟩
  · rw [if_pos ⟨h1, h2⟩]
    apply Array.toList_inj.1
    have e : a.toList.length = c.toList.length := by simpa using h2
    simp [splice, h1, ← h2]
  · by_cases h3 : o = 0 ∧ a.size = c.size
    · rw [if_pos h3]
      have ha : a = #[] := Array.eq_empty_of_size_eq_zero (by omega)
      have hc : c = #[] := Array.eq_empty_of_size_eq_zero (by omega)
      have hb : b = #[] := Array.eq_empty_of_size_eq_zero (by omega)
      subst ha hb hc
      simp [splice]
    · rw [if_neg h3]
      apply Array.toList_inj.1
      simp [splice, h1, h2]
theorem spl_g2x (p : Pt F2) (x : F2) : (splice (cg2 p).toList 0 (c2 x).toList).toArray = cg2 (⟨x, p.y⟩ : Pt F2) := by
  have h := spl_two (c2 p.x) (c2 p.y) (c2 x) 0 (.inl ⟨rfl, by rw [c2_size, c2_size]⟩)
  rw [if_pos ⟨rfl, by rw [c2_size, c2_size]⟩] at h
  exact h
theorem spl_g2y (p : Pt F2) (x : F2) : (splice (cg2 p).toList 12 (c2 x).toList).toArray = cg2 (⟨p.x, x⟩ : Pt F2) := by
  have h := spl_two (c2 p.x) (c2 p.y) (c2 x) 12 (.inr ⟨by rw [c2_size], by rw [c2_size, c2_size]⟩)
  rw [if_neg (fun h => by cases h.1)] at h
  exact h
attribute [local irreducible] wpL wpF fr Code.wp bodyPost
set_option maxRecDepth 100000 in
set_option maxHeartbeats 4000000 in
theorem k2_onz (p : Pt F2) (v : World) (hG : Glo v) (hz : p = 0) : Rets 80 #[.agg (cg2 p)] v (.bool true) := by
  refine calls_fr1 Tryd.func80 rfl (by rfl : _ = 20) (by rfl) ?_
  have hw := Hbl.nil v
  refine seq_plain hw [0, 1] (by rfl) ?_
  refine L_box (.agg (cg2 (p))) (by rfl) (by rfl) (by rfl) (cg2 (p)) (by rfl) ?_; intro g1
  refine lv (.bool false) (h := ?_)
  refine L_end ?_
  intro w1 hw1
  refine seq_flow (by kernel_rfl) hw1 [] [(g1, 71, (cg2 (p)))] 18 (by rfl) ?_
  refine fT (i := 0) (g := (gL g1 71 (cg2 (p)) 0 Tryd.underlying71 (hi_g2 _))) (h := ?_)
  refine fT (i := 1) (u := (.agg (cg2 (0 : Pt F2)))) (g := (gb_g2 [] trivial (by rfl) (cg2 (0 : Pt F2)) (by rfl))) (h := ?_)
  refine fT (i := 2) (u := (.bool true)) (g := (gives_eql (cg2 (p)) (cg2 (0 : Pt F2)) true (by rfl) (by rfl) (by kernel_rfl) (fun w => eq_g2_t (d := 9995) w hz))) (h := ?_)
  refine fV (i := 3) (u := (.bool true)) (h := ?_)
  refine fS (i := 4) (dj := 6) (h := ?_)
  refine fS (i := 5) (dj := 6) (h := ?_)
  refine fS (i := 6) (dj := 6) (h := ?_)
  refine fS (i := 7) (dj := 6) (h := ?_)
  refine fS (i := 8) (dj := 6) (h := ?_)
  refine fS (i := 9) (dj := 6) (h := ?_)
  refine fS (i := 10) (dj := 6) (h := ?_)
  refine fS (i := 11) (dj := 6) (h := ?_)
  refine fS (i := 12) (dj := 6) (h := ?_)
  refine fS (i := 13) (dj := 6) (h := ?_)
  refine fS (i := 14) (dj := 6) (h := ?_)
  refine fS (i := 15) (dj := 6) (h := ?_)
  refine fV (i := 16) (u := (.bool true)) (h := ?_)
  refine fV (i := 17) (u := (.bool true)) (h := ?_)
  refine flow_done (by kernel_rfl) ?_
  intro w2 hw2
  refine wp_ret ?_
  change bodyPost _ _ _ Exit.ret _ _
  refine (ret_tmp (by rfl) (by rfl) (by rfl) ⟨?_, hw2.below⟩)
  rfl
set_option maxRecDepth 100000 in
set_option maxHeartbeats 4000000 in
theorem k2_ont (p : Pt F2) (v : World) (hG : Glo v) (hz : p ≠ 0) (he : p.y * p.y = p.x * p.x * p.x + F2.sm 4 4) : Rets 80 #[.agg (cg2 p)] v (.bool true) := by
  obtain ⟨k0, hk0⟩ : ∃ k : F2, k = F2.sm 4 4 := ⟨_, rfl⟩
  refine calls_fr1 Tryd.func80 rfl (by rfl : _ = 20) (by rfl) ?_
  have hw := Hbl.nil v
  refine seq_plain hw [0, 1] (by rfl) ?_
  refine L_box (.agg (cg2 (p))) (by rfl) (by rfl) (by rfl) (cg2 (p)) (by rfl) ?_; intro g1
  refine lv (.bool false) (h := ?_)
  refine L_end ?_
  intro w1 hw1
  refine seq_flow (by kernel_rfl) hw1 [] [(g1, 71, (cg2 (p)))] 18 (by rfl) ?_
  refine fT (i := 0) (g := (gL g1 71 (cg2 (p)) 0 Tryd.underlying71 (hi_g2 _))) (h := ?_)
  refine fT (i := 1) (u := (.agg (cg2 (0 : Pt F2)))) (g := (gb_g2 [] trivial (by rfl) (cg2 (0 : Pt F2)) (by rfl))) (h := ?_)
  refine fT (i := 2) (u := (.bool false)) (g := (gives_eql (cg2 (p)) (cg2 (0 : Pt F2)) false (by rfl) (by rfl) (by kernel_rfl) (fun w => eq_g2_f (d := 9995) w hz))) (h := ?_)
  refine fV (i := 3) (u := (.bool false)) (h := ?_)
  refine fG (i := 4) (dj := 6) (u := (.pointer (some ⟨g1, 12, none⟩))) (g := gk) (h := ?_)
  refine fG (i := 5) (dj := 6) (g := (gives_load g1 12 71 (cg2 (p)) (c2 ((p).y)) _ (by rfl) (fun _ h => h.blk 0 (by rfl)) (sl_g2y (p) _ _ 12 (Sl.refl _) (by rfl)) Tryd.underlying37 (by rfl) (hi_2 _))) (h := ?_)
  refine fG (i := 6) (dj := 6) (g := (gives_call (vl := [.agg (c2 ((p).y))]) (by kernel_rfl) (by rfl) (fun w h => q_square _ w (hG.keep h.below)))) (h := ?_)
  refine fG (i := 7) (dj := 6) (u := (.pointer (some ⟨g1, 0, none⟩))) (g := gk) (h := ?_)
  refine fG (i := 8) (dj := 6) (g := (gives_load g1 0 71 (cg2 (p)) (c2 ((p).x)) _ (by rfl) (fun _ h => h.blk 0 (by rfl)) (sl_g2x (p) _ _ (Sl.refl _)) Tryd.underlying37 (by rfl) (hi_2 _))) (h := ?_)
  refine fG (i := 9) (dj := 6) (g := (gives_call (vl := [.agg (c2 ((p).x))]) (by kernel_rfl) (by rfl) (fun w h => q_square _ w (hG.keep h.below)))) (h := ?_)
  refine fG (i := 10) (dj := 6) (u := (.pointer (some ⟨g1, 0, none⟩))) (g := gk) (h := ?_)
  refine fG (i := 11) (dj := 6) (g := (gives_load g1 0 71 (cg2 (p)) (c2 ((p).x)) _ (by rfl) (fun _ h => h.blk 0 (by rfl)) (sl_g2x (p) _ _ (Sl.refl _)) Tryd.underlying37 (by rfl) (hi_2 _))) (h := ?_)
  refine fG (i := 12) (dj := 6) (g := (gives_call (vl := [.agg (c2 (((p).x) * ((p).x))), .agg (c2 ((p).x))]) (by kernel_rfl) (by rfl) (fun w h => q_mul _ _ w (hG.keep h.below)))) (h := ?_)
  refine fG (i := 13) (dj := 6) (u := (.agg (c2 (k0)))) (g := (gives_call (vl := [.int .u64 4, .int .u64 4]) (by kernel_rfl) (by rfl) (fun w h => by rw [hk0]; exact q_small _ _ w (hG.keep h.below) (by omega) (by simp only [Wd]; omega) (by omega) (by simp only [Wd]; omega)))) (h := ?_)
  refine fG (i := 14) (dj := 6) (g := (gives_call (vl := [.agg (c2 ((((p).x) * ((p).x)) * ((p).x))), .agg (c2 (k0))]) (by kernel_rfl) (by rfl) (fun w h => q_add _ _ w (hG.keep h.below)))) (h := ?_)
  refine fG (i := 15) (dj := 6) (u := (.bool true)) (g := (gives_eql (c2 (((p).y) * ((p).y))) (c2 (((((p).x) * ((p).x)) * ((p).x)) + (k0))) true (by rfl) (by rfl) (by kernel_rfl) (fun w => eq_2_t (d := 9996) w (by rw [hk0]; exact he)))) (h := ?_)
  refine fV (i := 16) (u := (.bool true)) (h := ?_)
  refine fV (i := 17) (u := (.bool true)) (h := ?_)
  refine flow_done (by kernel_rfl) ?_
  intro w2 hw2
  refine wp_ret ?_
  change bodyPost _ _ _ Exit.ret _ _
  refine (ret_tmp (by rfl) (by rfl) (by rfl) ⟨?_, hw2.below⟩)
  rfl
set_option maxRecDepth 100000 in
set_option maxHeartbeats 4000000 in
theorem k2_onf (p : Pt F2) (v : World) (hG : Glo v) (hz : p ≠ 0) (he : ¬ p.y * p.y = p.x * p.x * p.x + F2.sm 4 4) : Rets 80 #[.agg (cg2 p)] v (.bool false) := by
  obtain ⟨k0, hk0⟩ : ∃ k : F2, k = F2.sm 4 4 := ⟨_, rfl⟩
  refine calls_fr1 Tryd.func80 rfl (by rfl : _ = 20) (by rfl) ?_
  have hw := Hbl.nil v
  refine seq_plain hw [0, 1] (by rfl) ?_
  refine L_box (.agg (cg2 (p))) (by rfl) (by rfl) (by rfl) (cg2 (p)) (by rfl) ?_; intro g1
  refine lv (.bool false) (h := ?_)
  refine L_end ?_
  intro w1 hw1
  refine seq_flow (by kernel_rfl) hw1 [] [(g1, 71, (cg2 (p)))] 18 (by rfl) ?_
  refine fT (i := 0) (g := (gL g1 71 (cg2 (p)) 0 Tryd.underlying71 (hi_g2 _))) (h := ?_)
  refine fT (i := 1) (u := (.agg (cg2 (0 : Pt F2)))) (g := (gb_g2 [] trivial (by rfl) (cg2 (0 : Pt F2)) (by rfl))) (h := ?_)
  refine fT (i := 2) (u := (.bool false)) (g := (gives_eql (cg2 (p)) (cg2 (0 : Pt F2)) false (by rfl) (by rfl) (by kernel_rfl) (fun w => eq_g2_f (d := 9995) w hz))) (h := ?_)
  refine fV (i := 3) (u := (.bool false)) (h := ?_)
  refine fG (i := 4) (dj := 6) (u := (.pointer (some ⟨g1, 12, none⟩))) (g := gk) (h := ?_)
  refine fG (i := 5) (dj := 6) (g := (gives_load g1 12 71 (cg2 (p)) (c2 ((p).y)) _ (by rfl) (fun _ h => h.blk 0 (by rfl)) (sl_g2y (p) _ _ 12 (Sl.refl _) (by rfl)) Tryd.underlying37 (by rfl) (hi_2 _))) (h := ?_)
  refine fG (i := 6) (dj := 6) (g := (gives_call (vl := [.agg (c2 ((p).y))]) (by kernel_rfl) (by rfl) (fun w h => q_square _ w (hG.keep h.below)))) (h := ?_)
  refine fG (i := 7) (dj := 6) (u := (.pointer (some ⟨g1, 0, none⟩))) (g := gk) (h := ?_)
  refine fG (i := 8) (dj := 6) (g := (gives_load g1 0 71 (cg2 (p)) (c2 ((p).x)) _ (by rfl) (fun _ h => h.blk 0 (by rfl)) (sl_g2x (p) _ _ (Sl.refl _)) Tryd.underlying37 (by rfl) (hi_2 _))) (h := ?_)
  refine fG (i := 9) (dj := 6) (g := (gives_call (vl := [.agg (c2 ((p).x))]) (by kernel_rfl) (by rfl) (fun w h => q_square _ w (hG.keep h.below)))) (h := ?_)
  refine fG (i := 10) (dj := 6) (u := (.pointer (some ⟨g1, 0, none⟩))) (g := gk) (h := ?_)
  refine fG (i := 11) (dj := 6) (g := (gives_load g1 0 71 (cg2 (p)) (c2 ((p).x)) _ (by rfl) (fun _ h => h.blk 0 (by rfl)) (sl_g2x (p) _ _ (Sl.refl _)) Tryd.underlying37 (by rfl) (hi_2 _))) (h := ?_)
  refine fG (i := 12) (dj := 6) (g := (gives_call (vl := [.agg (c2 (((p).x) * ((p).x))), .agg (c2 ((p).x))]) (by kernel_rfl) (by rfl) (fun w h => q_mul _ _ w (hG.keep h.below)))) (h := ?_)
  refine fG (i := 13) (dj := 6) (u := (.agg (c2 (k0)))) (g := (gives_call (vl := [.int .u64 4, .int .u64 4]) (by kernel_rfl) (by rfl) (fun w h => by rw [hk0]; exact q_small _ _ w (hG.keep h.below) (by omega) (by simp only [Wd]; omega) (by omega) (by simp only [Wd]; omega)))) (h := ?_)
  refine fG (i := 14) (dj := 6) (g := (gives_call (vl := [.agg (c2 ((((p).x) * ((p).x)) * ((p).x))), .agg (c2 (k0))]) (by kernel_rfl) (by rfl) (fun w h => q_add _ _ w (hG.keep h.below)))) (h := ?_)
  refine fG (i := 15) (dj := 6) (u := (.bool false)) (g := (gives_eql (c2 (((p).y) * ((p).y))) (c2 (((((p).x) * ((p).x)) * ((p).x)) + (k0))) false (by rfl) (by rfl) (by kernel_rfl) (fun w => eq_2_f (d := 9996) w (by rw [hk0]; exact he)))) (h := ?_)
  refine fV (i := 16) (u := (.bool false)) (h := ?_)
  refine fV (i := 17) (u := (.bool false)) (h := ?_)
  refine flow_done (by kernel_rfl) ?_
  intro w2 hw2
  refine wp_ret ?_
  change bodyPost _ _ _ Exit.ret _ _
  refine (ret_tmp (by rfl) (by rfl) (by rfl) ⟨?_, hw2.below⟩)
  rfl
theorem k2_on (p : Pt F2) (v : World) (hG : Glo v) : Rets 80 #[.agg (cg2 p)] v (.bool (decide (OnC (F2.sm 4 4) p))) := by
  by_cases hz : p = 0
  · rw [decide_eq_true (p := OnC (F2.sm 4 4) p) (Or.inl hz)]
    exact k2_onz p v hG hz
  · by_cases he : p.y * p.y = p.x * p.x * p.x + F2.sm 4 4
    · rw [decide_eq_true (p := OnC (F2.sm 4 4) p) (Or.inr he)]
      exact k2_ont p v hG hz he
    · rw [decide_eq_false (p := OnC (F2.sm 4 4) p) (fun h => h.elim hz he)]
      exact k2_onf p v hG hz he
theorem k2_on_t (p : Pt F2) (v : World) (hG : Glo v) (h : OnC (F2.sm 4 4) p) : Rets 80 #[.agg (cg2 p)] v (.bool true) := by
  have := k2_on p v hG
  rwa [decide_eq_true h] at this
set_option maxRecDepth 100000 in
set_option maxHeartbeats 4000000 in
theorem k2_gen  (v : World) (hG : Glo v) : Rets 37 #[] v (.agg (cg2 gen2)) := by
  obtain ⟨k0, hk0⟩ : ∃ k : F2, k = F2.mk (Fp.n 352701069587466618187139116011060144890029952792775240219908644239793785735715026873347600343865175952761926303160) (Fp.n 3059144344244213709971259814753781636986470325476647558659373206291635324768958432433509563104347017837885763365758) := ⟨_, rfl⟩
  obtain ⟨k1, hk1⟩ : ∃ k : F2, k = F2.mk (Fp.n 1985150602287291935568054521177171638300868978215655730859378665066344726373823718423869104263333984641494340347905) (Fp.n 927553665492332455747201965776037880757740193453592970025027978793976877002675564980949289727957565575433344219582) := ⟨_, rfl⟩
  refine calls_fr0 Tryd.func37 rfl (by rfl : _ = 19) ?_
  have hw := Hbl.nil v
  refine seq_plain hw [0] (by rfl) ?_
  refine L_alloc _ (by rfl) (by rfl) z_g2 (cg2 (0 : Pt F2)) rfl ?_; intro g1
  refine L_end ?_
  intro w1 hw1
  refine seq_plain hw1 [0, 1, 2] (by rfl) ?_
  refine L_val (.agg (b96c (k0))) (by rfl) (by rfl) (by rw [hk0]; exact gives_value _ fun w => by kernel_rfl) ?_
  refine L_alloc _ (by rfl) (by rfl) z_b96 (b96c (0 : F2)) rfl ?_; intro g2
  refine L_store (t := 126) 0 g2 _ _ (by rfl) (by rfl) (by rfl) (by rfl) (by rfl) (hi_b96 _) ((b96c_size _).trans (b96c_size _).symm) (b96c_one _) ?_
  simp only [List.set_cons_zero, List.set_cons_succ]
  refine L_end ?_
  intro w2 hw2
  refine seq_plain hw2 [0, 1, 2] (by rfl) ?_
  refine L_val (.agg (b96c (k1))) (by rfl) (by rfl) (by rw [hk1]; exact gives_value _ fun w => by kernel_rfl) ?_
  refine L_alloc _ (by rfl) (by rfl) z_b96 (b96c (0 : F2)) rfl ?_; intro g3
  refine L_store (t := 126) 0 g3 _ _ (by rfl) (by rfl) (by rfl) (by rfl) (by rfl) (hi_b96 _) ((b96c_size _).trans (b96c_size _).symm) (b96c_one _) ?_
  simp only [List.set_cons_zero, List.set_cons_succ]
  refine L_end ?_
  intro w3 hw3
  refine seq_plain hw3 [0] (by rfl) ?_
  refine L_alloc _ (by rfl) (by rfl) z_g2 (cg2 (0 : Pt F2)) rfl ?_; intro g4
  refine L_end ?_
  intro w4 hw4
  refine seq_plain hw4 [0, 1, 2, 3, 4, 5, 6] (by rfl) ?_
  refine L_val (.slice (some ⟨g2, 0, none⟩) 96 96) (by rfl) (by rfl) (gives_slice_arr g2 96 1 (by rfl) und_b96 u8_sz) ?_
  refine L_val (.tuple #[.agg (c2 (k0)), .int .i64 0]) (by rfl) (by rfl) (gives_call (vl := [.slice (some ⟨g2, 0, none⟩) 96 96]) (by kernel_rfl) (by rfl) (fun w h => read5 k0 _ 96 w (hG.keep h.below) (all_reads (h.blk 2 (by rfl))) (by omega))) ?_
  refine lv (.tuple #[.agg (c2 (k0)), .int .i64 0]) (h := ?_)
  refine L_val (.agg (c2 (k0))) (by rfl) (by rfl) gk ?_
  refine L_val (.int .i64 0) (by rfl) (by rfl) gk ?_
  refine L_val (.pointer (some ⟨g4, 0, none⟩)) (by rfl) (by rfl) gk ?_
  refine L_storeA (t := 71) 0 g4 0 (cg2 (0 : Pt F2)) (c2 (k0)) (cg2 ((⟨k0, (0 : Pt F2).y⟩ : Pt F2))) (by rfl) (by rfl) (by rfl) (by rfl) (by rfl) (hi_2 _) (by rw [cg2_size, c2_size]; omega) (c2_one _) (spl_g2x _ _) ?_
  simp only [List.set_cons_zero, List.set_cons_succ]
  refine L_end ?_
  intro w5 hw5
  refine seq_plain hw5 [0, 1, 2, 3, 4, 5, 6] (by rfl) ?_
  refine L_val (.slice (some ⟨g3, 0, none⟩) 96 96) (by rfl) (by rfl) (gives_slice_arr g3 96 1 (by rfl) und_b96 u8_sz) ?_
  refine L_val (.tuple #[.agg (c2 (k1)), .int .i64 0]) (by rfl) (by rfl) (gives_call (vl := [.slice (some ⟨g3, 0, none⟩) 96 96]) (by kernel_rfl) (by rfl) (fun w h => read5 k1 _ 96 w (hG.keep h.below) (all_reads (h.blk 1 (by rfl))) (by omega))) ?_
  refine lv (.tuple #[.agg (c2 (k1)), .int .i64 0]) (h := ?_)
  refine L_val (.agg (c2 (k1))) (by rfl) (by rfl) gk ?_
  refine L_val (.int .i64 0) (by rfl) (by rfl) gk ?_
  refine L_val (.pointer (some ⟨g4, 12, none⟩)) (by rfl) (by rfl) gk ?_
  refine L_storeA (t := 71) 0 g4 12 (cg2 ((⟨k0, (0 : Pt F2).y⟩ : Pt F2))) (c2 (k1)) (cg2 ((⟨((⟨k0, (0 : Pt F2).y⟩ : Pt F2)).x, k1⟩ : Pt F2))) (by rfl) (by rfl) (by rfl) (by rfl) (by rfl) (hi_2 _) (by rw [cg2_size, c2_size]; omega) (c2_one _) (spl_g2y _ _) ?_
  simp only [List.set_cons_zero, List.set_cons_succ]
  refine L_end ?_
  intro w6 hw6
  refine seq_plain hw6 [0, 1] (by rfl) ?_
  refine L_val (.agg (cg2 ((⟨((⟨k0, (0 : Pt F2).y⟩ : Pt F2)).x, k1⟩ : Pt F2)))) (by rfl) (by rfl) (gL g4 71 (cg2 ((⟨((⟨k0, (0 : Pt F2).y⟩ : Pt F2)).x, k1⟩ : Pt F2))) 0 Tryd.underlying71 (hi_g2 _)) ?_
  refine L_store (t := 71) 3 g1 _ _ (by rfl) (by rfl) (by rfl) (by rfl) (by rfl) (hi_g2 _) ((cg2_size _).trans (cg2_size _).symm) (cg2_one _) ?_
  simp only [List.set_cons_zero, List.set_cons_succ]
  refine L_end ?_
  intro w7 hw7
  refine wp_ret ?_
  change bodyPost _ _ _ Exit.ret _ _
  refine (ret_cell (by rfl) (by rfl) (by rfl) (hw7.blk 3 (by rfl)) Tryd.underlying71 (by rfl) (hi_g2 _) ⟨?_, hw7.below⟩)
  rw [gen2, hk0, hk1]
end Go.Proofs.YtialfoccalobpaaDoor
