/-
  The groups: which points are of the curve, the generators, which points are of the group.
-/
import Derived.Test.YtialfoccalobpaaDoorWAGp
import Derived.Test.YtialfoccalobpaaDoorWAFn3
namespace Go.Proofs.YtialfoccalobpaaDoor
set_option linter.unusedSimpArgs false
set_option linter.unusedVariables false
open Go.RowKit
instance {K : Type} [Add K] [Mul K] [Zero K] [DecidableEq K] (b : K) (p : Pt K) : Decidable (OnC b p) := by unfold OnC Aff; infer_instance
/-- The generators. -/
def gen1 : Pt Fp := ⟨Fp.n 3685416753713387016781088315183077757961620795782546409894578378688607592378376318836054947676345821548104185464507, Fp.n 1339506544944476473020471379941921221584933875938349620426543736416511423956333506472724655353366534992391756441569⟩
theorem read4 (x : Fp) (g c : Nat) (w : World) (hG : Glo w) (hr : Reads w w.heap.size (some ⟨g, 0, none⟩) 48 ((lo (x.val : Int) 48).map (Value.int .u8))) (hc : 48 ≤ c) : Rets 71 #[.slice (some ⟨g, 0, none⟩) 48 c] w (.tuple #[.agg (pc x), .int .i64 0]) := by
  have e : num (lo (x.val : Int) 48) = (x.val : Int) := by
    rw [num_lo]
    exact Int.emod_eq_of_lt (Int.natCast_nonneg _) (Int.lt_trans (Fp.val_lt x) (by unfold Mp; decide))
  have h := v_read_ok _ c _ w hG hr (lo_oct _ _) hc (by rw [e]; exact Fp.val_lt _)
  rw [e, Fp.n_of] at h
  exact h
theorem spl_two (a b c : Array Value) (o : Nat) (h : (o = 0 ∧ a.size = c.size) ∨ (o = a.size ∧ c.size = b.size)) : (splice (a ++ b).toList o c.toList).toArray = if o = 0 ∧ a.size = c.size then c ++ b else a ++ c := by
  rcases h with ⟨h1, h2⟩ | ⟨h1, h2⟩
  · rw [if_pos ⟨h1, h2⟩]
    apply Array.toList_inj.1
    have e : a.toList.length = c.toList.length := by simpa using h2
    simp [splice, h1, ← h2]
  · by_cases h3 : o = 0 ∧ a.size = c.size
    · rw [if_pos h3]
      have ha : a = #[] := Array.eq_empty_of_size_eq_zero (by omega)
      have hc : c = #[] := Array.eq_empty_of_size_eq_zero (by omega)
      have hb : b = #[] := Array.eq_empty_of_size_eq_zero (by omega)
      subst ha hb hc
      simp [splice]
    · rw [if_neg h3]
      apply Array.toList_inj.1
      simp [splice, h1, h2]
theorem spl_g1x (p : Pt Fp) (x : Fp) : (splice (cg1 p).toList 0 (pc x).toList).toArray = cg1 (⟨x, p.y⟩ : Pt Fp) := by
  have h := spl_two (pc p.x) (pc p.y) (pc x) 0 (.inl ⟨rfl, by rw [pc_size, pc_size]⟩)
  rw [if_pos ⟨rfl, by rw [pc_size, pc_size]⟩] at h
  exact h
theorem spl_g1y (p : Pt Fp) (x : Fp) : (splice (cg1 p).toList 6 (pc x).toList).toArray = cg1 (⟨p.x, x⟩ : Pt Fp) := by
  have h := spl_two (pc p.x) (pc p.y) (pc x) 6 (.inr ⟨by rw [pc_size], by rw [pc_size, pc_size]⟩)
  rw [if_neg (fun h => by cases h.1)] at h
  exact h
attribute [local irreducible] wpL wpF fr Code.wp bodyPost
set_option maxRecDepth 100000 in
set_option maxHeartbeats 4000000 in
theorem k1_onz (p : Pt Fp) (v : World) (hG : Glo v) (hz : p = 0) : Rets 67 #[.agg (cg1 p)] v (.bool true) := by
  refine calls_fr1 Tryd.func67 rfl (by rfl : _ = 20) (by rfl) ?_
  have hw := Hbl.nil v
  refine seq_plain hw [0, 1] (by rfl) ?_
  refine L_box (.agg (cg1 (p))) (by rfl) (by rfl) (by rfl) (cg1 (p)) (by rfl) ?_; intro g1
  refine lv (.bool false) (h := ?_)
  refine L_end ?_
  intro w1 hw1
  refine seq_flow (by kernel_rfl) hw1 [] [(g1, 57, (cg1 (p)))] 18 (by rfl) ?_
  refine fT (i := 0) (g := (gL g1 57 (cg1 (p)) 0 Tryd.underlying57 (hi_g1 _))) (h := ?_)
  refine fT (i := 1) (u := (.agg (cg1 (0 : Pt Fp)))) (g := (gb_g1 [] trivial (by rfl) (cg1 (0 : Pt Fp)) (by rfl))) (h := ?_)
  refine fT (i := 2) (u := (.bool true)) (g := (gives_eql (cg1 (p)) (cg1 (0 : Pt Fp)) true (by rfl) (by rfl) (by kernel_rfl) (fun w => eq_g1_t (d := 9996) w hz))) (h := ?_)
  refine fV (i := 3) (u := (.bool true)) (h := ?_)
  refine fS (i := 4) (dj := 6) (h := ?_)
  refine fS (i := 5) (dj := 6) (h := ?_)
  refine fS (i := 6) (dj := 6) (h := ?_)
  refine fS (i := 7) (dj := 6) (h := ?_)
  refine fS (i := 8) (dj := 6) (h := ?_)
  refine fS (i := 9) (dj := 6) (h := ?_)
  refine fS (i := 10) (dj := 6) (h := ?_)
  refine fS (i := 11) (dj := 6) (h := ?_)
  refine fS (i := 12) (dj := 6) (h := ?_)
  refine fS (i := 13) (dj := 6) (h := ?_)
  refine fS (i := 14) (dj := 6) (h := ?_)
  refine fS (i := 15) (dj := 6) (h := ?_)
  refine fV (i := 16) (u := (.bool true)) (h := ?_)
  refine fV (i := 17) (u := (.bool true)) (h := ?_)
  refine flow_done (by kernel_rfl) ?_
  intro w2 hw2
  refine wp_ret ?_
  change bodyPost _ _ _ Exit.ret _ _
  refine (ret_tmp (by rfl) (by rfl) (by rfl) ⟨?_, hw2.below⟩)
  rfl
set_option maxRecDepth 100000 in
set_option maxHeartbeats 4000000 in
theorem k1_ont (p : Pt Fp) (v : World) (hG : Glo v) (hz : p ≠ 0) (he : p.y * p.y = p.x * p.x * p.x + Fp.n 4) : Rets 67 #[.agg (cg1 p)] v (.bool true) := by
  obtain ⟨k0, hk0⟩ : ∃ k : Fp, k = Fp.n 4 := ⟨_, rfl⟩
  refine calls_fr1 Tryd.func67 rfl (by rfl : _ = 20) (by rfl) ?_
  have hw := Hbl.nil v
  refine seq_plain hw [0, 1] (by rfl) ?_
  refine L_box (.agg (cg1 (p))) (by rfl) (by rfl) (by rfl) (cg1 (p)) (by rfl) ?_; intro g1
  refine lv (.bool false) (h := ?_)
  refine L_end ?_
  intro w1 hw1
  refine seq_flow (by kernel_rfl) hw1 [] [(g1, 57, (cg1 (p)))] 18 (by rfl) ?_
  refine fT (i := 0) (g := (gL g1 57 (cg1 (p)) 0 Tryd.underlying57 (hi_g1 _))) (h := ?_)
  refine fT (i := 1) (u := (.agg (cg1 (0 : Pt Fp)))) (g := (gb_g1 [] trivial (by rfl) (cg1 (0 : Pt Fp)) (by rfl))) (h := ?_)
  refine fT (i := 2) (u := (.bool false)) (g := (gives_eql (cg1 (p)) (cg1 (0 : Pt Fp)) false (by rfl) (by rfl) (by kernel_rfl) (fun w => eq_g1_f (d := 9996) w hz))) (h := ?_)
  refine fV (i := 3) (u := (.bool false)) (h := ?_)
  refine fG (i := 4) (dj := 6) (u := (.pointer (some ⟨g1, 6, none⟩))) (g := gk) (h := ?_)
  refine fG (i := 5) (dj := 6) (g := (gives_load g1 6 57 (cg1 (p)) (pc ((p).y)) _ (by rfl) (fun _ h => h.blk 0 (by rfl)) (sl_g1y (p) _ _ 6 (Sl.refl _) (by rfl)) Tryd.underlying35 (by rfl) (hi_1 _))) (h := ?_)
  refine fG (i := 6) (dj := 6) (g := (gives_call (vl := [.agg (pc ((p).y))]) (by kernel_rfl) (by rfl) (fun w h => v_square _ w (hG.keep h.below)))) (h := ?_)
  refine fG (i := 7) (dj := 6) (u := (.pointer (some ⟨g1, 0, none⟩))) (g := gk) (h := ?_)
  refine fG (i := 8) (dj := 6) (g := (gives_load g1 0 57 (cg1 (p)) (pc ((p).x)) _ (by rfl) (fun _ h => h.blk 0 (by rfl)) (sl_g1x (p) _ _ (Sl.refl _)) Tryd.underlying35 (by rfl) (hi_1 _))) (h := ?_)
  refine fG (i := 9) (dj := 6) (g := (gives_call (vl := [.agg (pc ((p).x))]) (by kernel_rfl) (by rfl) (fun w h => v_square _ w (hG.keep h.below)))) (h := ?_)
  refine fG (i := 10) (dj := 6) (u := (.pointer (some ⟨g1, 0, none⟩))) (g := gk) (h := ?_)
  refine fG (i := 11) (dj := 6) (g := (gives_load g1 0 57 (cg1 (p)) (pc ((p).x)) _ (by rfl) (fun _ h => h.blk 0 (by rfl)) (sl_g1x (p) _ _ (Sl.refl _)) Tryd.underlying35 (by rfl) (hi_1 _))) (h := ?_)
  refine fG (i := 12) (dj := 6) (g := (gives_call (vl := [.agg (pc (((p).x) * ((p).x))), .agg (pc ((p).x))]) (by kernel_rfl) (by rfl) (fun w h => v_mul _ _ w (hG.keep h.below)))) (h := ?_)
  refine fG (i := 13) (dj := 6) (u := (.agg (pc (k0)))) (g := (gives_call (vl := [.int .u64 4]) (by kernel_rfl) (by rfl) (fun w h => by rw [hk0]; exact v_of 4 w (hG.keep h.below) (by omega) (by simp only [Wd]; omega)))) (h := ?_)
  refine fG (i := 14) (dj := 6) (g := (gives_call (vl := [.agg (pc ((((p).x) * ((p).x)) * ((p).x))), .agg (pc (k0))]) (by kernel_rfl) (by rfl) (fun w h => v_add _ _ w (hG.keep h.below)))) (h := ?_)
  refine fG (i := 15) (dj := 6) (u := (.bool true)) (g := (gives_eql (pc (((p).y) * ((p).y))) (pc (((((p).x) * ((p).x)) * ((p).x)) + (k0))) true (by rfl) (by rfl) (by kernel_rfl) (fun w => eq_1_t (d := 9997) w (by rw [hk0]; exact he)))) (h := ?_)
  refine fV (i := 16) (u := (.bool true)) (h := ?_)
  refine fV (i := 17) (u := (.bool true)) (h := ?_)
  refine flow_done (by kernel_rfl) ?_
  intro w2 hw2
  refine wp_ret ?_
  change bodyPost _ _ _ Exit.ret _ _
  refine (ret_tmp (by rfl) (by rfl) (by rfl) ⟨?_, hw2.below⟩)
  rfl
set_option maxRecDepth 100000 in
set_option maxHeartbeats 4000000 in
theorem k1_onf (p : Pt Fp) (v : World) (hG : Glo v) (hz : p ≠ 0) (he : ¬ p.y * p.y = p.x * p.x * p.x + Fp.n 4) : Rets 67 #[.agg (cg1 p)] v (.bool false) := by
  obtain ⟨k0, hk0⟩ : ∃ k : Fp, k = Fp.n 4 := ⟨_, rfl⟩
  refine calls_fr1 Tryd.func67 rfl (by rfl : _ = 20) (by rfl) ?_
  have hw := Hbl.nil v
  refine seq_plain hw [0, 1] (by rfl) ?_
  refine L_box (.agg (cg1 (p))) (by rfl) (by rfl) (by rfl) (cg1 (p)) (by rfl) ?_; intro g1
  refine lv (.bool false) (h := ?_)
  refine L_end ?_
  intro w1 hw1
  refine seq_flow (by kernel_rfl) hw1 [] [(g1, 57, (cg1 (p)))] 18 (by rfl) ?_
  refine fT (i := 0) (g := (gL g1 57 (cg1 (p)) 0 Tryd.underlying57 (hi_g1 _))) (h := ?_)
  refine fT (i := 1) (u := (.agg (cg1 (0 : Pt Fp)))) (g := (gb_g1 [] trivial (by rfl) (cg1 (0 : Pt Fp)) (by rfl))) (h := ?_)
  refine fT (i := 2) (u := (.bool false)) (g := (gives_eql (cg1 (p)) (cg1 (0 : Pt Fp)) false (by rfl) (by rfl) (by kernel_rfl) (fun w => eq_g1_f (d := 9996) w hz))) (h := ?_)
  refine fV (i := 3) (u := (.bool false)) (h := ?_)
  refine fG (i := 4) (dj := 6) (u := (.pointer (some ⟨g1, 6, none⟩))) (g := gk) (h := ?_)
  refine fG (i := 5) (dj := 6) (g := (gives_load g1 6 57 (cg1 (p)) (pc ((p).y)) _ (by rfl) (fun _ h => h.blk 0 (by rfl)) (sl_g1y (p) _ _ 6 (Sl.refl _) (by rfl)) Tryd.underlying35 (by rfl) (hi_1 _))) (h := ?_)
  refine fG (i := 6) (dj := 6) (g := (gives_call (vl := [.agg (pc ((p).y))]) (by kernel_rfl) (by rfl) (fun w h => v_square _ w (hG.keep h.below)))) (h := ?_)
  refine fG (i := 7) (dj := 6) (u := (.pointer (some ⟨g1, 0, none⟩))) (g := gk) (h := ?_)
  refine fG (i := 8) (dj := 6) (g := (gives_load g1 0 57 (cg1 (p)) (pc ((p).x)) _ (by rfl) (fun _ h => h.blk 0 (by rfl)) (sl_g1x (p) _ _ (Sl.refl _)) Tryd.underlying35 (by rfl) (hi_1 _))) (h := ?_)
  refine fG (i := 9) (dj := 6) (g := (gives_call (vl := [.agg (pc ((p).x))]) (by kernel_rfl) (by rfl) (fun w h => v_square _ w (hG.keep h.below)))) (h := ?_)
  refine fG (i := 10) (dj := 6) (u := (.pointer (some ⟨g1, 0, none⟩))) (g := gk) (h := ?_)
  refine fG (i := 11) (dj := 6) (g := (gives_load g1 0 57 (cg1 (p)) (pc ((p).x)) _ (by rfl) (fun _ h => h.blk 0 (by rfl)) (sl_g1x (p) _ _ (Sl.refl _)) Tryd.underlying35 (by rfl) (hi_1 _))) (h := ?_)
  refine fG (i := 12) (dj := 6) (g := (gives_call (vl := [.agg (pc (((p).x) * ((p).x))), .agg (pc ((p).x))]) (by kernel_rfl) (by rfl) (fun w h => v_mul _ _ w (hG.keep h.below)))) (h := ?_)
  refine fG (i := 13) (dj := 6) (u := (.agg (pc (k0)))) (g := (gives_call (vl := [.int .u64 4]) (by kernel_rfl) (by rfl) (fun w h => by rw [hk0]; exact v_of 4 w (hG.keep h.below) (by omega) (by simp only [Wd]; omega)))) (h := ?_)
  refine fG (i := 14) (dj := 6) (g := (gives_call (vl := [.agg (pc ((((p).x) * ((p).x)) * ((p).x))), .agg (pc (k0))]) (by kernel_rfl) (by rfl) (fun w h => v_add _ _ w (hG.keep h.below)))) (h := ?_)
  refine fG (i := 15) (dj := 6) (u := (.bool false)) (g := (gives_eql (pc (((p).y) * ((p).y))) (pc (((((p).x) * ((p).x)) * ((p).x)) + (k0))) false (by rfl) (by rfl) (by kernel_rfl) (fun w => eq_1_f (d := 9997) w (by rw [hk0]; exact he)))) (h := ?_)
  refine fV (i := 16) (u := (.bool false)) (h := ?_)
  refine fV (i := 17) (u := (.bool false)) (h := ?_)
  refine flow_done (by kernel_rfl) ?_
  intro w2 hw2
  refine wp_ret ?_
  change bodyPost _ _ _ Exit.ret _ _
  refine (ret_tmp (by rfl) (by rfl) (by rfl) ⟨?_, hw2.below⟩)
  rfl
theorem k1_on (p : Pt Fp) (v : World) (hG : Glo v) : Rets 67 #[.agg (cg1 p)] v (.bool (decide (OnC (Fp.n 4) p))) := by
  by_cases hz : p = 0
  · rw [decide_eq_true (p := OnC (Fp.n 4) p) (Or.inl hz)]
    exact k1_onz p v hG hz
  · by_cases he : p.y * p.y = p.x * p.x * p.x + Fp.n 4
    · rw [decide_eq_true (p := OnC (Fp.n 4) p) (Or.inr he)]
      exact k1_ont p v hG hz he
    · rw [decide_eq_false (p := OnC (Fp.n 4) p) (fun h => h.elim hz he)]
      exact k1_onf p v hG hz he
theorem k1_on_t (p : Pt Fp) (v : World) (hG : Glo v) (h : OnC (Fp.n 4) p) : Rets 67 #[.agg (cg1 p)] v (.bool true) := by
  have := k1_on p v hG
  rwa [decide_eq_true h] at this
set_option maxRecDepth 100000 in
set_option maxHeartbeats 4000000 in
theorem k1_gen  (v : World) (hG : Glo v) : Rets 28 #[] v (.agg (cg1 gen1)) := by
  obtain ⟨k0, hk0⟩ : ∃ k : Fp, k = Fp.n 3685416753713387016781088315183077757961620795782546409894578378688607592378376318836054947676345821548104185464507 := ⟨_, rfl⟩
  obtain ⟨k1, hk1⟩ : ∃ k : Fp, k = Fp.n 1339506544944476473020471379941921221584933875938349620426543736416511423956333506472724655353366534992391756441569 := ⟨_, rfl⟩
  refine calls_fr0 Tryd.func28 rfl (by rfl : _ = 19) ?_
  have hw := Hbl.nil v
  refine seq_plain hw [0] (by rfl) ?_
  refine L_alloc _ (by rfl) (by rfl) z_g1 (cg1 (0 : Pt Fp)) rfl ?_; intro g1
  refine L_end ?_
  intro w1 hw1
  refine seq_plain hw1 [0, 1, 2] (by rfl) ?_
  refine L_val (.agg (b48c ((k0.val : Int)))) (by rfl) (by rfl) (by rw [hk0]; exact gives_value _ fun w => by kernel_rfl) ?_
  refine L_alloc _ (by rfl) (by rfl) z_b48 (b48c (0 : Int)) rfl ?_; intro g2
  refine L_store (t := 31) 0 g2 _ _ (by rfl) (by rfl) (by rfl) (by rfl) (by rfl) (hi_b48 _) ((b48c_size _).trans (b48c_size _).symm) (b48c_one _) ?_
  simp only [List.set_cons_zero, List.set_cons_succ]
  refine L_end ?_
  intro w2 hw2
  refine seq_plain hw2 [0, 1, 2] (by rfl) ?_
  refine L_val (.agg (b48c ((k1.val : Int)))) (by rfl) (by rfl) (by rw [hk1]; exact gives_value _ fun w => by kernel_rfl) ?_
  refine L_alloc _ (by rfl) (by rfl) z_b48 (b48c (0 : Int)) rfl ?_; intro g3
  refine L_store (t := 31) 0 g3 _ _ (by rfl) (by rfl) (by rfl) (by rfl) (by rfl) (hi_b48 _) ((b48c_size _).trans (b48c_size _).symm) (b48c_one _) ?_
  simp only [List.set_cons_zero, List.set_cons_succ]
  refine L_end ?_
  intro w3 hw3
  refine seq_plain hw3 [0] (by rfl) ?_
  refine L_alloc _ (by rfl) (by rfl) z_g1 (cg1 (0 : Pt Fp)) rfl ?_; intro g4
  refine L_end ?_
  intro w4 hw4
  refine seq_plain hw4 [0, 1, 2, 3, 4, 5, 6] (by rfl) ?_
  refine L_val (.slice (some ⟨g2, 0, none⟩) 48 48) (by rfl) (by rfl) (gives_slice_arr g2 48 1 (by rfl) und_b48 u8_sz) ?_
  refine L_val (.tuple #[.agg (pc (k0)), .int .i64 0]) (by rfl) (by rfl) (gives_call (vl := [.slice (some ⟨g2, 0, none⟩) 48 48]) (by kernel_rfl) (by rfl) (fun w h => read4 k0 _ 48 w (hG.keep h.below) (copy_reads (h.blk 2 (by rfl)) (lo_len _ _)) (by omega))) ?_
  refine lv (.tuple #[.agg (pc (k0)), .int .i64 0]) (h := ?_)
  refine L_val (.agg (pc (k0))) (by rfl) (by rfl) gk ?_
  refine L_val (.int .i64 0) (by rfl) (by rfl) gk ?_
  refine L_val (.pointer (some ⟨g4, 0, none⟩)) (by rfl) (by rfl) gk ?_
  refine L_storeA (t := 57) 0 g4 0 (cg1 (0 : Pt Fp)) (pc (k0)) (cg1 ((⟨k0, (0 : Pt Fp).y⟩ : Pt Fp))) (by rfl) (by rfl) (by rfl) (by rfl) (by rfl) (hi_1 _) (by rw [cg1_size, pc_size]; omega) (pc_one _) (spl_g1x _ _) ?_
  simp only [List.set_cons_zero, List.set_cons_succ]
  refine L_end ?_
  intro w5 hw5
  refine seq_plain hw5 [0, 1, 2, 3, 4, 5, 6] (by rfl) ?_
  refine L_val (.slice (some ⟨g3, 0, none⟩) 48 48) (by rfl) (by rfl) (gives_slice_arr g3 48 1 (by rfl) und_b48 u8_sz) ?_
  refine L_val (.tuple #[.agg (pc (k1)), .int .i64 0]) (by rfl) (by rfl) (gives_call (vl := [.slice (some ⟨g3, 0, none⟩) 48 48]) (by kernel_rfl) (by rfl) (fun w h => read4 k1 _ 48 w (hG.keep h.below) (copy_reads (h.blk 1 (by rfl)) (lo_len _ _)) (by omega))) ?_
  refine lv (.tuple #[.agg (pc (k1)), .int .i64 0]) (h := ?_)
  refine L_val (.agg (pc (k1))) (by rfl) (by rfl) gk ?_
  refine L_val (.int .i64 0) (by rfl) (by rfl) gk ?_
  refine L_val (.pointer (some ⟨g4, 6, none⟩)) (by rfl) (by rfl) gk ?_
  refine L_storeA (t := 57) 0 g4 6 (cg1 ((⟨k0, (0 : Pt Fp).y⟩ : Pt Fp))) (pc (k1)) (cg1 ((⟨((⟨k0, (0 : Pt Fp).y⟩ : Pt Fp)).x, k1⟩ : Pt Fp))) (by rfl) (by rfl) (by rfl) (by rfl) (by rfl) (hi_1 _) (by rw [cg1_size, pc_size]; omega) (pc_one _) (spl_g1y _ _) ?_
  simp only [List.set_cons_zero, List.set_cons_succ]
  refine L_end ?_
  intro w6 hw6
  refine seq_plain hw6 [0, 1] (by rfl) ?_
  refine L_val (.agg (cg1 ((⟨((⟨k0, (0 : Pt Fp).y⟩ : Pt Fp)).x, k1⟩ : Pt Fp)))) (by rfl) (by rfl) (gL g4 57 (cg1 ((⟨((⟨k0, (0 : Pt Fp).y⟩ : Pt Fp)).x, k1⟩ : Pt Fp))) 0 Tryd.underlying57 (hi_g1 _)) ?_
  refine L_store (t := 57) 3 g1 _ _ (by rfl) (by rfl) (by rfl) (by rfl) (by rfl) (hi_g1 _) ((cg1_size _).trans (cg1_size _).symm) (cg1_one _) ?_
  simp only [List.set_cons_zero, List.set_cons_succ]
  refine L_end ?_
  intro w7 hw7
  refine wp_ret ?_
  change bodyPost _ _ _ Exit.ret _ _
  refine (ret_cell (by rfl) (by rfl) (by rfl) (hw7.blk 3 (by rfl)) Tryd.underlying57 (by rfl) (hi_g1 _) ⟨?_, hw7.below⟩)
  rw [gen1, hk0, hk1]
end Go.Proofs.YtialfoccalobpaaDoor
