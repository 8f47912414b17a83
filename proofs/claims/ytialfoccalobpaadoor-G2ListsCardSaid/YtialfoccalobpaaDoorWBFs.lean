/-
  fp2: roots, signs.
-/
import Derived.Test.YtialfoccalobpaaDoorWBFb
namespace Go.Proofs.YtialfoccalobpaaDoor
set_option linter.unusedSimpArgs false
set_option linter.unusedVariables false
open Go.RowKit
attribute [local irreducible] wpL wpF fr Code.wp bodyPost
theorem v_zero_t {x : Fp} (w : World) (hG : Glo w) (h : x = 0) : Rets 135 #[.agg (pc x)] w (.bool true) := by
  have := v_zero x w hG
  rwa [decide_eq_true h] at this
theorem v_zero_f {x : Fp} (w : World) (hG : Glo w) (h : x ≠ 0) : Rets 135 #[.agg (pc x)] w (.bool false) := by
  have := v_zero x w hG
  rwa [decide_eq_false h] at this
theorem q_zero_t {x : F2} (w : World) (hG : Glo w) (h : x = 0) : Rets 180 #[.agg (c2 x)] w (.bool true) := by
  have := q_zero x w hG
  rwa [decide_eq_true h] at this
theorem q_zero_f {x : F2} (w : World) (hG : Glo w) (h : x ≠ 0) : Rets 180 #[.agg (c2 x)] w (.bool false) := by
  have := q_zero x w hG
  rwa [decide_eq_false h] at this
/-- A root of a number of the field beneath. -/
def F2.rootOf (k : Fp) : F2 := if k.rt * k.rt = k then ⟨k.rt, 0⟩ else ⟨0, (-k).rt⟩
theorem F2.rootOf_sq (k : Fp) : F2.rootOf k * F2.rootOf k = F2.of k := by
  unfold F2.rootOf
  by_cases h : k.rt * k.rt = k
  · rw [if_pos h]
    apply F2.same <;> simp only [F2.mul_a, F2.mul_b, F2.of_a, F2.of_b, Fp.mz, Fp.zm, Fp.za]
    rw [h]; grind
  · rw [if_neg h]
    have hk : k ≠ 0 := by rintro rfl; exact h Fp.sq_zero
    have h2 : (-k).rt * (-k).rt = -k := (Fp.sq_neg hk).2 h
    apply F2.same <;> simp only [F2.mul_a, F2.mul_b, F2.of_a, F2.of_b, Fp.mz, Fp.zm, Fp.za]
    rw [h2]; grind
/-- A root, if there is one: one that B isn't 0. -/
def F2.up1 (x : F2) : F2 := x + F2.of x.norm.rt
def F2.up2 (x : F2) : F2 := x - F2.of x.norm.rt
def F2.rt (x : F2) : F2 :=
  if x.b = 0 then F2.rootOf x.a
  else if (x.up1.a + x.up1.a).rt * (x.up1.a + x.up1.a).rt = x.up1.a + x.up1.a then x.up1.scale (x.up1.a + x.up1.a).rt.inv
  else x.up2.scale (x.up2.a + x.up2.a).rt.inv
theorem Fp.two {x : Fp} (h : x + x = 0) : x = 0 := by
  have h1 : (1 + 1) * x = 0 := by rw [Fp.cr.add_mul, Fp.cr.one_mul]; exact h
  rcases Fp.prime h1 with h2 | h2
  · exact absurd h2 (by decide +kernel)
  · exact h2
theorem F2.root_ids {x : F2} (hb : x.b ≠ 0) (hn : x.norm.sq) :
    (x.up1.a + x.up1.a) * (x.up2.a + x.up2.a) = -((x.b + x.b) * (x.b + x.b)) ∧ x.up1 * x.up1 = x.scale (x.up1.a + x.up1.a) ∧ x.up2 * x.up2 = x.scale (x.up2.a + x.up2.a) ∧ x.up1.a + x.up1.a ≠ 0 ∧ x.up2.a + x.up2.a ≠ 0 := by
  have hs : x.norm.rt * x.norm.rt = x.a * x.a + x.b * x.b := hn
  have hbb : x.b * x.b ≠ 0 := fun e => by rcases Fp.prime e with e | e <;> exact hb e
  unfold F2.up1 F2.up2
  generalize x.norm.rt = s at hs
  simp only [F2.add_a, F2.sub_a, F2.of_a]
  refine ⟨by grind, ?_, ?_, fun e => ?_, fun e => ?_⟩
  · apply F2.same <;> simp only [F2.mul_a, F2.mul_b, F2.add_a, F2.add_b, F2.of_a, F2.of_b, F2.scale, Fp.cr.add_zero] <;> grind
  · apply F2.same <;> simp only [F2.mul_a, F2.mul_b, F2.sub_a, F2.sub_b, F2.of_a, F2.of_b, F2.scale] <;> grind
  · have h1 := Fp.two e
    have h2 : s = -x.a := by grind
    rw [h2] at hs
    exact hbb (by grind)
  · have h1 := Fp.two e
    have h2 : s = x.a := by grind
    rw [h2] at hs
    exact hbb (by grind)
theorem F2.root_of {x u : F2} {d : Fp} (hu : u * u = x.scale d) (hd : d ≠ 0) (hr : d.rt * d.rt = d) : u.scale d.rt.inv * u.scale d.rt.inv = x := by
  have hr0 : d.rt ≠ 0 := fun e => hd (by rw [← hr, e, Fp.mz])
  have hi := Fp.inv_mul hr0
  generalize d.rt.inv = k at hi
  generalize d.rt = r at hr hi
  have ha := congrArg F2.a hu
  have hb := congrArg F2.b hu
  simp only [F2.mul_a, F2.mul_b, F2.scale] at ha hb
  subst hr
  apply F2.same <;> simp only [F2.mul_a, F2.mul_b, F2.scale]
  · have : (r * k) * (r * k) = 1 := by rw [hi, Fp.cr.mul_one]
    grind
  · have : (r * k) * (r * k) = 1 := by rw [hi, Fp.cr.mul_one]
    grind
theorem F2.other {x : F2} (hb : x.b ≠ 0) (hn : x.norm.sq) (h : ¬ (x.up1.a + x.up1.a).sq) : (x.up2.a + x.up2.a).sq := by
  obtain ⟨h1, _, _, h4, h5⟩ := F2.root_ids hb hn
  have hbb : x.b + x.b ≠ 0 := fun e => hb (Fp.two e)
  have hb2 : (x.b + x.b) * (x.b + x.b) ≠ 0 := fun e => by rcases Fp.prime e with e | e <;> exact hbb e
  have h6 : ¬ ((x.up1.a + x.up1.a) * (x.up2.a + x.up2.a)).sq := by
    rw [h1]
    exact fun e => (Fp.sq_neg hb2).1 e (Fp.sq_sq _)
  rw [Fp.sq_mul h4 h5] at h6
  exact Classical.byContradiction fun h7 => h6 ⟨fun e => absurd e h, fun e => absurd e h7⟩
/-- Has a root. -/
def F2.sq (x : F2) : Prop := ∃ z : F2, z * z = x
theorem F2.norm_mul (x y : F2) : (x * y).norm = x.norm * y.norm := by
  simp only [F2.norm, F2.mul_a, F2.mul_b]
  grind
theorem F2.sq_iff (x : F2) : x.sq ↔ x.norm.sq := by
  constructor
  · rintro ⟨z, rfl⟩
    rw [F2.norm_mul]
    exact Fp.sq_sq _
  · intro hn
    by_cases hb : x.b = 0
    · exact ⟨F2.rootOf x.a, (F2.rootOf_sq _).trans (F2.same rfl hb.symm)⟩
    · obtain ⟨_, h2, h3, h4, h5⟩ := F2.root_ids hb hn
      by_cases hd : (x.up1.a + x.up1.a).sq
      · exact ⟨_, F2.root_of h2 h4 hd⟩
      · exact ⟨_, F2.root_of h3 h5 (F2.other hb hn hd)⟩
/-- Odd; greater than its negative. -/
def F2.odd (x : F2) : Bool := if x.a = 0 then decide (x.b.val % 2 = 1) else decide (x.a.val % 2 = 1)
set_option maxRecDepth 100000 in
set_option maxHeartbeats 4000000 in
theorem q_odd_z (x : F2) (v : World) (hG : Glo v) (hz : x.a = 0) : Rets 82 #[.agg (c2 (x))] v (.bool x.odd) := by
  refine calls_fr1 Tryd.func82 rfl (by rfl : _ = 12) (by rfl) ?_
  have hw := Hbl.nil v
  refine seq_plain hw [0, 1] (by rfl) ?_
  refine L_box (.agg (c2 (x))) (by rfl) (by rfl) (by rfl) (c2 (x)) (by rfl) ?_; intro g1
  refine lv (.bool false) (h := ?_)
  refine L_end ?_
  intro w1 hw1
  refine wp_seq ?_
  refine seq_plain hw1 [0, 1, 2] (by rfl) ?_
  refine L_val (.pointer (some ⟨g1, 0, none⟩)) (by rfl) (by rfl) gk ?_
  refine L_val (.agg (pc ((x).a))) (by rfl) (by rfl) (gives_load g1 0 37 (c2 (x)) (pc ((x).a)) _ (by rfl) (fun _ h => h.blk 0 (by rfl)) (sl_2a (x) _ _ (Sl.refl _)) Tryd.underlying35 (by rfl) (hi_1 _)) ?_
  refine L_val (.bool true) (by rfl) (by rfl) (gives_call (vl := [.agg (pc ((x).a))]) (by kernel_rfl) (by rfl) (fun w h => v_zero_t w (hG.keep h.below) hz)) ?_
  refine L_end ?_
  intro w2 hw2
  refine wp_cond_true (fr_at _ _ (by rfl) _) ?_
  refine seq_plain hw2 [0, 1, 2, 3] (by rfl) ?_
  refine L_val (.pointer (some ⟨g1, 6, none⟩)) (by rfl) (by rfl) gk ?_
  refine L_val (.agg (pc ((x).b))) (by rfl) (by rfl) (gives_load g1 6 37 (c2 (x)) (pc ((x).b)) _ (by rfl) (fun _ h => h.blk 0 (by rfl)) (sl_2b (x) _ _ 6 (Sl.refl _) (by rfl)) Tryd.underlying35 (by rfl) (hi_1 _)) ?_
  refine L_val (.bool (decide (((x).b).val % 2 = 1))) (by rfl) (by rfl) (gives_call (vl := [.agg (pc ((x).b))]) (by kernel_rfl) (by rfl) (fun w h => v_odd _ w (hG.keep h.below))) ?_
  refine lv (.bool (decide (((x).b).val % 2 = 1))) (h := ?_)
  refine L_end ?_
  intro w3 hw3
  refine wp_ret ?_
  change bodyPost _ _ _ Exit.ret _ _
  refine (ret_tmp (by rfl) (by rfl) (by rfl) ⟨?_, hw3.below⟩)
  simp only [F2.odd, if_pos hz]
  rfl
set_option maxRecDepth 100000 in
set_option maxHeartbeats 4000000 in
theorem q_odd_n (x : F2) (v : World) (hG : Glo v) (hz : x.a ≠ 0) : Rets 82 #[.agg (c2 (x))] v (.bool x.odd) := by
  refine calls_fr1 Tryd.func82 rfl (by rfl : _ = 12) (by rfl) ?_
  have hw := Hbl.nil v
  refine seq_plain hw [0, 1] (by rfl) ?_
  refine L_box (.agg (c2 (x))) (by rfl) (by rfl) (by rfl) (c2 (x)) (by rfl) ?_; intro g1
  refine lv (.bool false) (h := ?_)
  refine L_end ?_
  intro w1 hw1
  refine wp_seq ?_
  refine seq_plain hw1 [0, 1, 2] (by rfl) ?_
  refine L_val (.pointer (some ⟨g1, 0, none⟩)) (by rfl) (by rfl) gk ?_
  refine L_val (.agg (pc ((x).a))) (by rfl) (by rfl) (gives_load g1 0 37 (c2 (x)) (pc ((x).a)) _ (by rfl) (fun _ h => h.blk 0 (by rfl)) (sl_2a (x) _ _ (Sl.refl _)) Tryd.underlying35 (by rfl) (hi_1 _)) ?_
  refine L_val (.bool false) (by rfl) (by rfl) (gives_call (vl := [.agg (pc ((x).a))]) (by kernel_rfl) (by rfl) (fun w h => v_zero_f w (hG.keep h.below) hz)) ?_
  refine L_end ?_
  intro w2 hw2
  refine wp_cond_false (fr_at _ _ (by rfl) _) ?_
  refine wp_skip ?_
  change Code.wp _ _ _ _ _
  refine seq_plain hw2 [0, 1, 2, 3] (by rfl) ?_
  refine L_val (.pointer (some ⟨g1, 0, none⟩)) (by rfl) (by rfl) gk ?_
  refine L_val (.agg (pc ((x).a))) (by rfl) (by rfl) (gives_load g1 0 37 (c2 (x)) (pc ((x).a)) _ (by rfl) (fun _ h => h.blk 0 (by rfl)) (sl_2a (x) _ _ (Sl.refl _)) Tryd.underlying35 (by rfl) (hi_1 _)) ?_
  refine L_val (.bool (decide (((x).a).val % 2 = 1))) (by rfl) (by rfl) (gives_call (vl := [.agg (pc ((x).a))]) (by kernel_rfl) (by rfl) (fun w h => v_odd _ w (hG.keep h.below))) ?_
  refine lv (.bool (decide (((x).a).val % 2 = 1))) (h := ?_)
  refine L_end ?_
  intro w3 hw3
  refine wp_ret ?_
  change bodyPost _ _ _ Exit.ret _ _
  refine (ret_tmp (by rfl) (by rfl) (by rfl) ⟨?_, hw3.below⟩)
  simp only [F2.odd, if_neg hz]
  rfl
theorem q_odd (x : F2) (v : World) (hG : Glo v) : Rets 82 #[.agg (c2 x)] v (.bool x.odd) := by
  by_cases hz : x.a = 0
  · exact q_odd_z x v hG hz
  · exact q_odd_n x v hG hz
end Go.Proofs.YtialfoccalobpaaDoor
