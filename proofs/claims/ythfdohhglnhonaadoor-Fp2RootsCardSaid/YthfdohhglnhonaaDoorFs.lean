/-
  fp2: roots, signs.
-/
import Derived.Test.YthfdohhglnhonaaDoorFb
namespace Go.Proofs.YthfdohhglnhonaaDoor
set_option linter.unusedSimpArgs false
set_option linter.unusedVariables false
open Go.RowKit
attribute [local irreducible] wpL wpF fr Code.wp bodyPost
theorem v_zero_t {x : Fp} (w : World) (hG : Glo w) (h : x = 0) : Rets 48 #[.agg (pc x)] w (.bool true) := by
  have := v_zero x w hG
  rwa [decide_eq_true h] at this
theorem v_zero_f {x : Fp} (w : World) (hG : Glo w) (h : x ≠ 0) : Rets 48 #[.agg (pc x)] w (.bool false) := by
  have := v_zero x w hG
  rwa [decide_eq_false h] at this
theorem q_zero_t {x : F2} (w : World) (hG : Glo w) (h : x = 0) : Rets 13 #[.agg (c2 x)] w (.bool true) := by
  have := q_zero x w hG
  rwa [decide_eq_true h] at this
theorem q_zero_f {x : F2} (w : World) (hG : Glo w) (h : x ≠ 0) : Rets 13 #[.agg (c2 x)] w (.bool false) := by
  have := q_zero x w hG
  rwa [decide_eq_false h] at this
set_option maxRecDepth 100000 in
set_option maxHeartbeats 4000000 in
theorem q_rootOf_yes (k : Fp) (v : World) (hG : Glo v) (hQ : GQp v) (h1 : k.sq) : Rets 65 #[.agg (pc (k))] v (.agg (c2 (⟨k.rt, 0⟩ : F2))) := by
  refine calls_fr1 Tryd.func65 rfl (by rfl : _ = 23) (by rfl) ?_
  have hw := Hbl.nil v
  refine seq_plain hw [0, 1] (by rfl) ?_
  refine L_box (.agg (pc (k))) (by rfl) (by rfl) (by rfl) (pc (k)) (by rfl) ?_; intro g1
  refine L_alloc _ (by rfl) (by rfl) z_2 (c2 (0 : F2)) rfl ?_; intro g2
  refine L_end ?_
  intro w1 hw1
  refine wp_seq ?_
  refine seq_plain hw1 [0, 1, 2, 3, 4, 5, 6, 7] (by rfl) ?_
  refine L_val (.agg (pc (k))) (by rfl) (by rfl) (gives_load g1 0 28 (pc (k)) (pc (k)) _ (by rfl) (fun _ h => h.blk 1 (by rfl)) (Sl.refl _) Tryd.underlying28 (by rfl) (hi_1 _)) ?_
  refine L_val (.tuple #[.agg (pc (Fp.rt (k))), .bool true]) (by rfl) (by rfl) (gives_call (vl := [.agg (pc (k))]) (by kernel_rfl) (by rfl) (fun w h => v_sqrt_yes _ w (hG.keep h.below) (hQ.keep h.below) h1)) ?_
  refine L_val (.tuple #[.agg (pc (Fp.rt (k))), .bool true]) (by rfl) (by rfl) (gives_value _ fun _ => by rfl) ?_
  refine L_val (.agg (pc (Fp.rt (k)))) (by rfl) (by rfl) (gives_value _ fun _ => by kernel_rfl) ?_
  refine L_val (.bool true) (by rfl) (by rfl) (gives_value _ fun _ => by kernel_rfl) ?_
  refine L_alloc _ (by rfl) (by rfl) z_1 (pc (0 : Fp)) rfl ?_; intro g3
  refine L_store (t := 28) 0 g3 (pc (0 : Fp)) (pc (Fp.rt (k))) (by rfl) (by rfl) (by rfl) (by rfl) (by rfl) (hi_1 _) ((pc_size _).trans (pc_size _).symm) (pc_one _) ?_
  simp only [List.set_cons_zero, List.set_cons_succ]
  refine L_val (.bool true) (by rfl) (by rfl) (gives_value _ fun _ => by rfl) ?_
  refine L_end ?_
  intro w2 hw2
  refine seq_plain hw2 [0] (by rfl) ?_
  refine L_val (.bool true) (by rfl) (by rfl) (gives_value _ fun _ => by rfl) ?_
  refine L_end ?_
  intro w3 hw3
  refine wp_cond_true (fr_at _ _ (by rfl) _) ?_
  refine seq_plain hw3 [0, 1, 2] (by rfl) ?_
  refine L_val (.agg (pc (Fp.rt (k)))) (by rfl) (by rfl) (gives_load g3 0 28 (pc (Fp.rt (k))) (pc (Fp.rt (k))) _ (by rfl) (fun _ h => h.blk 0 (by rfl)) (Sl.refl _) Tryd.underlying28 (by rfl) (hi_1 _)) ?_
  refine L_val (.agg (c2 (⟨Fp.rt (k), (0 : Fp)⟩ : F2))) (by rfl) (by rfl) (gb_fp2 [(0, (pc (Fp.rt (k))))] ⟨congrArg some (pc_size _).symm, trivial⟩ (by rfl) (c2 (⟨Fp.rt (k), (0 : Fp)⟩ : F2)) (by rfl)) ?_
  refine L_store (t := 30) 1 g2 (c2 (0 : F2)) (c2 (⟨Fp.rt (k), (0 : Fp)⟩ : F2)) (by rfl) (by rfl) (by rfl) (by rfl) (by rfl) (hi_2 _) ((c2_size _).trans (c2_size _).symm) (c2_one _) ?_
  simp only [List.set_cons_zero, List.set_cons_succ]
  refine L_end ?_
  intro w4 hw4
  refine wp_ret ?_
  change bodyPost _ _ _ Exit.ret _ _
  refine (ret_cell (by rfl) (by rfl) (by rfl) (hw4.blk 1 (by rfl)) Tryd.underlying30 (by rfl) (hi_2 _) ⟨?_, hw4.below⟩)
  exact rfl
set_option maxRecDepth 100000 in
set_option maxHeartbeats 4000000 in
theorem q_rootOf_no (k : Fp) (v : World) (hG : Glo v) (hQ : GQp v) (h1 : ¬ k.sq) (h2 : (-k).sq) : Rets 65 #[.agg (pc (k))] v (.agg (c2 (⟨0, (-k).rt⟩ : F2))) := by
  refine calls_fr1 Tryd.func65 rfl (by rfl : _ = 23) (by rfl) ?_
  have hw := Hbl.nil v
  refine seq_plain hw [0, 1] (by rfl) ?_
  refine L_box (.agg (pc (k))) (by rfl) (by rfl) (by rfl) (pc (k)) (by rfl) ?_; intro g1
  refine L_alloc _ (by rfl) (by rfl) z_2 (c2 (0 : F2)) rfl ?_; intro g2
  refine L_end ?_
  intro w1 hw1
  refine wp_seq ?_
  refine seq_plain hw1 [0, 1, 2, 3, 4, 5, 6, 7] (by rfl) ?_
  refine L_val (.agg (pc (k))) (by rfl) (by rfl) (gives_load g1 0 28 (pc (k)) (pc (k)) _ (by rfl) (fun _ h => h.blk 1 (by rfl)) (Sl.refl _) Tryd.underlying28 (by rfl) (hi_1 _)) ?_
  refine L_val (.tuple #[.agg (pc (0 : Fp)), .bool false]) (by rfl) (by rfl) (gives_call (vl := [.agg (pc (k))]) (by kernel_rfl) (by rfl) (fun w h => v_sqrt_no _ w (hG.keep h.below) (hQ.keep h.below) h1)) ?_
  refine L_val (.tuple #[.agg (pc (0 : Fp)), .bool false]) (by rfl) (by rfl) (gives_value _ fun _ => by rfl) ?_
  refine L_val (.agg (pc (0 : Fp))) (by rfl) (by rfl) (gives_value _ fun _ => by kernel_rfl) ?_
  refine L_val (.bool false) (by rfl) (by rfl) (gives_value _ fun _ => by kernel_rfl) ?_
  refine L_alloc _ (by rfl) (by rfl) z_1 (pc (0 : Fp)) rfl ?_; intro g3
  refine L_store (t := 28) 0 g3 (pc (0 : Fp)) (pc (0 : Fp)) (by rfl) (by rfl) (by rfl) (by rfl) (by rfl) (hi_1 _) ((pc_size _).trans (pc_size _).symm) (pc_one _) ?_
  simp only [List.set_cons_zero, List.set_cons_succ]
  refine L_val (.bool false) (by rfl) (by rfl) (gives_value _ fun _ => by rfl) ?_
  refine L_end ?_
  intro w2 hw2
  refine seq_plain hw2 [0] (by rfl) ?_
  refine L_val (.bool false) (by rfl) (by rfl) (gives_value _ fun _ => by rfl) ?_
  refine L_end ?_
  intro w3 hw3
  refine wp_cond_false (fr_at _ _ (by rfl) _) ?_
  refine wp_skip ?_
  change Code.wp _ _ _ _ _
  refine seq_plain hw3 [0, 1, 2, 3, 4, 5, 6, 7, 8] (by rfl) ?_
  refine L_val (.agg (pc (k))) (by rfl) (by rfl) (gives_load g1 0 28 (pc (k)) (pc (k)) _ (by rfl) (fun _ h => h.blk 2 (by rfl)) (Sl.refl _) Tryd.underlying28 (by rfl) (hi_1 _)) ?_
  refine L_val (.agg (pc (-(k)))) (by rfl) (by rfl) (gives_call (vl := [.agg (pc (k))]) (by kernel_rfl) (by rfl) (fun w h => v_neg _ w (hG.keep h.below))) ?_
  refine L_val (.tuple #[.agg (pc (Fp.rt (-(k)))), .bool true]) (by rfl) (by rfl) (gives_call (vl := [.agg (pc (-(k)))]) (by kernel_rfl) (by rfl) (fun w h => v_sqrt_yes _ w (hG.keep h.below) (hQ.keep h.below) h2)) ?_
  refine L_val (.tuple #[.agg (pc (Fp.rt (-(k)))), .bool true]) (by rfl) (by rfl) (gives_value _ fun _ => by rfl) ?_
  refine L_val (.agg (pc (Fp.rt (-(k))))) (by rfl) (by rfl) (gives_value _ fun _ => by kernel_rfl) ?_
  refine L_val (.bool true) (by rfl) (by rfl) (gives_value _ fun _ => by kernel_rfl) ?_
  refine L_alloc _ (by rfl) (by rfl) z_1 (pc (0 : Fp)) rfl ?_; intro g4
  refine L_store (t := 28) 0 g4 (pc (0 : Fp)) (pc (Fp.rt (-(k)))) (by rfl) (by rfl) (by rfl) (by rfl) (by rfl) (hi_1 _) ((pc_size _).trans (pc_size _).symm) (pc_one _) ?_
  simp only [List.set_cons_zero, List.set_cons_succ]
  refine L_val (.bool true) (by rfl) (by rfl) (gives_value _ fun _ => by rfl) ?_
  refine L_end ?_
  intro w4 hw4
  refine seq_plain hw4 [0, 1, 2] (by rfl) ?_
  refine L_val (.agg (pc (Fp.rt (-(k))))) (by rfl) (by rfl) (gives_load g4 0 28 (pc (Fp.rt (-(k)))) (pc (Fp.rt (-(k)))) _ (by rfl) (fun _ h => h.blk 0 (by rfl)) (Sl.refl _) Tryd.underlying28 (by rfl) (hi_1 _)) ?_
  refine L_val (.agg (c2 (⟨(0 : Fp), Fp.rt (-(k))⟩ : F2))) (by rfl) (by rfl) (gb_fp2 [(1, (pc (Fp.rt (-(k)))))] ⟨congrArg some (pc_size _).symm, trivial⟩ (by rfl) (c2 (⟨(0 : Fp), Fp.rt (-(k))⟩ : F2)) (by rfl)) ?_
  refine L_store (t := 30) 2 g2 (c2 (0 : F2)) (c2 (⟨(0 : Fp), Fp.rt (-(k))⟩ : F2)) (by rfl) (by rfl) (by rfl) (by rfl) (by rfl) (hi_2 _) ((c2_size _).trans (c2_size _).symm) (c2_one _) ?_
  simp only [List.set_cons_zero, List.set_cons_succ]
  refine L_end ?_
  intro w5 hw5
  refine wp_ret ?_
  change bodyPost _ _ _ Exit.ret _ _
  refine (ret_cell (by rfl) (by rfl) (by rfl) (hw5.blk 2 (by rfl)) Tryd.underlying30 (by rfl) (hi_2 _) ⟨?_, hw5.below⟩)
  exact rfl
/-- A root of a number of the field beneath. -/
def F2.rootOf (k : Fp) : F2 := if k.rt * k.rt = k then ⟨k.rt, 0⟩ else ⟨0, (-k).rt⟩
theorem q_rootOf (k : Fp) (v : World) (hG : Glo v) (hQ : GQp v) : Rets 65 #[.agg (pc k)] v (.agg (c2 (F2.rootOf k))) := by
  unfold F2.rootOf
  by_cases h : k.rt * k.rt = k
  · rw [if_pos h]; exact q_rootOf_yes k v hG hQ h
  · rw [if_neg h]
    refine q_rootOf_no k v hG hQ h ((Fp.sq_neg ?_).2 h)
    rintro rfl
    exact h Fp.sq_zero
theorem F2.rootOf_sq (k : Fp) : F2.rootOf k * F2.rootOf k = F2.of k := by
  unfold F2.rootOf
  by_cases h : k.rt * k.rt = k
  · rw [if_pos h]
    apply F2.same <;> simp only [F2.mul_a, F2.mul_b, F2.of_a, F2.of_b, Fp.mz, Fp.zm, Fp.za]
    rw [h]; grind
  · rw [if_neg h]
    have hk : k ≠ 0 := by rintro rfl; exact h Fp.sq_zero
    have h2 : (-k).rt * (-k).rt = -k := (Fp.sq_neg hk).2 h
    apply F2.same <;> simp only [F2.mul_a, F2.mul_b, F2.of_a, F2.of_b, Fp.mz, Fp.zm, Fp.za]
    rw [h2]; grind
/-- A root, if there is one: one that B isn't 0. -/
def F2.up1 (x : F2) : F2 := x + F2.of x.norm.rt
def F2.up2 (x : F2) : F2 := x - F2.of x.norm.rt
def F2.rt (x : F2) : F2 :=
  if x.b = 0 then F2.rootOf x.a
  else if (x.up1.a + x.up1.a).rt * (x.up1.a + x.up1.a).rt = x.up1.a + x.up1.a then x.up1.scale (x.up1.a + x.up1.a).rt.inv
  else x.up2.scale (x.up2.a + x.up2.a).rt.inv
theorem Fp.two {x : Fp} (h : x + x = 0) : x = 0 := by
  have h1 : (1 + 1) * x = 0 := by rw [Fp.cr.add_mul, Fp.cr.one_mul]; exact h
  rcases Fp.prime h1 with h2 | h2
  · exact absurd h2 (by decide +kernel)
  · exact h2
theorem F2.root_ids {x : F2} (hb : x.b ≠ 0) (hn : x.norm.sq) :
    (x.up1.a + x.up1.a) * (x.up2.a + x.up2.a) = -((x.b + x.b) * (x.b + x.b)) ∧ x.up1 * x.up1 = x.scale (x.up1.a + x.up1.a) ∧ x.up2 * x.up2 = x.scale (x.up2.a + x.up2.a) ∧ x.up1.a + x.up1.a ≠ 0 ∧ x.up2.a + x.up2.a ≠ 0 := by
  have hs : x.norm.rt * x.norm.rt = x.a * x.a + x.b * x.b := hn
  have hbb : x.b * x.b ≠ 0 := fun e => by rcases Fp.prime e with e | e <;> exact hb e
  unfold F2.up1 F2.up2
  generalize x.norm.rt = s at hs
  simp only [F2.add_a, F2.sub_a, F2.of_a]
  refine ⟨by grind, ?_, ?_, fun e => ?_, fun e => ?_⟩
  · apply F2.same <;> simp only [F2.mul_a, F2.mul_b, F2.add_a, F2.add_b, F2.of_a, F2.of_b, F2.scale, Fp.cr.add_zero] <;> grind
  · apply F2.same <;> simp only [F2.mul_a, F2.mul_b, F2.sub_a, F2.sub_b, F2.of_a, F2.of_b, F2.scale] <;> grind
  · have h1 := Fp.two e
    have h2 : s = -x.a := by grind
    rw [h2] at hs
    exact hbb (by grind)
  · have h1 := Fp.two e
    have h2 : s = x.a := by grind
    rw [h2] at hs
    exact hbb (by grind)
theorem F2.root_of {x u : F2} {d : Fp} (hu : u * u = x.scale d) (hd : d ≠ 0) (hr : d.rt * d.rt = d) : u.scale d.rt.inv * u.scale d.rt.inv = x := by
  have hr0 : d.rt ≠ 0 := fun e => hd (by rw [← hr, e, Fp.mz])
  have hi := Fp.inv_mul hr0
  generalize d.rt.inv = k at hi
  generalize d.rt = r at hr hi
  have ha := congrArg F2.a hu
  have hb := congrArg F2.b hu
  simp only [F2.mul_a, F2.mul_b, F2.scale] at ha hb
  subst hr
  apply F2.same <;> simp only [F2.mul_a, F2.mul_b, F2.scale]
  · have : (r * k) * (r * k) = 1 := by rw [hi, Fp.cr.mul_one]
    grind
  · have : (r * k) * (r * k) = 1 := by rw [hi, Fp.cr.mul_one]
    grind
theorem F2.other {x : F2} (hb : x.b ≠ 0) (hn : x.norm.sq) (h : ¬ (x.up1.a + x.up1.a).sq) : (x.up2.a + x.up2.a).sq := by
  obtain ⟨h1, _, _, h4, h5⟩ := F2.root_ids hb hn
  have hbb : x.b + x.b ≠ 0 := fun e => hb (Fp.two e)
  have hb2 : (x.b + x.b) * (x.b + x.b) ≠ 0 := fun e => by rcases Fp.prime e with e | e <;> exact hbb e
  have h6 : ¬ ((x.up1.a + x.up1.a) * (x.up2.a + x.up2.a)).sq := by
    rw [h1]
    exact fun e => (Fp.sq_neg hb2).1 e (Fp.sq_sq _)
  rw [Fp.sq_mul h4 h5] at h6
  exact Classical.byContradiction fun h7 => h6 ⟨fun e => absurd e h, fun e => absurd e h7⟩
/-- Has a root. -/
def F2.sq (x : F2) : Prop := ∃ z : F2, z * z = x
theorem F2.norm_mul (x y : F2) : (x * y).norm = x.norm * y.norm := by
  simp only [F2.norm, F2.mul_a, F2.mul_b]
  grind
theorem F2.sq_iff (x : F2) : x.sq ↔ x.norm.sq := by
  constructor
  · rintro ⟨z, rfl⟩
    rw [F2.norm_mul]
    exact Fp.sq_sq _
  · intro hn
    by_cases hb : x.b = 0
    · exact ⟨F2.rootOf x.a, (F2.rootOf_sq _).trans (F2.same rfl hb.symm)⟩
    · obtain ⟨_, h2, h3, h4, h5⟩ := F2.root_ids hb hn
      by_cases hd : (x.up1.a + x.up1.a).sq
      · exact ⟨_, F2.root_of h2 h4 hd⟩
      · exact ⟨_, F2.root_of h3 h5 (F2.other hb hn hd)⟩
theorem F2.rt_ok {x : F2} (h : x.sq) : x.rt * x.rt = x := by
  have hn := (F2.sq_iff x).1 h
  unfold F2.rt
  by_cases hb : x.b = 0
  · rw [if_pos hb]
    exact (F2.rootOf_sq _).trans (F2.same rfl hb.symm)
  · rw [if_neg hb]
    obtain ⟨_, h2, h3, h4, h5⟩ := F2.root_ids hb hn
    by_cases hd : (x.up1.a + x.up1.a).rt * (x.up1.a + x.up1.a).rt = x.up1.a + x.up1.a
    · rw [if_pos hd]; exact F2.root_of h2 h4 hd
    · rw [if_neg hd]; exact F2.root_of h3 h5 (F2.other hb hn hd)
set_option maxRecDepth 100000 in
set_option maxHeartbeats 4000000 in
theorem q_sqrt_low (x : F2) (v : World) (hG : Glo v) (hQ : GQp v) (hb : x.b = 0) : Rets 38 #[.agg (c2 (x))] v (.tuple #[.agg (c2 (F2.rootOf x.a)), .bool true]) := by
  refine calls_fr1 Tryd.func38 rfl (by rfl : _ = 55) (by rfl) ?_
  have hw := Hbl.nil v
  refine seq_plain hw [0, 1, 2] (by rfl) ?_
  refine L_box (.agg (c2 (x))) (by rfl) (by rfl) (by rfl) (c2 (x)) (by rfl) ?_; intro g1
  refine L_alloc _ (by rfl) (by rfl) z_2 (c2 (0 : F2)) rfl ?_; intro g2
  refine L_val (.bool false) (by rfl) (by rfl) (gives_value _ fun _ => by rfl) ?_
  refine L_end ?_
  intro w1 hw1
  refine wp_seq ?_
  refine seq_plain hw1 [0, 1, 2] (by rfl) ?_
  refine L_val (.pointer (some ⟨g1, 6, none⟩)) (by rfl) (by rfl) (gives_value _ fun _ => by kernel_rfl) ?_
  refine L_val (.agg (pc ((x).b))) (by rfl) (by rfl) (gives_load g1 6 30 (c2 (x)) (pc ((x).b)) _ (by rfl) (fun _ h => h.blk 1 (by rfl)) (sl_2b (x) _ _ 6 (Sl.refl _) (by rfl)) Tryd.underlying28 (by rfl) (hi_1 _)) ?_
  refine L_val (.bool true) (by rfl) (by rfl) (gives_call (vl := [.agg (pc ((x).b))]) (by kernel_rfl) (by rfl) (fun w h => v_zero_t w (hG.keep h.below) hb)) ?_
  refine L_end ?_
  intro w2 hw2
  refine wp_cond_true (fr_at _ _ (by rfl) _) ?_
  refine seq_plain hw2 [0, 1, 2, 3, 4] (by rfl) ?_
  refine L_val (.pointer (some ⟨g1, 0, none⟩)) (by rfl) (by rfl) (gives_value _ fun _ => by kernel_rfl) ?_
  refine L_val (.agg (pc ((x).a))) (by rfl) (by rfl) (gives_load g1 0 30 (c2 (x)) (pc ((x).a)) _ (by rfl) (fun _ h => h.blk 1 (by rfl)) (sl_2a (x) _ _ (Sl.refl _)) Tryd.underlying28 (by rfl) (hi_1 _)) ?_
  refine L_val (.agg (c2 (F2.rootOf ((x).a)))) (by rfl) (by rfl) (gives_call (vl := [.agg (pc ((x).a))]) (by kernel_rfl) (by rfl) (fun w h => q_rootOf _ w (hG.keep h.below) (hQ.keep h.below))) ?_
  refine L_store (t := 30) 0 g2 (c2 (0 : F2)) (c2 (F2.rootOf ((x).a))) (by rfl) (by rfl) (by rfl) (by rfl) (by rfl) (hi_2 _) ((c2_size _).trans (c2_size _).symm) (c2_one _) ?_
  simp only [List.set_cons_zero, List.set_cons_succ]
  refine L_val (.bool true) (by rfl) (by rfl) (gives_value _ fun _ => by rfl) ?_
  refine L_end ?_
  intro w3 hw3
  refine wp_ret ?_
  change bodyPost _ _ _ Exit.ret _ _
  refine (ret_cell_tmp (by rfl) (by rfl) (by rfl) (by rfl) (hw3.blk 0 (by rfl)) Tryd.underlying30 (by rfl) (hi_2 _) ⟨?_, hw3.below⟩)
  exact rfl
set_option maxRecDepth 100000 in
set_option maxHeartbeats 4000000 in
theorem q_sqrt_none (x : F2) (v : World) (hG : Glo v) (hQ : GQp v) (hb : x.b ≠ 0) (hn : ¬ x.norm.sq) : Rets 38 #[.agg (c2 (x))] v (.tuple #[.agg (c2 0), .bool false]) := by
  refine calls_fr1 Tryd.func38 rfl (by rfl : _ = 55) (by rfl) ?_
  have hw := Hbl.nil v
  refine seq_plain hw [0, 1, 2] (by rfl) ?_
  refine L_box (.agg (c2 (x))) (by rfl) (by rfl) (by rfl) (c2 (x)) (by rfl) ?_; intro g1
  refine L_alloc _ (by rfl) (by rfl) z_2 (c2 (0 : F2)) rfl ?_; intro g2
  refine L_val (.bool false) (by rfl) (by rfl) (gives_value _ fun _ => by rfl) ?_
  refine L_end ?_
  intro w1 hw1
  refine wp_seq ?_
  refine seq_plain hw1 [0, 1, 2] (by rfl) ?_
  refine L_val (.pointer (some ⟨g1, 6, none⟩)) (by rfl) (by rfl) (gives_value _ fun _ => by kernel_rfl) ?_
  refine L_val (.agg (pc ((x).b))) (by rfl) (by rfl) (gives_load g1 6 30 (c2 (x)) (pc ((x).b)) _ (by rfl) (fun _ h => h.blk 1 (by rfl)) (sl_2b (x) _ _ 6 (Sl.refl _) (by rfl)) Tryd.underlying28 (by rfl) (hi_1 _)) ?_
  refine L_val (.bool false) (by rfl) (by rfl) (gives_call (vl := [.agg (pc ((x).b))]) (by kernel_rfl) (by rfl) (fun w h => v_zero_f w (hG.keep h.below) hb)) ?_
  refine L_end ?_
  intro w2 hw2
  refine wp_cond_false (fr_at _ _ (by rfl) _) ?_
  refine wp_skip ?_
  change Code.wp _ _ _ _ _
  refine seq_plain hw2 [0, 1, 2, 3, 4, 5, 6, 7, 8] (by rfl) ?_
  refine L_val (.agg (c2 (x))) (by rfl) (by rfl) (gives_load g1 0 30 (c2 (x)) (c2 (x)) _ (by rfl) (fun _ h => h.blk 1 (by rfl)) (Sl.refl _) Tryd.underlying30 (by rfl) (hi_2 _)) ?_
  refine L_val (.agg (pc (F2.norm (x)))) (by rfl) (by rfl) (gives_call (vl := [.agg (c2 (x))]) (by kernel_rfl) (by rfl) (fun w h => q_norm _ w (hG.keep h.below))) ?_
  refine L_val (.tuple #[.agg (pc (0 : Fp)), .bool false]) (by rfl) (by rfl) (gives_call (vl := [.agg (pc (F2.norm (x)))]) (by kernel_rfl) (by rfl) (fun w h => v_sqrt_no _ w (hG.keep h.below) (hQ.keep h.below) hn)) ?_
  refine L_val (.tuple #[.agg (pc (0 : Fp)), .bool false]) (by rfl) (by rfl) (gives_value _ fun _ => by rfl) ?_
  refine L_val (.agg (pc (0 : Fp))) (by rfl) (by rfl) (gives_value _ fun _ => by kernel_rfl) ?_
  refine L_val (.bool false) (by rfl) (by rfl) (gives_value _ fun _ => by kernel_rfl) ?_
  refine L_alloc _ (by rfl) (by rfl) z_1 (pc (0 : Fp)) rfl ?_; intro g3
  refine L_store (t := 28) 0 g3 (pc (0 : Fp)) (pc (0 : Fp)) (by rfl) (by rfl) (by rfl) (by rfl) (by rfl) (hi_1 _) ((pc_size _).trans (pc_size _).symm) (pc_one _) ?_
  simp only [List.set_cons_zero, List.set_cons_succ]
  refine L_val (.bool false) (by rfl) (by rfl) (gives_value _ fun _ => by rfl) ?_
  refine L_end ?_
  intro w3 hw3
  refine wp_seq ?_
  refine seq_plain hw3 [0, 1] (by rfl) ?_
  refine L_val (.bool false) (by rfl) (by rfl) (gives_value _ fun _ => by rfl) ?_
  refine L_val (.bool true) (by rfl) (by rfl) (gives_value _ fun _ => by rfl) ?_
  refine L_end ?_
  intro w4 hw4
  refine wp_cond_true (fr_at _ _ (by rfl) _) ?_
  refine seq_plain hw4 [0, 1, 2] (by rfl) ?_
  refine L_val (.agg (c2 (0 : F2))) (by rfl) (by rfl) (gb_fp2 [] trivial (by rfl) (c2 (0 : F2)) (by rfl)) ?_
  refine L_store (t := 30) 1 g2 (c2 (0 : F2)) (c2 (0 : F2)) (by rfl) (by rfl) (by rfl) (by rfl) (by rfl) (hi_2 _) ((c2_size _).trans (c2_size _).symm) (c2_one _) ?_
  simp only [List.set_cons_zero, List.set_cons_succ]
  refine L_val (.bool false) (by rfl) (by rfl) (gives_value _ fun _ => by rfl) ?_
  refine L_end ?_
  intro w5 hw5
  refine wp_ret ?_
  change bodyPost _ _ _ Exit.ret _ _
  refine (ret_cell_tmp (by rfl) (by rfl) (by rfl) (by rfl) (hw5.blk 1 (by rfl)) Tryd.underlying30 (by rfl) (hi_2 _) ⟨?_, hw5.below⟩)
  exact rfl
set_option maxRecDepth 100000 in
set_option maxHeartbeats 4000000 in
theorem q_sqrt_one (x : F2) (v : World) (hG : Glo v) (hQ : GQp v) (hb : x.b ≠ 0) (hn : x.norm.sq) (hd : (x.up1.a + x.up1.a).sq) : Rets 38 #[.agg (c2 (x))] v (.tuple #[.agg (c2 (x.up1.scale (x.up1.a + x.up1.a).rt.inv)), .bool true]) := by
  refine calls_fr1 Tryd.func38 rfl (by rfl : _ = 55) (by rfl) ?_
  have hw := Hbl.nil v
  refine seq_plain hw [0, 1, 2] (by rfl) ?_
  refine L_box (.agg (c2 (x))) (by rfl) (by rfl) (by rfl) (c2 (x)) (by rfl) ?_; intro g1
  refine L_alloc _ (by rfl) (by rfl) z_2 (c2 (0 : F2)) rfl ?_; intro g2
  refine L_val (.bool false) (by rfl) (by rfl) (gives_value _ fun _ => by rfl) ?_
  refine L_end ?_
  intro w1 hw1
  refine wp_seq ?_
  refine seq_plain hw1 [0, 1, 2] (by rfl) ?_
  refine L_val (.pointer (some ⟨g1, 6, none⟩)) (by rfl) (by rfl) (gives_value _ fun _ => by kernel_rfl) ?_
  refine L_val (.agg (pc ((x).b))) (by rfl) (by rfl) (gives_load g1 6 30 (c2 (x)) (pc ((x).b)) _ (by rfl) (fun _ h => h.blk 1 (by rfl)) (sl_2b (x) _ _ 6 (Sl.refl _) (by rfl)) Tryd.underlying28 (by rfl) (hi_1 _)) ?_
  refine L_val (.bool false) (by rfl) (by rfl) (gives_call (vl := [.agg (pc ((x).b))]) (by kernel_rfl) (by rfl) (fun w h => v_zero_f w (hG.keep h.below) hb)) ?_
  refine L_end ?_
  intro w2 hw2
  refine wp_cond_false (fr_at _ _ (by rfl) _) ?_
  refine wp_skip ?_
  change Code.wp _ _ _ _ _
  refine seq_plain hw2 [0, 1, 2, 3, 4, 5, 6, 7, 8] (by rfl) ?_
  refine L_val (.agg (c2 (x))) (by rfl) (by rfl) (gives_load g1 0 30 (c2 (x)) (c2 (x)) _ (by rfl) (fun _ h => h.blk 1 (by rfl)) (Sl.refl _) Tryd.underlying30 (by rfl) (hi_2 _)) ?_
  refine L_val (.agg (pc (F2.norm (x)))) (by rfl) (by rfl) (gives_call (vl := [.agg (c2 (x))]) (by kernel_rfl) (by rfl) (fun w h => q_norm _ w (hG.keep h.below))) ?_
  refine L_val (.tuple #[.agg (pc (Fp.rt (F2.norm (x)))), .bool true]) (by rfl) (by rfl) (gives_call (vl := [.agg (pc (F2.norm (x)))]) (by kernel_rfl) (by rfl) (fun w h => v_sqrt_yes _ w (hG.keep h.below) (hQ.keep h.below) hn)) ?_
  refine L_val (.tuple #[.agg (pc (Fp.rt (F2.norm (x)))), .bool true]) (by rfl) (by rfl) (gives_value _ fun _ => by rfl) ?_
  refine L_val (.agg (pc (Fp.rt (F2.norm (x))))) (by rfl) (by rfl) (gives_value _ fun _ => by kernel_rfl) ?_
  refine L_val (.bool true) (by rfl) (by rfl) (gives_value _ fun _ => by kernel_rfl) ?_
  refine L_alloc _ (by rfl) (by rfl) z_1 (pc (0 : Fp)) rfl ?_; intro g3
  refine L_store (t := 28) 0 g3 (pc (0 : Fp)) (pc (Fp.rt (F2.norm (x)))) (by rfl) (by rfl) (by rfl) (by rfl) (by rfl) (hi_1 _) ((pc_size _).trans (pc_size _).symm) (pc_one _) ?_
  simp only [List.set_cons_zero, List.set_cons_succ]
  refine L_val (.bool true) (by rfl) (by rfl) (gives_value _ fun _ => by rfl) ?_
  refine L_end ?_
  intro w3 hw3
  refine wp_seq ?_
  refine seq_plain hw3 [0, 1] (by rfl) ?_
  refine L_val (.bool true) (by rfl) (by rfl) (gives_value _ fun _ => by rfl) ?_
  refine L_val (.bool false) (by rfl) (by rfl) (gives_value _ fun _ => by rfl) ?_
  refine L_end ?_
  intro w4 hw4
  refine wp_cond_false (fr_at _ _ (by rfl) _) ?_
  refine wp_skip ?_
  change Code.wp _ _ _ _ _
  refine seq_flow (by kernel_rfl) hw4 [] [(g3, 28, (pc (Fp.rt (F2.norm (x))))), (g2, 30, (c2 (0 : F2))), (g1, 30, (c2 (x)))] 6 (by rfl) ?_
  refine flow_take (i := 0) (.agg (c2 (x))) (by rfl) (by kernel_rfl) (by kernel_rfl) (by kernel_rfl) (by rfl) (by kernel_rfl) (List.Sublist.refl _) (gives_load g1 0 30 (c2 (x)) (c2 (x)) _ (by rfl) (fun _ h => h.blk 2 (by rfl)) (Sl.refl _) Tryd.underlying30 (by rfl) (hi_2 _)) ?_
  refine flow_take (i := 1) (.agg (pc (Fp.rt (F2.norm (x))))) (by rfl) (by kernel_rfl) (by kernel_rfl) (by kernel_rfl) (by rfl) (by kernel_rfl) (List.Sublist.refl _) (gives_load g3 0 28 (pc (Fp.rt (F2.norm (x)))) (pc (Fp.rt (F2.norm (x)))) _ (by rfl) (fun _ h => h.blk 0 (by rfl)) (Sl.refl _) Tryd.underlying28 (by rfl) (hi_1 _)) ?_
  refine flow_take (i := 2) (.agg (c2 (F2.of (Fp.rt (F2.norm (x)))))) (by rfl) (by kernel_rfl) (by kernel_rfl) (by kernel_rfl) (by rfl) (by kernel_rfl) (List.Sublist.refl _) (gives_call (vl := [.agg (pc (Fp.rt (F2.norm (x))))]) (by kernel_rfl) (by rfl) (fun w h => q_of _ w (hG.keep h.below))) ?_
  refine flow_take (i := 3) (.agg (c2 ((x) + (F2.of (Fp.rt (F2.norm (x))))))) (by rfl) (by kernel_rfl) (by kernel_rfl) (by kernel_rfl) (by rfl) (by kernel_rfl) (List.Sublist.refl _) (gives_call (vl := [.agg (c2 (x)), .agg (c2 (F2.of (Fp.rt (F2.norm (x)))))]) (by kernel_rfl) (by rfl) (fun w h => q_add _ _ w (hG.keep h.below))) ?_
  refine flow_one 4 (by kernel_rfl) ?_
  refine F_alloc _ (by rfl) (by rfl) z_2 (c2 (0 : F2)) rfl (List.Sublist.refl _) ?_; intro g4
  refine flow_one 5 (by kernel_rfl) ?_
  refine F_store (t := 30) 0 g4 (c2 (0 : F2)) (c2 ((x) + (F2.of (Fp.rt (F2.norm (x)))))) (by rfl) (by rfl) (by rfl) (by rfl) (by rfl) (hi_2 _) ((c2_size _).trans (c2_size _).symm) (c2_one _) (.inr (List.Sublist.cons _ (List.Sublist.refl _))) ?_
  simp only [List.set_cons_zero, List.set_cons_succ]
  refine flow_done (by kernel_rfl) ?_
  intro w5 hw5
  refine seq_plain hw5 [0, 1, 2, 3, 4, 5, 6, 7, 8, 9, 10, 11] (by rfl) ?_
  refine L_val (.pointer (some ⟨g4, 0, none⟩)) (by rfl) (by rfl) (gives_value _ fun _ => by kernel_rfl) ?_
  refine L_val (.agg (pc (((x) + (F2.of (Fp.rt (F2.norm (x))))).a))) (by rfl) (by rfl) (gives_load g4 0 30 (c2 ((x) + (F2.of (Fp.rt (F2.norm (x)))))) (pc (((x) + (F2.of (Fp.rt (F2.norm (x))))).a)) _ (by rfl) (fun _ h => h.blk 0 (by rfl)) (sl_2a ((x) + (F2.of (Fp.rt (F2.norm (x))))) _ _ (Sl.refl _)) Tryd.underlying28 (by rfl) (hi_1 _)) ?_
  refine L_val (.pointer (some ⟨g4, 0, none⟩)) (by rfl) (by rfl) (gives_value _ fun _ => by kernel_rfl) ?_
  refine L_val (.agg (pc (((x) + (F2.of (Fp.rt (F2.norm (x))))).a))) (by rfl) (by rfl) (gives_load g4 0 30 (c2 ((x) + (F2.of (Fp.rt (F2.norm (x)))))) (pc (((x) + (F2.of (Fp.rt (F2.norm (x))))).a)) _ (by rfl) (fun _ h => h.blk 0 (by rfl)) (sl_2a ((x) + (F2.of (Fp.rt (F2.norm (x))))) _ _ (Sl.refl _)) Tryd.underlying28 (by rfl) (hi_1 _)) ?_
  refine L_val (.agg (pc ((((x) + (F2.of (Fp.rt (F2.norm (x))))).a) + (((x) + (F2.of (Fp.rt (F2.norm (x))))).a)))) (by rfl) (by rfl) (gives_call (vl := [.agg (pc (((x) + (F2.of (Fp.rt (F2.norm (x))))).a)), .agg (pc (((x) + (F2.of (Fp.rt (F2.norm (x))))).a))]) (by kernel_rfl) (by rfl) (fun w h => v_add _ _ w (hG.keep h.below))) ?_
  refine L_val (.tuple #[.agg (pc (Fp.rt ((((x) + (F2.of (Fp.rt (F2.norm (x))))).a) + (((x) + (F2.of (Fp.rt (F2.norm (x))))).a)))), .bool true]) (by rfl) (by rfl) (gives_call (vl := [.agg (pc ((((x) + (F2.of (Fp.rt (F2.norm (x))))).a) + (((x) + (F2.of (Fp.rt (F2.norm (x))))).a)))]) (by kernel_rfl) (by rfl) (fun w h => v_sqrt_yes _ w (hG.keep h.below) (hQ.keep h.below) hd)) ?_
  refine L_val (.tuple #[.agg (pc (Fp.rt ((((x) + (F2.of (Fp.rt (F2.norm (x))))).a) + (((x) + (F2.of (Fp.rt (F2.norm (x))))).a)))), .bool true]) (by rfl) (by rfl) (gives_value _ fun _ => by rfl) ?_
  refine L_val (.agg (pc (Fp.rt ((((x) + (F2.of (Fp.rt (F2.norm (x))))).a) + (((x) + (F2.of (Fp.rt (F2.norm (x))))).a))))) (by rfl) (by rfl) (gives_value _ fun _ => by kernel_rfl) ?_
  refine L_val (.bool true) (by rfl) (by rfl) (gives_value _ fun _ => by kernel_rfl) ?_
  refine L_alloc _ (by rfl) (by rfl) z_1 (pc (0 : Fp)) rfl ?_; intro g5
  refine L_store (t := 28) 0 g5 (pc (0 : Fp)) (pc (Fp.rt ((((x) + (F2.of (Fp.rt (F2.norm (x))))).a) + (((x) + (F2.of (Fp.rt (F2.norm (x))))).a)))) (by rfl) (by rfl) (by rfl) (by rfl) (by rfl) (hi_1 _) ((pc_size _).trans (pc_size _).symm) (pc_one _) ?_
  simp only [List.set_cons_zero, List.set_cons_succ]
  refine L_val (.bool true) (by rfl) (by rfl) (gives_value _ fun _ => by rfl) ?_
  refine L_end ?_
  intro w6 hw6
  refine wp_seq ?_
  refine seq_plain hw6 [0, 1] (by rfl) ?_
  refine L_val (.bool true) (by rfl) (by rfl) (gives_value _ fun _ => by rfl) ?_
  refine L_val (.bool false) (by rfl) (by rfl) (gives_value _ fun _ => by rfl) ?_
  refine L_end ?_
  intro w7 hw7
  refine wp_cond_false (fr_at _ _ (by rfl) _) ?_
  refine wp_skip ?_
  change Code.wp _ _ _ _ _
  refine seq_flow (by kernel_rfl) hw7 [] [(g5, 28, (pc (Fp.rt ((((x) + (F2.of (Fp.rt (F2.norm (x))))).a) + (((x) + (F2.of (Fp.rt (F2.norm (x))))).a))))), (g4, 30, (c2 ((x) + (F2.of (Fp.rt (F2.norm (x))))))), (g3, 28, (pc (Fp.rt (F2.norm (x))))), (g1, 30, (c2 (x)))] 6 (by rfl) ?_
  refine flow_take (i := 0) (.agg (c2 ((x) + (F2.of (Fp.rt (F2.norm (x))))))) (by rfl) (by kernel_rfl) (by kernel_rfl) (by kernel_rfl) (by rfl) (by kernel_rfl) (List.Sublist.cons_cons _ (List.Sublist.cons_cons _ (List.Sublist.cons_cons _ (List.Sublist.cons _ (List.Sublist.refl _))))) (gives_load g4 0 30 (c2 ((x) + (F2.of (Fp.rt (F2.norm (x)))))) (c2 ((x) + (F2.of (Fp.rt (F2.norm (x)))))) _ (by rfl) (fun _ h => h.blk 1 (by rfl)) (Sl.refl _) Tryd.underlying30 (by rfl) (hi_2 _)) ?_
  refine flow_take (i := 1) (.agg (pc (Fp.rt ((((x) + (F2.of (Fp.rt (F2.norm (x))))).a) + (((x) + (F2.of (Fp.rt (F2.norm (x))))).a))))) (by rfl) (by kernel_rfl) (by kernel_rfl) (by kernel_rfl) (by rfl) (by kernel_rfl) (List.Sublist.cons_cons _ (List.Sublist.cons_cons _ (List.Sublist.cons_cons _ (List.Sublist.cons _ (List.Sublist.refl _))))) (gives_load g5 0 28 (pc (Fp.rt ((((x) + (F2.of (Fp.rt (F2.norm (x))))).a) + (((x) + (F2.of (Fp.rt (F2.norm (x))))).a)))) (pc (Fp.rt ((((x) + (F2.of (Fp.rt (F2.norm (x))))).a) + (((x) + (F2.of (Fp.rt (F2.norm (x))))).a)))) _ (by rfl) (fun _ h => h.blk 0 (by rfl)) (Sl.refl _) Tryd.underlying28 (by rfl) (hi_1 _)) ?_
  refine flow_take (i := 2) (.agg (pc (Fp.inv (Fp.rt ((((x) + (F2.of (Fp.rt (F2.norm (x))))).a) + (((x) + (F2.of (Fp.rt (F2.norm (x))))).a)))))) (by rfl) (by kernel_rfl) (by kernel_rfl) (by kernel_rfl) (by rfl) (by kernel_rfl) (List.Sublist.cons_cons _ (List.Sublist.cons_cons _ (List.Sublist.cons_cons _ (List.Sublist.cons _ (List.Sublist.refl _))))) (gives_call (vl := [.agg (pc (Fp.rt ((((x) + (F2.of (Fp.rt (F2.norm (x))))).a) + (((x) + (F2.of (Fp.rt (F2.norm (x))))).a))))]) (by kernel_rfl) (by rfl) (fun w h => v_inv _ w (hG.keep h.below))) ?_
  refine flow_take (i := 3) (.agg (c2 (F2.scale ((x) + (F2.of (Fp.rt (F2.norm (x))))) (Fp.inv (Fp.rt ((((x) + (F2.of (Fp.rt (F2.norm (x))))).a) + (((x) + (F2.of (Fp.rt (F2.norm (x))))).a))))))) (by rfl) (by kernel_rfl) (by kernel_rfl) (by kernel_rfl) (by rfl) (by kernel_rfl) (List.Sublist.cons_cons _ (List.Sublist.cons_cons _ (List.Sublist.cons_cons _ (List.Sublist.cons _ (List.Sublist.refl _))))) (gives_call (vl := [.agg (c2 ((x) + (F2.of (Fp.rt (F2.norm (x)))))), .agg (pc (Fp.inv (Fp.rt ((((x) + (F2.of (Fp.rt (F2.norm (x))))).a) + (((x) + (F2.of (Fp.rt (F2.norm (x))))).a)))))]) (by kernel_rfl) (by rfl) (fun w h => q_scale _ _ w (hG.keep h.below))) ?_
  refine flow_one 4 (by kernel_rfl) ?_
  refine F_store (t := 30) 3 g2 (c2 (0 : F2)) (c2 (F2.scale ((x) + (F2.of (Fp.rt (F2.norm (x))))) (Fp.inv (Fp.rt ((((x) + (F2.of (Fp.rt (F2.norm (x))))).a) + (((x) + (F2.of (Fp.rt (F2.norm (x))))).a)))))) (by rfl) (by rfl) (by rfl) (by rfl) (by rfl) (hi_2 _) ((c2_size _).trans (c2_size _).symm) (c2_one _) (.inr (List.Sublist.cons_cons _ (List.Sublist.cons_cons _ (List.Sublist.cons_cons _ (List.Sublist.cons _ (List.Sublist.refl _)))))) ?_
  simp only [List.set_cons_zero, List.set_cons_succ]
  refine flow_take (i := 5) (.bool true) (by rfl) (by kernel_rfl) (by kernel_rfl) (by kernel_rfl) (by rfl) (by kernel_rfl) (List.Sublist.cons_cons _ (List.Sublist.cons_cons _ (List.Sublist.cons_cons _ (List.Sublist.cons _ (List.Sublist.refl _))))) (gives_value _ fun _ => by rfl) ?_
  refine flow_done (by kernel_rfl) ?_
  intro w8 hw8
  refine wp_ret ?_
  change bodyPost _ _ _ Exit.ret _ _
  refine (ret_cell_tmp (by rfl) (by rfl) (by rfl) (by rfl) (hw8.blk 3 (by rfl)) Tryd.underlying30 (by rfl) (hi_2 _) ⟨?_, hw8.below⟩)
  exact rfl
set_option maxRecDepth 100000 in
set_option maxHeartbeats 4000000 in
theorem q_sqrt_two (x : F2) (v : World) (hG : Glo v) (hQ : GQp v) (hb : x.b ≠ 0) (hn : x.norm.sq) (hd : ¬ (x.up1.a + x.up1.a).sq) (he : (x.up2.a + x.up2.a).sq) : Rets 38 #[.agg (c2 (x))] v (.tuple #[.agg (c2 (x.up2.scale (x.up2.a + x.up2.a).rt.inv)), .bool true]) := by
  refine calls_fr1 Tryd.func38 rfl (by rfl : _ = 55) (by rfl) ?_
  have hw := Hbl.nil v
  refine seq_plain hw [0, 1, 2] (by rfl) ?_
  refine L_box (.agg (c2 (x))) (by rfl) (by rfl) (by rfl) (c2 (x)) (by rfl) ?_; intro g1
  refine L_alloc _ (by rfl) (by rfl) z_2 (c2 (0 : F2)) rfl ?_; intro g2
  refine L_val (.bool false) (by rfl) (by rfl) (gives_value _ fun _ => by rfl) ?_
  refine L_end ?_
  intro w1 hw1
  refine wp_seq ?_
  refine seq_plain hw1 [0, 1, 2] (by rfl) ?_
  refine L_val (.pointer (some ⟨g1, 6, none⟩)) (by rfl) (by rfl) (gives_value _ fun _ => by kernel_rfl) ?_
  refine L_val (.agg (pc ((x).b))) (by rfl) (by rfl) (gives_load g1 6 30 (c2 (x)) (pc ((x).b)) _ (by rfl) (fun _ h => h.blk 1 (by rfl)) (sl_2b (x) _ _ 6 (Sl.refl _) (by rfl)) Tryd.underlying28 (by rfl) (hi_1 _)) ?_
  refine L_val (.bool false) (by rfl) (by rfl) (gives_call (vl := [.agg (pc ((x).b))]) (by kernel_rfl) (by rfl) (fun w h => v_zero_f w (hG.keep h.below) hb)) ?_
  refine L_end ?_
  intro w2 hw2
  refine wp_cond_false (fr_at _ _ (by rfl) _) ?_
  refine wp_skip ?_
  change Code.wp _ _ _ _ _
  refine seq_plain hw2 [0, 1, 2, 3, 4, 5, 6, 7, 8] (by rfl) ?_
  refine L_val (.agg (c2 (x))) (by rfl) (by rfl) (gives_load g1 0 30 (c2 (x)) (c2 (x)) _ (by rfl) (fun _ h => h.blk 1 (by rfl)) (Sl.refl _) Tryd.underlying30 (by rfl) (hi_2 _)) ?_
  refine L_val (.agg (pc (F2.norm (x)))) (by rfl) (by rfl) (gives_call (vl := [.agg (c2 (x))]) (by kernel_rfl) (by rfl) (fun w h => q_norm _ w (hG.keep h.below))) ?_
  refine L_val (.tuple #[.agg (pc (Fp.rt (F2.norm (x)))), .bool true]) (by rfl) (by rfl) (gives_call (vl := [.agg (pc (F2.norm (x)))]) (by kernel_rfl) (by rfl) (fun w h => v_sqrt_yes _ w (hG.keep h.below) (hQ.keep h.below) hn)) ?_
  refine L_val (.tuple #[.agg (pc (Fp.rt (F2.norm (x)))), .bool true]) (by rfl) (by rfl) (gives_value _ fun _ => by rfl) ?_
  refine L_val (.agg (pc (Fp.rt (F2.norm (x))))) (by rfl) (by rfl) (gives_value _ fun _ => by kernel_rfl) ?_
  refine L_val (.bool true) (by rfl) (by rfl) (gives_value _ fun _ => by kernel_rfl) ?_
  refine L_alloc _ (by rfl) (by rfl) z_1 (pc (0 : Fp)) rfl ?_; intro g3
  refine L_store (t := 28) 0 g3 (pc (0 : Fp)) (pc (Fp.rt (F2.norm (x)))) (by rfl) (by rfl) (by rfl) (by rfl) (by rfl) (hi_1 _) ((pc_size _).trans (pc_size _).symm) (pc_one _) ?_
  simp only [List.set_cons_zero, List.set_cons_succ]
  refine L_val (.bool true) (by rfl) (by rfl) (gives_value _ fun _ => by rfl) ?_
  refine L_end ?_
  intro w3 hw3
  refine wp_seq ?_
  refine seq_plain hw3 [0, 1] (by rfl) ?_
  refine L_val (.bool true) (by rfl) (by rfl) (gives_value _ fun _ => by rfl) ?_
  refine L_val (.bool false) (by rfl) (by rfl) (gives_value _ fun _ => by rfl) ?_
  refine L_end ?_
  intro w4 hw4
  refine wp_cond_false (fr_at _ _ (by rfl) _) ?_
  refine wp_skip ?_
  change Code.wp _ _ _ _ _
  refine seq_flow (by kernel_rfl) hw4 [] [(g3, 28, (pc (Fp.rt (F2.norm (x))))), (g2, 30, (c2 (0 : F2))), (g1, 30, (c2 (x)))] 6 (by rfl) ?_
  refine flow_take (i := 0) (.agg (c2 (x))) (by rfl) (by kernel_rfl) (by kernel_rfl) (by kernel_rfl) (by rfl) (by kernel_rfl) (List.Sublist.refl _) (gives_load g1 0 30 (c2 (x)) (c2 (x)) _ (by rfl) (fun _ h => h.blk 2 (by rfl)) (Sl.refl _) Tryd.underlying30 (by rfl) (hi_2 _)) ?_
  refine flow_take (i := 1) (.agg (pc (Fp.rt (F2.norm (x))))) (by rfl) (by kernel_rfl) (by kernel_rfl) (by kernel_rfl) (by rfl) (by kernel_rfl) (List.Sublist.refl _) (gives_load g3 0 28 (pc (Fp.rt (F2.norm (x)))) (pc (Fp.rt (F2.norm (x)))) _ (by rfl) (fun _ h => h.blk 0 (by rfl)) (Sl.refl _) Tryd.underlying28 (by rfl) (hi_1 _)) ?_
  refine flow_take (i := 2) (.agg (c2 (F2.of (Fp.rt (F2.norm (x)))))) (by rfl) (by kernel_rfl) (by kernel_rfl) (by kernel_rfl) (by rfl) (by kernel_rfl) (List.Sublist.refl _) (gives_call (vl := [.agg (pc (Fp.rt (F2.norm (x))))]) (by kernel_rfl) (by rfl) (fun w h => q_of _ w (hG.keep h.below))) ?_
  refine flow_take (i := 3) (.agg (c2 ((x) + (F2.of (Fp.rt (F2.norm (x))))))) (by rfl) (by kernel_rfl) (by kernel_rfl) (by kernel_rfl) (by rfl) (by kernel_rfl) (List.Sublist.refl _) (gives_call (vl := [.agg (c2 (x)), .agg (c2 (F2.of (Fp.rt (F2.norm (x)))))]) (by kernel_rfl) (by rfl) (fun w h => q_add _ _ w (hG.keep h.below))) ?_
  refine flow_one 4 (by kernel_rfl) ?_
  refine F_alloc _ (by rfl) (by rfl) z_2 (c2 (0 : F2)) rfl (List.Sublist.refl _) ?_; intro g4
  refine flow_one 5 (by kernel_rfl) ?_
  refine F_store (t := 30) 0 g4 (c2 (0 : F2)) (c2 ((x) + (F2.of (Fp.rt (F2.norm (x)))))) (by rfl) (by rfl) (by rfl) (by rfl) (by rfl) (hi_2 _) ((c2_size _).trans (c2_size _).symm) (c2_one _) (.inr (List.Sublist.cons _ (List.Sublist.refl _))) ?_
  simp only [List.set_cons_zero, List.set_cons_succ]
  refine flow_done (by kernel_rfl) ?_
  intro w5 hw5
  refine seq_plain hw5 [0, 1, 2, 3, 4, 5, 6, 7, 8, 9, 10, 11] (by rfl) ?_
  refine L_val (.pointer (some ⟨g4, 0, none⟩)) (by rfl) (by rfl) (gives_value _ fun _ => by kernel_rfl) ?_
  refine L_val (.agg (pc (((x) + (F2.of (Fp.rt (F2.norm (x))))).a))) (by rfl) (by rfl) (gives_load g4 0 30 (c2 ((x) + (F2.of (Fp.rt (F2.norm (x)))))) (pc (((x) + (F2.of (Fp.rt (F2.norm (x))))).a)) _ (by rfl) (fun _ h => h.blk 0 (by rfl)) (sl_2a ((x) + (F2.of (Fp.rt (F2.norm (x))))) _ _ (Sl.refl _)) Tryd.underlying28 (by rfl) (hi_1 _)) ?_
  refine L_val (.pointer (some ⟨g4, 0, none⟩)) (by rfl) (by rfl) (gives_value _ fun _ => by kernel_rfl) ?_
  refine L_val (.agg (pc (((x) + (F2.of (Fp.rt (F2.norm (x))))).a))) (by rfl) (by rfl) (gives_load g4 0 30 (c2 ((x) + (F2.of (Fp.rt (F2.norm (x)))))) (pc (((x) + (F2.of (Fp.rt (F2.norm (x))))).a)) _ (by rfl) (fun _ h => h.blk 0 (by rfl)) (sl_2a ((x) + (F2.of (Fp.rt (F2.norm (x))))) _ _ (Sl.refl _)) Tryd.underlying28 (by rfl) (hi_1 _)) ?_
  refine L_val (.agg (pc ((((x) + (F2.of (Fp.rt (F2.norm (x))))).a) + (((x) + (F2.of (Fp.rt (F2.norm (x))))).a)))) (by rfl) (by rfl) (gives_call (vl := [.agg (pc (((x) + (F2.of (Fp.rt (F2.norm (x))))).a)), .agg (pc (((x) + (F2.of (Fp.rt (F2.norm (x))))).a))]) (by kernel_rfl) (by rfl) (fun w h => v_add _ _ w (hG.keep h.below))) ?_
  refine L_val (.tuple #[.agg (pc (0 : Fp)), .bool false]) (by rfl) (by rfl) (gives_call (vl := [.agg (pc ((((x) + (F2.of (Fp.rt (F2.norm (x))))).a) + (((x) + (F2.of (Fp.rt (F2.norm (x))))).a)))]) (by kernel_rfl) (by rfl) (fun w h => v_sqrt_no _ w (hG.keep h.below) (hQ.keep h.below) hd)) ?_
  refine L_val (.tuple #[.agg (pc (0 : Fp)), .bool false]) (by rfl) (by rfl) (gives_value _ fun _ => by rfl) ?_
  refine L_val (.agg (pc (0 : Fp))) (by rfl) (by rfl) (gives_value _ fun _ => by kernel_rfl) ?_
  refine L_val (.bool false) (by rfl) (by rfl) (gives_value _ fun _ => by kernel_rfl) ?_
  refine L_alloc _ (by rfl) (by rfl) z_1 (pc (0 : Fp)) rfl ?_; intro g5
  refine L_store (t := 28) 0 g5 (pc (0 : Fp)) (pc (0 : Fp)) (by rfl) (by rfl) (by rfl) (by rfl) (by rfl) (hi_1 _) ((pc_size _).trans (pc_size _).symm) (pc_one _) ?_
  simp only [List.set_cons_zero, List.set_cons_succ]
  refine L_val (.bool false) (by rfl) (by rfl) (gives_value _ fun _ => by rfl) ?_
  refine L_end ?_
  intro w6 hw6
  refine wp_seq ?_
  refine seq_plain hw6 [0, 1] (by rfl) ?_
  refine L_val (.bool false) (by rfl) (by rfl) (gives_value _ fun _ => by rfl) ?_
  refine L_val (.bool true) (by rfl) (by rfl) (gives_value _ fun _ => by rfl) ?_
  refine L_end ?_
  intro w7 hw7
  refine wp_cond_true (fr_at _ _ (by rfl) _) ?_
  refine seq_flow (by kernel_rfl) hw7 [] [(g5, 28, (pc (0 : Fp))), (g3, 28, (pc (Fp.rt (F2.norm (x))))), (g2, 30, (c2 (0 : F2))), (g1, 30, (c2 (x)))] 5 (by rfl) ?_
  refine flow_take (i := 0) (.agg (c2 (x))) (by rfl) (by kernel_rfl) (by kernel_rfl) (by kernel_rfl) (by rfl) (by kernel_rfl) (List.Sublist.cons_cons _ (List.Sublist.cons _ (List.Sublist.refl _))) (gives_load g1 0 30 (c2 (x)) (c2 (x)) _ (by rfl) (fun _ h => h.blk 3 (by rfl)) (Sl.refl _) Tryd.underlying30 (by rfl) (hi_2 _)) ?_
  refine flow_take (i := 1) (.agg (pc (Fp.rt (F2.norm (x))))) (by rfl) (by kernel_rfl) (by kernel_rfl) (by kernel_rfl) (by rfl) (by kernel_rfl) (List.Sublist.cons_cons _ (List.Sublist.cons _ (List.Sublist.refl _))) (gives_load g3 0 28 (pc (Fp.rt (F2.norm (x)))) (pc (Fp.rt (F2.norm (x)))) _ (by rfl) (fun _ h => h.blk 1 (by rfl)) (Sl.refl _) Tryd.underlying28 (by rfl) (hi_1 _)) ?_
  refine flow_take (i := 2) (.agg (c2 (F2.of (Fp.rt (F2.norm (x)))))) (by rfl) (by kernel_rfl) (by kernel_rfl) (by kernel_rfl) (by rfl) (by kernel_rfl) (List.Sublist.cons_cons _ (List.Sublist.cons _ (List.Sublist.refl _))) (gives_call (vl := [.agg (pc (Fp.rt (F2.norm (x))))]) (by kernel_rfl) (by rfl) (fun w h => q_of _ w (hG.keep h.below))) ?_
  refine flow_take (i := 3) (.agg (c2 ((x) - (F2.of (Fp.rt (F2.norm (x))))))) (by rfl) (by kernel_rfl) (by kernel_rfl) (by kernel_rfl) (by rfl) (by kernel_rfl) (List.Sublist.cons_cons _ (List.Sublist.cons _ (List.Sublist.refl _))) (gives_call (vl := [.agg (c2 (x)), .agg (c2 (F2.of (Fp.rt (F2.norm (x)))))]) (by kernel_rfl) (by rfl) (fun w h => q_sub _ _ w (hG.keep h.below))) ?_
  refine flow_one 4 (by kernel_rfl) ?_
  refine F_store (t := 30) 1 g4 (c2 ((x) + (F2.of (Fp.rt (F2.norm (x)))))) (c2 ((x) - (F2.of (Fp.rt (F2.norm (x)))))) (by rfl) (by rfl) (by rfl) (by rfl) (by rfl) (hi_2 _) ((c2_size _).trans (c2_size _).symm) (c2_one _) (.inr (List.Sublist.cons_cons _ (List.Sublist.cons _ (List.Sublist.refl _)))) ?_
  simp only [List.set_cons_zero, List.set_cons_succ]
  refine flow_done (by kernel_rfl) ?_
  intro w8 hw8
  refine one_plain hw8 [0, 1, 2, 3, 4, 5, 6, 7, 8, 9] (by rfl) ?_
  refine L_val (.pointer (some ⟨g4, 0, none⟩)) (by rfl) (by rfl) (gives_value _ fun _ => by kernel_rfl) ?_
  refine L_val (.agg (pc (((x) - (F2.of (Fp.rt (F2.norm (x))))).a))) (by rfl) (by rfl) (gives_load g4 0 30 (c2 ((x) - (F2.of (Fp.rt (F2.norm (x)))))) (pc (((x) - (F2.of (Fp.rt (F2.norm (x))))).a)) _ (by rfl) (fun _ h => h.blk 1 (by rfl)) (sl_2a ((x) - (F2.of (Fp.rt (F2.norm (x))))) _ _ (Sl.refl _)) Tryd.underlying28 (by rfl) (hi_1 _)) ?_
  refine L_val (.pointer (some ⟨g4, 0, none⟩)) (by rfl) (by rfl) (gives_value _ fun _ => by kernel_rfl) ?_
  refine L_val (.agg (pc (((x) - (F2.of (Fp.rt (F2.norm (x))))).a))) (by rfl) (by rfl) (gives_load g4 0 30 (c2 ((x) - (F2.of (Fp.rt (F2.norm (x)))))) (pc (((x) - (F2.of (Fp.rt (F2.norm (x))))).a)) _ (by rfl) (fun _ h => h.blk 1 (by rfl)) (sl_2a ((x) - (F2.of (Fp.rt (F2.norm (x))))) _ _ (Sl.refl _)) Tryd.underlying28 (by rfl) (hi_1 _)) ?_
  refine L_val (.agg (pc ((((x) - (F2.of (Fp.rt (F2.norm (x))))).a) + (((x) - (F2.of (Fp.rt (F2.norm (x))))).a)))) (by rfl) (by rfl) (gives_call (vl := [.agg (pc (((x) - (F2.of (Fp.rt (F2.norm (x))))).a)), .agg (pc (((x) - (F2.of (Fp.rt (F2.norm (x))))).a))]) (by kernel_rfl) (by rfl) (fun w h => v_add _ _ w (hG.keep h.below))) ?_
  refine L_val (.tuple #[.agg (pc (Fp.rt ((((x) - (F2.of (Fp.rt (F2.norm (x))))).a) + (((x) - (F2.of (Fp.rt (F2.norm (x))))).a)))), .bool true]) (by rfl) (by rfl) (gives_call (vl := [.agg (pc ((((x) - (F2.of (Fp.rt (F2.norm (x))))).a) + (((x) - (F2.of (Fp.rt (F2.norm (x))))).a)))]) (by kernel_rfl) (by rfl) (fun w h => v_sqrt_yes _ w (hG.keep h.below) (hQ.keep h.below) he)) ?_
  refine L_val (.tuple #[.agg (pc (Fp.rt ((((x) - (F2.of (Fp.rt (F2.norm (x))))).a) + (((x) - (F2.of (Fp.rt (F2.norm (x))))).a)))), .bool true]) (by rfl) (by rfl) (gives_value _ fun _ => by rfl) ?_
  refine L_val (.agg (pc (Fp.rt ((((x) - (F2.of (Fp.rt (F2.norm (x))))).a) + (((x) - (F2.of (Fp.rt (F2.norm (x))))).a))))) (by rfl) (by rfl) (gives_value _ fun _ => by kernel_rfl) ?_
  refine L_val (.bool true) (by rfl) (by rfl) (gives_value _ fun _ => by kernel_rfl) ?_
  refine L_store (t := 28) 0 g5 (pc (0 : Fp)) (pc (Fp.rt ((((x) - (F2.of (Fp.rt (F2.norm (x))))).a) + (((x) - (F2.of (Fp.rt (F2.norm (x))))).a)))) (by rfl) (by rfl) (by rfl) (by rfl) (by rfl) (hi_1 _) ((pc_size _).trans (pc_size _).symm) (pc_one _) ?_
  simp only [List.set_cons_zero, List.set_cons_succ]
  refine L_end ?_
  intro w9 hw9
  change Code.wp _ _ _ _ _
  refine seq_flow (by kernel_rfl) hw9 [] [(g5, 28, (pc (Fp.rt ((((x) - (F2.of (Fp.rt (F2.norm (x))))).a) + (((x) - (F2.of (Fp.rt (F2.norm (x))))).a))))), (g4, 30, (c2 ((x) - (F2.of (Fp.rt (F2.norm (x))))))), (g3, 28, (pc (Fp.rt (F2.norm (x))))), (g1, 30, (c2 (x)))] 6 (by rfl) ?_
  refine flow_take (i := 0) (.agg (c2 ((x) - (F2.of (Fp.rt (F2.norm (x))))))) (by rfl) (by kernel_rfl) (by kernel_rfl) (by kernel_rfl) (by rfl) (by kernel_rfl) (List.Sublist.cons_cons _ (List.Sublist.cons_cons _ (List.Sublist.cons_cons _ (List.Sublist.cons _ (List.Sublist.refl _))))) (gives_load g4 0 30 (c2 ((x) - (F2.of (Fp.rt (F2.norm (x)))))) (c2 ((x) - (F2.of (Fp.rt (F2.norm (x)))))) _ (by rfl) (fun _ h => h.blk 1 (by rfl)) (Sl.refl _) Tryd.underlying30 (by rfl) (hi_2 _)) ?_
  refine flow_take (i := 1) (.agg (pc (Fp.rt ((((x) - (F2.of (Fp.rt (F2.norm (x))))).a) + (((x) - (F2.of (Fp.rt (F2.norm (x))))).a))))) (by rfl) (by kernel_rfl) (by kernel_rfl) (by kernel_rfl) (by rfl) (by kernel_rfl) (List.Sublist.cons_cons _ (List.Sublist.cons_cons _ (List.Sublist.cons_cons _ (List.Sublist.cons _ (List.Sublist.refl _))))) (gives_load g5 0 28 (pc (Fp.rt ((((x) - (F2.of (Fp.rt (F2.norm (x))))).a) + (((x) - (F2.of (Fp.rt (F2.norm (x))))).a)))) (pc (Fp.rt ((((x) - (F2.of (Fp.rt (F2.norm (x))))).a) + (((x) - (F2.of (Fp.rt (F2.norm (x))))).a)))) _ (by rfl) (fun _ h => h.blk 0 (by rfl)) (Sl.refl _) Tryd.underlying28 (by rfl) (hi_1 _)) ?_
  refine flow_take (i := 2) (.agg (pc (Fp.inv (Fp.rt ((((x) - (F2.of (Fp.rt (F2.norm (x))))).a) + (((x) - (F2.of (Fp.rt (F2.norm (x))))).a)))))) (by rfl) (by kernel_rfl) (by kernel_rfl) (by kernel_rfl) (by rfl) (by kernel_rfl) (List.Sublist.cons_cons _ (List.Sublist.cons_cons _ (List.Sublist.cons_cons _ (List.Sublist.cons _ (List.Sublist.refl _))))) (gives_call (vl := [.agg (pc (Fp.rt ((((x) - (F2.of (Fp.rt (F2.norm (x))))).a) + (((x) - (F2.of (Fp.rt (F2.norm (x))))).a))))]) (by kernel_rfl) (by rfl) (fun w h => v_inv _ w (hG.keep h.below))) ?_
  refine flow_take (i := 3) (.agg (c2 (F2.scale ((x) - (F2.of (Fp.rt (F2.norm (x))))) (Fp.inv (Fp.rt ((((x) - (F2.of (Fp.rt (F2.norm (x))))).a) + (((x) - (F2.of (Fp.rt (F2.norm (x))))).a))))))) (by rfl) (by kernel_rfl) (by kernel_rfl) (by kernel_rfl) (by rfl) (by kernel_rfl) (List.Sublist.cons_cons _ (List.Sublist.cons_cons _ (List.Sublist.cons_cons _ (List.Sublist.cons _ (List.Sublist.refl _))))) (gives_call (vl := [.agg (c2 ((x) - (F2.of (Fp.rt (F2.norm (x)))))), .agg (pc (Fp.inv (Fp.rt ((((x) - (F2.of (Fp.rt (F2.norm (x))))).a) + (((x) - (F2.of (Fp.rt (F2.norm (x))))).a)))))]) (by kernel_rfl) (by rfl) (fun w h => q_scale _ _ w (hG.keep h.below))) ?_
  refine flow_one 4 (by kernel_rfl) ?_
  refine F_store (t := 30) 3 g2 (c2 (0 : F2)) (c2 (F2.scale ((x) - (F2.of (Fp.rt (F2.norm (x))))) (Fp.inv (Fp.rt ((((x) - (F2.of (Fp.rt (F2.norm (x))))).a) + (((x) - (F2.of (Fp.rt (F2.norm (x))))).a)))))) (by rfl) (by rfl) (by rfl) (by rfl) (by rfl) (hi_2 _) ((c2_size _).trans (c2_size _).symm) (c2_one _) (.inr (List.Sublist.cons_cons _ (List.Sublist.cons_cons _ (List.Sublist.cons_cons _ (List.Sublist.cons _ (List.Sublist.refl _)))))) ?_
  simp only [List.set_cons_zero, List.set_cons_succ]
  refine flow_take (i := 5) (.bool true) (by rfl) (by kernel_rfl) (by kernel_rfl) (by kernel_rfl) (by rfl) (by kernel_rfl) (List.Sublist.cons_cons _ (List.Sublist.cons_cons _ (List.Sublist.cons_cons _ (List.Sublist.cons _ (List.Sublist.refl _))))) (gives_value _ fun _ => by rfl) ?_
  refine flow_done (by kernel_rfl) ?_
  intro w10 hw10
  refine wp_ret ?_
  change bodyPost _ _ _ Exit.ret _ _
  refine (ret_cell_tmp (by rfl) (by rfl) (by rfl) (by rfl) (hw10.blk 3 (by rfl)) Tryd.underlying30 (by rfl) (hi_2 _) ⟨?_, hw10.below⟩)
  exact rfl
theorem q_sqrt_yes (x : F2) (v : World) (hG : Glo v) (hQ : GQp v) (h : x.sq) : Rets 38 #[.agg (c2 x)] v (.tuple #[.agg (c2 x.rt), .bool true]) := by
  have hn := (F2.sq_iff x).1 h
  unfold F2.rt
  by_cases hb : x.b = 0
  · rw [if_pos hb]; exact q_sqrt_low x v hG hQ hb
  · rw [if_neg hb]
    by_cases hd : (x.up1.a + x.up1.a).rt * (x.up1.a + x.up1.a).rt = x.up1.a + x.up1.a
    · rw [if_pos hd]; exact q_sqrt_one x v hG hQ hb hn hd
    · rw [if_neg hd]; exact q_sqrt_two x v hG hQ hb hn hd (F2.other hb hn hd)
theorem q_sqrt_no (x : F2) (v : World) (hG : Glo v) (hQ : GQp v) (h : ¬ x.sq) : Rets 38 #[.agg (c2 x)] v (.tuple #[.agg (c2 0), .bool false]) := by
  have hn : ¬ x.norm.sq := fun e => h ((F2.sq_iff x).2 e)
  have hb : x.b ≠ 0 := fun e => h ⟨F2.rootOf x.a, (F2.rootOf_sq _).trans (F2.same rfl e.symm)⟩
  exact q_sqrt_none x v hG hQ hb hn
/-- Odd; greater than its negative. -/
def F2.odd (x : F2) : Bool := if x.a = 0 then decide (x.b.val % 2 = 1) else decide (x.a.val % 2 = 1)
def F2.large (x : F2) : Bool := if x.b = 0 then decide (Up ≤ (x.a.val : Int)) else decide (Up ≤ (x.b.val : Int))
set_option maxRecDepth 100000 in
set_option maxHeartbeats 4000000 in
theorem q_odd_z (x : F2) (v : World) (hG : Glo v) (hz : x.a = 0) : Rets 41 #[.agg (c2 (x))] v (.bool x.odd) := by
  refine calls_fr1 Tryd.func41 rfl (by rfl : _ = 12) (by rfl) ?_
  have hw := Hbl.nil v
  refine seq_plain hw [0, 1] (by rfl) ?_
  refine L_box (.agg (c2 (x))) (by rfl) (by rfl) (by rfl) (c2 (x)) (by rfl) ?_; intro g1
  refine L_val (.bool false) (by rfl) (by rfl) (gives_value _ fun _ => by rfl) ?_
  refine L_end ?_
  intro w1 hw1
  refine wp_seq ?_
  refine seq_plain hw1 [0, 1, 2] (by rfl) ?_
  refine L_val (.pointer (some ⟨g1, 0, none⟩)) (by rfl) (by rfl) (gives_value _ fun _ => by kernel_rfl) ?_
  refine L_val (.agg (pc ((x).a))) (by rfl) (by rfl) (gives_load g1 0 30 (c2 (x)) (pc ((x).a)) _ (by rfl) (fun _ h => h.blk 0 (by rfl)) (sl_2a (x) _ _ (Sl.refl _)) Tryd.underlying28 (by rfl) (hi_1 _)) ?_
  refine L_val (.bool true) (by rfl) (by rfl) (gives_call (vl := [.agg (pc ((x).a))]) (by kernel_rfl) (by rfl) (fun w h => v_zero_t w (hG.keep h.below) hz)) ?_
  refine L_end ?_
  intro w2 hw2
  refine wp_cond_true (fr_at _ _ (by rfl) _) ?_
  refine seq_plain hw2 [0, 1, 2, 3] (by rfl) ?_
  refine L_val (.pointer (some ⟨g1, 6, none⟩)) (by rfl) (by rfl) (gives_value _ fun _ => by kernel_rfl) ?_
  refine L_val (.agg (pc ((x).b))) (by rfl) (by rfl) (gives_load g1 6 30 (c2 (x)) (pc ((x).b)) _ (by rfl) (fun _ h => h.blk 0 (by rfl)) (sl_2b (x) _ _ 6 (Sl.refl _) (by rfl)) Tryd.underlying28 (by rfl) (hi_1 _)) ?_
  refine L_val (.bool (decide (((x).b).val % 2 = 1))) (by rfl) (by rfl) (gives_call (vl := [.agg (pc ((x).b))]) (by kernel_rfl) (by rfl) (fun w h => v_odd _ w (hG.keep h.below))) ?_
  refine L_val (.bool (decide (((x).b).val % 2 = 1))) (by rfl) (by rfl) (gives_value _ fun _ => by rfl) ?_
  refine L_end ?_
  intro w3 hw3
  refine wp_ret ?_
  change bodyPost _ _ _ Exit.ret _ _
  refine (ret_tmp (by rfl) (by rfl) (by rfl) ⟨?_, hw3.below⟩)
  simp only [F2.odd, if_pos hz]
  rfl
set_option maxRecDepth 100000 in
set_option maxHeartbeats 4000000 in
theorem q_odd_n (x : F2) (v : World) (hG : Glo v) (hz : x.a ≠ 0) : Rets 41 #[.agg (c2 (x))] v (.bool x.odd) := by
  refine calls_fr1 Tryd.func41 rfl (by rfl : _ = 12) (by rfl) ?_
  have hw := Hbl.nil v
  refine seq_plain hw [0, 1] (by rfl) ?_
  refine L_box (.agg (c2 (x))) (by rfl) (by rfl) (by rfl) (c2 (x)) (by rfl) ?_; intro g1
  refine L_val (.bool false) (by rfl) (by rfl) (gives_value _ fun _ => by rfl) ?_
  refine L_end ?_
  intro w1 hw1
  refine wp_seq ?_
  refine seq_plain hw1 [0, 1, 2] (by rfl) ?_
  refine L_val (.pointer (some ⟨g1, 0, none⟩)) (by rfl) (by rfl) (gives_value _ fun _ => by kernel_rfl) ?_
  refine L_val (.agg (pc ((x).a))) (by rfl) (by rfl) (gives_load g1 0 30 (c2 (x)) (pc ((x).a)) _ (by rfl) (fun _ h => h.blk 0 (by rfl)) (sl_2a (x) _ _ (Sl.refl _)) Tryd.underlying28 (by rfl) (hi_1 _)) ?_
  refine L_val (.bool false) (by rfl) (by rfl) (gives_call (vl := [.agg (pc ((x).a))]) (by kernel_rfl) (by rfl) (fun w h => v_zero_f w (hG.keep h.below) hz)) ?_
  refine L_end ?_
  intro w2 hw2
  refine wp_cond_false (fr_at _ _ (by rfl) _) ?_
  refine wp_skip ?_
  change Code.wp _ _ _ _ _
  refine seq_plain hw2 [0, 1, 2, 3] (by rfl) ?_
  refine L_val (.pointer (some ⟨g1, 0, none⟩)) (by rfl) (by rfl) (gives_value _ fun _ => by kernel_rfl) ?_
  refine L_val (.agg (pc ((x).a))) (by rfl) (by rfl) (gives_load g1 0 30 (c2 (x)) (pc ((x).a)) _ (by rfl) (fun _ h => h.blk 0 (by rfl)) (sl_2a (x) _ _ (Sl.refl _)) Tryd.underlying28 (by rfl) (hi_1 _)) ?_
  refine L_val (.bool (decide (((x).a).val % 2 = 1))) (by rfl) (by rfl) (gives_call (vl := [.agg (pc ((x).a))]) (by kernel_rfl) (by rfl) (fun w h => v_odd _ w (hG.keep h.below))) ?_
  refine L_val (.bool (decide (((x).a).val % 2 = 1))) (by rfl) (by rfl) (gives_value _ fun _ => by rfl) ?_
  refine L_end ?_
  intro w3 hw3
  refine wp_ret ?_
  change bodyPost _ _ _ Exit.ret _ _
  refine (ret_tmp (by rfl) (by rfl) (by rfl) ⟨?_, hw3.below⟩)
  simp only [F2.odd, if_neg hz]
  rfl
theorem q_odd (x : F2) (v : World) (hG : Glo v) : Rets 41 #[.agg (c2 x)] v (.bool x.odd) := by
  by_cases hz : x.a = 0
  · exact q_odd_z x v hG hz
  · exact q_odd_n x v hG hz
set_option maxRecDepth 100000 in
set_option maxHeartbeats 4000000 in
theorem q_large_z (x : F2) (v : World) (hG : Glo v) (hU : GUp v) (hz : x.b = 0) : Rets 42 #[.agg (c2 (x))] v (.bool x.large) := by
  refine calls_fr1 Tryd.func42 rfl (by rfl : _ = 12) (by rfl) ?_
  have hw := Hbl.nil v
  refine seq_plain hw [0, 1] (by rfl) ?_
  refine L_box (.agg (c2 (x))) (by rfl) (by rfl) (by rfl) (c2 (x)) (by rfl) ?_; intro g1
  refine L_val (.bool false) (by rfl) (by rfl) (gives_value _ fun _ => by rfl) ?_
  refine L_end ?_
  intro w1 hw1
  refine wp_seq ?_
  refine seq_plain hw1 [0, 1, 2] (by rfl) ?_
  refine L_val (.pointer (some ⟨g1, 6, none⟩)) (by rfl) (by rfl) (gives_value _ fun _ => by kernel_rfl) ?_
  refine L_val (.agg (pc ((x).b))) (by rfl) (by rfl) (gives_load g1 6 30 (c2 (x)) (pc ((x).b)) _ (by rfl) (fun _ h => h.blk 0 (by rfl)) (sl_2b (x) _ _ 6 (Sl.refl _) (by rfl)) Tryd.underlying28 (by rfl) (hi_1 _)) ?_
  refine L_val (.bool true) (by rfl) (by rfl) (gives_call (vl := [.agg (pc ((x).b))]) (by kernel_rfl) (by rfl) (fun w h => v_zero_t w (hG.keep h.below) hz)) ?_
  refine L_end ?_
  intro w2 hw2
  refine wp_cond_true (fr_at _ _ (by rfl) _) ?_
  refine seq_plain hw2 [0, 1, 2, 3] (by rfl) ?_
  refine L_val (.pointer (some ⟨g1, 0, none⟩)) (by rfl) (by rfl) (gives_value _ fun _ => by kernel_rfl) ?_
  refine L_val (.agg (pc ((x).a))) (by rfl) (by rfl) (gives_load g1 0 30 (c2 (x)) (pc ((x).a)) _ (by rfl) (fun _ h => h.blk 0 (by rfl)) (sl_2a (x) _ _ (Sl.refl _)) Tryd.underlying28 (by rfl) (hi_1 _)) ?_
  refine L_val (.bool (decide (Up ≤ (((x).a).val : Int)))) (by rfl) (by rfl) (gives_call (vl := [.agg (pc ((x).a))]) (by kernel_rfl) (by rfl) (fun w h => v_large _ w (hG.keep h.below) (hU.keep h.below))) ?_
  refine L_val (.bool (decide (Up ≤ (((x).a).val : Int)))) (by rfl) (by rfl) (gives_value _ fun _ => by rfl) ?_
  refine L_end ?_
  intro w3 hw3
  refine wp_ret ?_
  change bodyPost _ _ _ Exit.ret _ _
  refine (ret_tmp (by rfl) (by rfl) (by rfl) ⟨?_, hw3.below⟩)
  simp only [F2.large, if_pos hz]
  rfl
set_option maxRecDepth 100000 in
set_option maxHeartbeats 4000000 in
theorem q_large_n (x : F2) (v : World) (hG : Glo v) (hU : GUp v) (hz : x.b ≠ 0) : Rets 42 #[.agg (c2 (x))] v (.bool x.large) := by
  refine calls_fr1 Tryd.func42 rfl (by rfl : _ = 12) (by rfl) ?_
  have hw := Hbl.nil v
  refine seq_plain hw [0, 1] (by rfl) ?_
  refine L_box (.agg (c2 (x))) (by rfl) (by rfl) (by rfl) (c2 (x)) (by rfl) ?_; intro g1
  refine L_val (.bool false) (by rfl) (by rfl) (gives_value _ fun _ => by rfl) ?_
  refine L_end ?_
  intro w1 hw1
  refine wp_seq ?_
  refine seq_plain hw1 [0, 1, 2] (by rfl) ?_
  refine L_val (.pointer (some ⟨g1, 6, none⟩)) (by rfl) (by rfl) (gives_value _ fun _ => by kernel_rfl) ?_
  refine L_val (.agg (pc ((x).b))) (by rfl) (by rfl) (gives_load g1 6 30 (c2 (x)) (pc ((x).b)) _ (by rfl) (fun _ h => h.blk 0 (by rfl)) (sl_2b (x) _ _ 6 (Sl.refl _) (by rfl)) Tryd.underlying28 (by rfl) (hi_1 _)) ?_
  refine L_val (.bool false) (by rfl) (by rfl) (gives_call (vl := [.agg (pc ((x).b))]) (by kernel_rfl) (by rfl) (fun w h => v_zero_f w (hG.keep h.below) hz)) ?_
  refine L_end ?_
  intro w2 hw2
  refine wp_cond_false (fr_at _ _ (by rfl) _) ?_
  refine wp_skip ?_
  change Code.wp _ _ _ _ _
  refine seq_plain hw2 [0, 1, 2, 3] (by rfl) ?_
  refine L_val (.pointer (some ⟨g1, 6, none⟩)) (by rfl) (by rfl) (gives_value _ fun _ => by kernel_rfl) ?_
  refine L_val (.agg (pc ((x).b))) (by rfl) (by rfl) (gives_load g1 6 30 (c2 (x)) (pc ((x).b)) _ (by rfl) (fun _ h => h.blk 0 (by rfl)) (sl_2b (x) _ _ 6 (Sl.refl _) (by rfl)) Tryd.underlying28 (by rfl) (hi_1 _)) ?_
  refine L_val (.bool (decide (Up ≤ (((x).b).val : Int)))) (by rfl) (by rfl) (gives_call (vl := [.agg (pc ((x).b))]) (by kernel_rfl) (by rfl) (fun w h => v_large _ w (hG.keep h.below) (hU.keep h.below))) ?_
  refine L_val (.bool (decide (Up ≤ (((x).b).val : Int)))) (by rfl) (by rfl) (gives_value _ fun _ => by rfl) ?_
  refine L_end ?_
  intro w3 hw3
  refine wp_ret ?_
  change bodyPost _ _ _ Exit.ret _ _
  refine (ret_tmp (by rfl) (by rfl) (by rfl) ⟨?_, hw3.below⟩)
  simp only [F2.large, if_neg hz]
  rfl
theorem q_large (x : F2) (v : World) (hG : Glo v) (hU : GUp v) : Rets 42 #[.agg (c2 x)] v (.bool x.large) := by
  by_cases hz : x.b = 0
  · exact q_large_z x v hG hU hz
  · exact q_large_n x v hG hU hz
theorem Fp.odd_neg {x : Fp} (hx : x ≠ 0) : decide ((-x).val % 2 = 1) = !decide (x.val % 2 = 1) := by
  obtain ⟨k, rfl⟩ := Fp.exists_n x
  have h := Go.Proofs.YthfdohhglnhonaaDoor.odd_neg k (fun h => hx (Fp.n_eq_zero.2 h))
  have h1 := Fp.n_val k
  have h2 := Fp.n_val (-k)
  rw [Fp.n_neg] at h2
  rw [← h1, ← h2] at h
  rw [← decide_not, decide_eq_decide]
  omega
theorem Fp.large_neg {x : Fp} (hx : x ≠ 0) : decide (Up ≤ ((-x).val : Int)) = !decide (Up ≤ (x.val : Int)) := by
  obtain ⟨k, rfl⟩ := Fp.exists_n x
  have h := Go.Proofs.YthfdohhglnhonaaDoor.large_neg k (fun h => hx (Fp.n_eq_zero.2 h))
  have h1 := Fp.n_val k
  have h2 := Fp.n_val (-k)
  rw [Fp.n_neg] at h2
  rw [← h1, ← h2] at h
  rw [← decide_not, decide_eq_decide]
  omega
theorem F2.odd_neg {x : F2} (hx : x ≠ 0) : (x.odd != (-x).odd) = true := by
  unfold F2.odd
  rw [F2.neg_a, F2.neg_b]
  by_cases ha : x.a = 0
  · have hb : x.b ≠ 0 := fun e => hx (F2.same ha e)
    rw [if_pos ha, if_pos (by rw [ha]; exact Fp.nz), Fp.odd_neg hb]
    cases decide (x.b.val % 2 = 1) <;> rfl
  · rw [if_neg ha, if_neg (fun e => ha (by grind)), Fp.odd_neg ha]
    cases decide (x.a.val % 2 = 1) <;> rfl
theorem F2.large_neg {x : F2} (hx : x ≠ 0) : (x.large != (-x).large) = true := by
  unfold F2.large
  rw [F2.neg_a, F2.neg_b]
  by_cases hb : x.b = 0
  · have ha : x.a ≠ 0 := fun e => hx (F2.same e hb)
    rw [if_pos hb, if_pos (by rw [hb]; exact Fp.nz), Fp.large_neg ha]
    cases decide (Up ≤ (x.a.val : Int)) <;> rfl
  · rw [if_neg hb, if_neg (fun e => hb (by grind)), Fp.large_neg hb]
    cases decide (Up ≤ (x.b.val : Int)) <;> rfl
theorem F2.odd_zero : (0 : F2).odd = false := by decide +kernel
theorem F2.large_zero : (0 : F2).large = false := by decide +kernel
theorem q_odd_0 {x : F2} (v : World) (hG : Glo v) (hz : x = 0) : Rets 41 #[.agg (c2 x)] v (.bool false) := by
  subst hz
  have h := q_odd 0 v hG
  rwa [F2.odd_zero] at h
theorem q_large_0 {x : F2} (v : World) (hG : Glo v) (hU : GUp v) (hz : x = 0) : Rets 42 #[.agg (c2 x)] v (.bool false) := by
  subst hz
  have h := q_large 0 v hG hU
  rwa [F2.large_zero] at h
theorem F2.rt_square (x : F2) : (x * x).rt = x ∨ (x * x).rt = -x := by
  have h := F2.rt_ok (x := x * x) ⟨x, rfl⟩
  generalize (x * x).rt = y at h
  have h1 : (y - x) * (y + x) = 0 := by
    have ha := congrArg F2.a h
    have hb := congrArg F2.b h
    simp only [F2.mul_a, F2.mul_b] at ha hb
    apply F2.same <;> simp only [F2.mul_a, F2.mul_b, F2.add_a, F2.add_b, F2.sub_a, F2.sub_b, F2.zero_a, F2.zero_b] <;> grind
  rcases F2.mul_zero_iff.1 h1 with h2 | h2
  · left
    have ha := congrArg F2.a h2
    have hb := congrArg F2.b h2
    simp only [F2.sub_a, F2.sub_b, F2.zero_a, F2.zero_b] at ha hb
    apply F2.same <;> grind
  · right
    have ha := congrArg F2.a h2
    have hb := congrArg F2.b h2
    simp only [F2.add_a, F2.add_b, F2.zero_a, F2.zero_b] at ha hb
    apply F2.same <;> simp only [F2.neg_a, F2.neg_b] <;> grind
end Go.Proofs.YthfdohhglnhonaaDoor
