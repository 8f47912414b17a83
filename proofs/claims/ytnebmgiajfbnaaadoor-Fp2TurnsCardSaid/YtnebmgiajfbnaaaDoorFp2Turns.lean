/-
  Fp2Turns: the walk.
-/
import Derived.Test.YtnebmgiajfbnaaaDoorFb
namespace Go.Proofs.YtnebmgiajfbnaaaDoor
set_option linter.unusedSimpArgs false
set_option linter.unusedVariables false
open Go.RowKit
attribute [local irreducible] wpL wpF fr Code.wp bodyPost
theorem turns_e0 (p0 : Fp) (p1 : Fp) {k0 : F2} (hk0 : k0 = F2.sm 0 1) : ((⟨p0, p1⟩ : F2) * (k0)) = (⟨-((⟨p0, p1⟩ : F2).b), (⟨p0, p1⟩ : F2).a⟩ : F2) := by
  subst hk0
  apply F2.same <;> simp only [F2.mul_a, F2.mul_b, F2.add_a, F2.add_b, F2.sub_a, F2.sub_b, F2.neg_a, F2.neg_b, F2.conj_a, F2.conj_b, F2.of_a, F2.of_b, F2.norm, F2.sm_a, F2.sm_b, F2.one_a, F2.one_b, F2.zero_a, F2.zero_b, Fp.n_zero, Fp.n_one, Fp.mz, Fp.zm, Fp.nz, Fp.zz, Fp.za, Fp.zs, Fp.cr.mul_one, Fp.cr.one_mul, Fp.cr.add_zero, Fp.cr.zero_add] <;> try grind
theorem turns_e1 (p0 : Fp) (p1 : Fp) {k0 : F2} (hk0 : k0 = F2.sm 0 1) : (((⟨p0, p1⟩ : F2) * (k0)) * (k0)) = (-(⟨p0, p1⟩ : F2)) := by
  subst hk0
  apply F2.same <;> simp only [F2.mul_a, F2.mul_b, F2.add_a, F2.add_b, F2.sub_a, F2.sub_b, F2.neg_a, F2.neg_b, F2.conj_a, F2.conj_b, F2.of_a, F2.of_b, F2.norm, F2.sm_a, F2.sm_b, F2.one_a, F2.one_b, F2.zero_a, F2.zero_b, Fp.n_zero, Fp.n_one, Fp.mz, Fp.zm, Fp.nz, Fp.zz, Fp.za, Fp.zs, Fp.cr.mul_one, Fp.cr.one_mul, Fp.cr.add_zero, Fp.cr.zero_add] <;> try grind
theorem turns_e2 (p0 : Fp) (p1 : Fp) {k0 : F2} (hk0 : k0 = F2.sm 0 1) : (((((⟨p0, p1⟩ : F2) * (k0)) * (k0)) * (k0)) * (k0)) = (⟨p0, p1⟩ : F2) := by
  subst hk0
  apply F2.same <;> simp only [F2.mul_a, F2.mul_b, F2.add_a, F2.add_b, F2.sub_a, F2.sub_b, F2.neg_a, F2.neg_b, F2.conj_a, F2.conj_b, F2.of_a, F2.of_b, F2.norm, F2.sm_a, F2.sm_b, F2.one_a, F2.one_b, F2.zero_a, F2.zero_b, Fp.n_zero, Fp.n_one, Fp.mz, Fp.zm, Fp.nz, Fp.zz, Fp.za, Fp.zs, Fp.cr.mul_one, Fp.cr.one_mul, Fp.cr.add_zero, Fp.cr.zero_add] <;> try grind
theorem turns_e3 (p0 : Fp) (p1 : Fp) {k0 : F2} (hk0 : k0 = F2.sm 0 1) : (F2.norm ((⟨p0, p1⟩ : F2) * (k0))) = (F2.norm (⟨p0, p1⟩ : F2)) := by
  subst hk0
  simp only [F2.mul_a, F2.mul_b, F2.add_a, F2.add_b, F2.sub_a, F2.sub_b, F2.neg_a, F2.neg_b, F2.conj_a, F2.conj_b, F2.of_a, F2.of_b, F2.norm, F2.sm_a, F2.sm_b, F2.one_a, F2.one_b, F2.zero_a, F2.zero_b, Fp.n_zero, Fp.n_one, Fp.mz, Fp.zm, Fp.nz, Fp.zz, Fp.za, Fp.zs, Fp.cr.mul_one, Fp.cr.one_mul, Fp.cr.add_zero, Fp.cr.zero_add]
  try grind
set_option maxRecDepth 100000 in
set_option maxHeartbeats 4000000 in
theorem turns_long (A0 : Option Addr) (L0 C0 : Nat) (bs0 : List Int) (A1 : Option Addr) (L1 C1 : Nat) (bs1 : List Int) (v : World) (hG : Glo0 v) (hH : GShp v) (hr0 : Reads v v.heap.size A0 L0 (bs0.map (Value.int .u8))) (ho0 : Oct bs0) (hr1 : Reads v v.heap.size A1 L1 (bs1.map (Value.int .u8))) (ho1 : Oct bs1) (hlong : 64 < L0 ∨ 64 < L1) : Rets 4 #[.slice A0 L0 C0, .slice A1 L1 C1] v (.bool true) := by
  have hn0 : bs0.length = L0 := by simpa using hr0.1
  have hn1 : bs1.length = L1 := by simpa using hr1.1
  refine calls_fr2 Tryd.func4 rfl (by rfl : _ = 66) (by rfl) ?_
  have hw := Hbl.nil v
  refine seq_plain hw [0] (by rfl) ?_
  refine L_val (.bool false) (by rfl) (by rfl) (gives_value _ fun _ => by rfl) ?_
  refine L_end ?_
  intro w1 hw1
  refine wp_seq ?_
  refine seq_plain hw1 [0, 1] (by rfl) ?_
  refine L_val (.bool true) (by rfl) (by rfl) (gives_call (vl := []) (by kernel_rfl) (by rfl) (fun w h => q_head w (hG.keep h.below))) ?_
  refine L_val (.bool false) (by rfl) (by rfl) (gives_value _ fun _ => by rfl) ?_
  refine L_end ?_
  intro w2 hw2
  refine wp_cond_false (fr_at _ _ (by rfl) _) ?_
  refine wp_skip ?_
  change Code.wp _ _ _ _ _
  refine wp_seq ?_
  refine seq_plain hw2 [0, 1, 2] (by rfl) ?_
  refine L_val (.slice A0 L0 C0) (by rfl) (by rfl) (gives_value _ fun _ => by rfl) ?_
  refine L_val (.slice A1 L1 C1) (by rfl) (by rfl) (gives_value _ fun _ => by rfl) ?_
  refine L_val (.bool true) (by rfl) (by rfl) (gives_call (vl := [.slice A0 L0 C0, .slice A1 L1 C1, .slice none 0 0, .slice none 0 0]) (by kernel_rfl) (by rfl) (fun w h => long_yes _ _ _ _ _ _ _ _ _ _ _ _ w (by omega))) ?_
  refine L_end ?_
  intro w3 hw3
  refine wp_cond_true (fr_at _ _ (by rfl) _) ?_
  refine seq_plain hw3 [0] (by rfl) ?_
  refine L_val (.bool true) (by rfl) (by rfl) (gives_value _ fun _ => by rfl) ?_
  refine L_end ?_
  intro w4 hw4
  refine wp_ret ?_
  change bodyPost _ _ _ Exit.ret _ _
  refine (ret_tmp (by rfl) (by rfl) (by rfl) ⟨?_, hw4.below⟩)
  exact rfl
set_option maxRecDepth 100000 in
set_option maxHeartbeats 4000000 in
theorem turns_short (A0 : Option Addr) (L0 C0 : Nat) (bs0 : List Int) (A1 : Option Addr) (L1 C1 : Nat) (bs1 : List Int) (v : World) (hG : Glo0 v) (hH : GShp v) (hr0 : Reads v v.heap.size A0 L0 (bs0.map (Value.int .u8))) (ho0 : Oct bs0) (hr1 : Reads v v.heap.size A1 L1 (bs1.map (Value.int .u8))) (ho1 : Oct bs1) (hs0 : L0 ≤ 64) (hs1 : L1 ≤ 64) : Rets 4 #[.slice A0 L0 C0, .slice A1 L1 C1] v (.bool true) := by
  have hn0 : bs0.length = L0 := by simpa using hr0.1
  have hn1 : bs1.length = L1 := by simpa using hr1.1
  obtain ⟨k0, hk0⟩ : ∃ k : F2, k = F2.sm 0 1 := ⟨_, rfl⟩
  refine calls_fr2 Tryd.func4 rfl (by rfl : _ = 66) (by rfl) ?_
  have hw := Hbl.nil v
  refine seq_plain hw [0] (by rfl) ?_
  refine L_val (.bool false) (by rfl) (by rfl) (gives_value _ fun _ => by rfl) ?_
  refine L_end ?_
  intro w1 hw1
  refine wp_seq ?_
  refine seq_plain hw1 [0, 1] (by rfl) ?_
  refine L_val (.bool true) (by rfl) (by rfl) (gives_call (vl := []) (by kernel_rfl) (by rfl) (fun w h => q_head w (hG.keep h.below))) ?_
  refine L_val (.bool false) (by rfl) (by rfl) (gives_value _ fun _ => by rfl) ?_
  refine L_end ?_
  intro w2 hw2
  refine wp_cond_false (fr_at _ _ (by rfl) _) ?_
  refine wp_skip ?_
  change Code.wp _ _ _ _ _
  refine wp_seq ?_
  refine seq_plain hw2 [0, 1, 2] (by rfl) ?_
  refine L_val (.slice A0 L0 C0) (by rfl) (by rfl) (gives_value _ fun _ => by rfl) ?_
  refine L_val (.slice A1 L1 C1) (by rfl) (by rfl) (gives_value _ fun _ => by rfl) ?_
  refine L_val (.bool false) (by rfl) (by rfl) (gives_call (vl := [.slice A0 L0 C0, .slice A1 L1 C1, .slice none 0 0, .slice none 0 0]) (by kernel_rfl) (by rfl) (fun w h => long_no _ _ _ _ _ _ _ _ _ _ _ _ w (by omega) (by omega) (by omega) (by omega))) ?_
  refine L_end ?_
  intro w3 hw3
  refine wp_cond_false (fr_at _ _ (by rfl) _) ?_
  refine wp_skip ?_
  change Code.wp _ _ _ _ _
  refine seq_plain hw3 [0, 1, 2, 3, 4, 5, 6, 7, 8] (by rfl) ?_
  refine L_val (.slice A0 L0 C0) (by rfl) (by rfl) (gives_value _ fun _ => by rfl) ?_
  refine L_fresh 5 (ag8 bs0) (fun g => .slice (some ⟨g, 0, none⟩) L0 L0) (by rfl) (by rfl) (by kernel_rfl) (by rfl) (fun w h => copy_any w A0 L0 C0 bs0 ((hr0.below h.below).more h.below.size) (by omega)) ?_; intro g1
  refine L_val (.agg (pc (Fp.n (num bs0)))) (by rfl) (by rfl) (gives_call (vl := [.slice (some ⟨g1, 0, none⟩) L0 L0]) (by kernel_rfl) (by rfl) (fun w h => v_wide _ _ _ bs0 w (hG.keep h.below) (hH.keep h.below) (copy_reads (h.blk 0 (by rfl)) hn0) ho0 (Nat.le_refl _) (by omega))) ?_
  refine L_val (.slice A1 L1 C1) (by rfl) (by rfl) (gives_value _ fun _ => by rfl) ?_
  refine L_fresh 5 (ag8 bs1) (fun g => .slice (some ⟨g, 0, none⟩) L1 L1) (by rfl) (by rfl) (by kernel_rfl) (by rfl) (fun w h => copy_any w A1 L1 C1 bs1 ((hr1.below h.below).more h.below.size) (by omega)) ?_; intro g2
  refine L_val (.agg (pc (Fp.n (num bs1)))) (by rfl) (by rfl) (gives_call (vl := [.slice (some ⟨g2, 0, none⟩) L1 L1]) (by kernel_rfl) (by rfl) (fun w h => v_wide _ _ _ bs1 w (hG.keep h.below) (hH.keep h.below) (copy_reads (h.blk 0 (by rfl)) hn1) ho1 (Nat.le_refl _) (by omega))) ?_
  refine L_val (.agg (c2 (⟨Fp.n (num bs0), Fp.n (num bs1)⟩ : F2))) (by rfl) (by rfl) (gb_fp2 [(0, (pc (Fp.n (num bs0)))), (1, (pc (Fp.n (num bs1))))] ⟨congrArg some (pc_size _).symm, congrArg some (pc_size _).symm, trivial⟩ (by rfl) (c2 (⟨Fp.n (num bs0), Fp.n (num bs1)⟩ : F2)) (by rfl)) ?_
  refine L_alloc _ (by rfl) (by rfl) z_2 (c2 (0 : F2)) rfl ?_; intro g3
  refine L_store (t := 36) 0 g3 (c2 (0 : F2)) (c2 (⟨Fp.n (num bs0), Fp.n (num bs1)⟩ : F2)) (by rfl) (by rfl) (by rfl) (by rfl) (by rfl) (hi_2 _) ((c2_size _).trans (c2_size _).symm) (c2_one _) ?_
  simp only [List.set_cons_zero, List.set_cons_succ]
  refine L_end ?_
  intro w4 hw4
  refine seq_plain hw4 [0, 1, 2] (by rfl) ?_
  refine L_val (.agg (c2 (k0))) (by rfl) (by rfl) (gives_call (vl := [.int .u64 0, .int .u64 1]) (by kernel_rfl) (by rfl) (fun w h => by rw [hk0]; exact q_small _ _ w (hG.keep h.below) (by omega) (by simp only [Wd]; omega) (by omega) (by simp only [Wd]; omega))) ?_
  refine L_alloc _ (by rfl) (by rfl) z_2 (c2 (0 : F2)) rfl ?_; intro g4
  refine L_store (t := 36) 0 g4 (c2 (0 : F2)) (c2 (k0)) (by rfl) (by rfl) (by rfl) (by rfl) (by rfl) (hi_2 _) ((c2_size _).trans (c2_size _).symm) (c2_one _) ?_
  simp only [List.set_cons_zero, List.set_cons_succ]
  refine L_end ?_
  intro w5 hw5
  refine seq_plain hw5 [0, 1, 2, 3, 4] (by rfl) ?_
  refine L_val (.agg (c2 (⟨Fp.n (num bs0), Fp.n (num bs1)⟩ : F2))) (by rfl) (by rfl) (gives_load g3 0 36 (c2 (⟨Fp.n (num bs0), Fp.n (num bs1)⟩ : F2)) (c2 (⟨Fp.n (num bs0), Fp.n (num bs1)⟩ : F2)) _ (by rfl) (fun _ h => h.blk 1 (by rfl)) (Sl.refl _) Tryd.underlying36 (by rfl) (hi_2 _)) ?_
  refine L_val (.agg (c2 (k0))) (by rfl) (by rfl) (gives_load g4 0 36 (c2 (k0)) (c2 (k0)) _ (by rfl) (fun _ h => h.blk 0 (by rfl)) (Sl.refl _) Tryd.underlying36 (by rfl) (hi_2 _)) ?_
  refine L_val (.agg (c2 ((⟨Fp.n (num bs0), Fp.n (num bs1)⟩ : F2) * (k0)))) (by rfl) (by rfl) (gives_call (vl := [.agg (c2 (⟨Fp.n (num bs0), Fp.n (num bs1)⟩ : F2)), .agg (c2 (k0))]) (by kernel_rfl) (by rfl) (fun w h => q_mul _ _ w (hG.keep h.below))) ?_
  refine L_alloc _ (by rfl) (by rfl) z_2 (c2 (0 : F2)) rfl ?_; intro g5
  refine L_store (t := 36) 0 g5 (c2 (0 : F2)) (c2 ((⟨Fp.n (num bs0), Fp.n (num bs1)⟩ : F2) * (k0))) (by rfl) (by rfl) (by rfl) (by rfl) (by rfl) (hi_2 _) ((c2_size _).trans (c2_size _).symm) (c2_one _) ?_
  simp only [List.set_cons_zero, List.set_cons_succ]
  refine L_end ?_
  intro w6 hw6
  refine seq_flow (by kernel_rfl) hw6 [] [(g5, 36, (c2 ((⟨Fp.n (num bs0), Fp.n (num bs1)⟩ : F2) * (k0)))), (g4, 36, (c2 (k0))), (g3, 36, (c2 (⟨Fp.n (num bs0), Fp.n (num bs1)⟩ : F2))), (g2, 5, (ag8 bs1)), (g1, 5, (ag8 bs0))] 43 (by rfl) ?_
  refine flow_take (i := 0) (.agg (c2 ((⟨Fp.n (num bs0), Fp.n (num bs1)⟩ : F2) * (k0)))) (by rfl) (by kernel_rfl) (by kernel_rfl) (by kernel_rfl) (by rfl) (by kernel_rfl) (List.Sublist.refl _) (gives_load g5 0 36 (c2 ((⟨Fp.n (num bs0), Fp.n (num bs1)⟩ : F2) * (k0))) (c2 ((⟨Fp.n (num bs0), Fp.n (num bs1)⟩ : F2) * (k0))) _ (by rfl) (fun _ h => h.blk 0 (by rfl)) (Sl.refl _) Tryd.underlying36 (by rfl) (hi_2 _)) ?_
  refine flow_take (i := 1) (.pointer (some ⟨g3, 6, none⟩)) (by rfl) (by kernel_rfl) (by kernel_rfl) (by kernel_rfl) (by rfl) (by kernel_rfl) (List.Sublist.refl _) (gives_value _ fun _ => by kernel_rfl) ?_
  refine flow_take (i := 2) (.agg (pc ((⟨Fp.n (num bs0), Fp.n (num bs1)⟩ : F2).b))) (by rfl) (by kernel_rfl) (by kernel_rfl) (by kernel_rfl) (by rfl) (by kernel_rfl) (List.Sublist.refl _) (gives_load g3 6 36 (c2 (⟨Fp.n (num bs0), Fp.n (num bs1)⟩ : F2)) (pc ((⟨Fp.n (num bs0), Fp.n (num bs1)⟩ : F2).b)) _ (by rfl) (fun _ h => h.blk 2 (by rfl)) (sl_2b (⟨Fp.n (num bs0), Fp.n (num bs1)⟩ : F2) _ _ 6 (Sl.refl _) (by rfl)) Tryd.underlying27 (by rfl) (hi_1 _)) ?_
  refine flow_take (i := 3) (.agg (pc (-((⟨Fp.n (num bs0), Fp.n (num bs1)⟩ : F2).b)))) (by rfl) (by kernel_rfl) (by kernel_rfl) (by kernel_rfl) (by rfl) (by kernel_rfl) (List.Sublist.refl _) (gives_call (vl := [.agg (pc ((⟨Fp.n (num bs0), Fp.n (num bs1)⟩ : F2).b))]) (by kernel_rfl) (by rfl) (fun w h => v_neg _ w (hG.keep h.below))) ?_
  refine flow_take (i := 4) (.pointer (some ⟨g3, 0, none⟩)) (by rfl) (by kernel_rfl) (by kernel_rfl) (by kernel_rfl) (by rfl) (by kernel_rfl) (List.Sublist.refl _) (gives_value _ fun _ => by kernel_rfl) ?_
  refine flow_take (i := 5) (.agg (pc ((⟨Fp.n (num bs0), Fp.n (num bs1)⟩ : F2).a))) (by rfl) (by kernel_rfl) (by kernel_rfl) (by kernel_rfl) (by rfl) (by kernel_rfl) (List.Sublist.refl _) (gives_load g3 0 36 (c2 (⟨Fp.n (num bs0), Fp.n (num bs1)⟩ : F2)) (pc ((⟨Fp.n (num bs0), Fp.n (num bs1)⟩ : F2).a)) _ (by rfl) (fun _ h => h.blk 2 (by rfl)) (sl_2a (⟨Fp.n (num bs0), Fp.n (num bs1)⟩ : F2) _ _ (Sl.refl _)) Tryd.underlying27 (by rfl) (hi_1 _)) ?_
  refine flow_take (i := 6) (.agg (c2 (⟨-((⟨Fp.n (num bs0), Fp.n (num bs1)⟩ : F2).b), (⟨Fp.n (num bs0), Fp.n (num bs1)⟩ : F2).a⟩ : F2))) (by rfl) (by kernel_rfl) (by kernel_rfl) (by kernel_rfl) (by rfl) (by kernel_rfl) (List.Sublist.refl _) (gb_fp2 [(0, (pc (-((⟨Fp.n (num bs0), Fp.n (num bs1)⟩ : F2).b)))), (1, (pc ((⟨Fp.n (num bs0), Fp.n (num bs1)⟩ : F2).a)))] ⟨congrArg some (pc_size _).symm, congrArg some (pc_size _).symm, trivial⟩ (by rfl) (c2 (⟨-((⟨Fp.n (num bs0), Fp.n (num bs1)⟩ : F2).b), (⟨Fp.n (num bs0), Fp.n (num bs1)⟩ : F2).a⟩ : F2)) (by rfl)) ?_
  refine flow_take (i := 7) (.bool true) (by rfl) (by kernel_rfl) (by kernel_rfl) (by kernel_rfl) (by rfl) (by kernel_rfl) (List.Sublist.refl _) (gives_eql (c2 ((⟨Fp.n (num bs0), Fp.n (num bs1)⟩ : F2) * (k0))) (c2 (⟨-((⟨Fp.n (num bs0), Fp.n (num bs1)⟩ : F2).b), (⟨Fp.n (num bs0), Fp.n (num bs1)⟩ : F2).a⟩ : F2)) true (by rfl) (by rfl) (by kernel_rfl) (fun w => eq_2_t (d := 9996) w (turns_e0 (Fp.n (num bs0)) (Fp.n (num bs1)) hk0))) ?_
  refine flow_take (i := 8) (.bool true) (by rfl) (by kernel_rfl) (by kernel_rfl) (by kernel_rfl) (by rfl) (by kernel_rfl) (List.Sublist.refl _) (gives_value _ fun _ => by rfl) ?_
  refine flow_take_g (i := 9) (dj := 32) (.agg (c2 ((⟨Fp.n (num bs0), Fp.n (num bs1)⟩ : F2) * (k0)))) (by rfl) (by kernel_rfl) (by kernel_rfl) (by kernel_rfl) (by rfl) (by kernel_rfl) (List.Sublist.refl _) (by rfl) (by rfl) (by rfl) (gives_load g5 0 36 (c2 ((⟨Fp.n (num bs0), Fp.n (num bs1)⟩ : F2) * (k0))) (c2 ((⟨Fp.n (num bs0), Fp.n (num bs1)⟩ : F2) * (k0))) _ (by rfl) (fun _ h => h.blk 0 (by rfl)) (Sl.refl _) Tryd.underlying36 (by rfl) (hi_2 _)) ?_
  refine flow_take_g (i := 10) (dj := 32) (.agg (c2 (k0))) (by rfl) (by kernel_rfl) (by kernel_rfl) (by kernel_rfl) (by rfl) (by kernel_rfl) (List.Sublist.refl _) (by rfl) (by rfl) (by rfl) (gives_load g4 0 36 (c2 (k0)) (c2 (k0)) _ (by rfl) (fun _ h => h.blk 1 (by rfl)) (Sl.refl _) Tryd.underlying36 (by rfl) (hi_2 _)) ?_
  refine flow_take_g (i := 11) (dj := 32) (.agg (c2 (((⟨Fp.n (num bs0), Fp.n (num bs1)⟩ : F2) * (k0)) * (k0)))) (by rfl) (by kernel_rfl) (by kernel_rfl) (by kernel_rfl) (by rfl) (by kernel_rfl) (List.Sublist.refl _) (by rfl) (by rfl) (by rfl) (gives_call (vl := [.agg (c2 ((⟨Fp.n (num bs0), Fp.n (num bs1)⟩ : F2) * (k0))), .agg (c2 (k0))]) (by kernel_rfl) (by rfl) (fun w h => q_mul _ _ w (hG.keep h.below))) ?_
  refine flow_take_g (i := 12) (dj := 32) (.agg (c2 (⟨Fp.n (num bs0), Fp.n (num bs1)⟩ : F2))) (by rfl) (by kernel_rfl) (by kernel_rfl) (by kernel_rfl) (by rfl) (by kernel_rfl) (List.Sublist.refl _) (by rfl) (by rfl) (by rfl) (gives_load g3 0 36 (c2 (⟨Fp.n (num bs0), Fp.n (num bs1)⟩ : F2)) (c2 (⟨Fp.n (num bs0), Fp.n (num bs1)⟩ : F2)) _ (by rfl) (fun _ h => h.blk 2 (by rfl)) (Sl.refl _) Tryd.underlying36 (by rfl) (hi_2 _)) ?_
  refine flow_take_g (i := 13) (dj := 32) (.agg (c2 (-(⟨Fp.n (num bs0), Fp.n (num bs1)⟩ : F2)))) (by rfl) (by kernel_rfl) (by kernel_rfl) (by kernel_rfl) (by rfl) (by kernel_rfl) (List.Sublist.refl _) (by rfl) (by rfl) (by rfl) (gives_call (vl := [.agg (c2 (⟨Fp.n (num bs0), Fp.n (num bs1)⟩ : F2))]) (by kernel_rfl) (by rfl) (fun w h => q_neg _ w (hG.keep h.below))) ?_
  refine flow_take_g (i := 14) (dj := 32) (.bool true) (by rfl) (by kernel_rfl) (by kernel_rfl) (by kernel_rfl) (by rfl) (by kernel_rfl) (List.Sublist.refl _) (by rfl) (by rfl) (by rfl) (gives_eql (c2 (((⟨Fp.n (num bs0), Fp.n (num bs1)⟩ : F2) * (k0)) * (k0))) (c2 (-(⟨Fp.n (num bs0), Fp.n (num bs1)⟩ : F2))) true (by rfl) (by rfl) (by kernel_rfl) (fun w => eq_2_t (d := 9996) w (turns_e1 (Fp.n (num bs0)) (Fp.n (num bs1)) hk0))) ?_
  refine flow_take (i := 15) (.bool true) (by rfl) (by kernel_rfl) (by kernel_rfl) (by kernel_rfl) (by rfl) (by kernel_rfl) (List.Sublist.refl _) (gives_value _ fun _ => by rfl) ?_
  refine flow_take (i := 16) (.bool true) (by rfl) (by kernel_rfl) (by kernel_rfl) (by kernel_rfl) (by rfl) (by kernel_rfl) (List.Sublist.refl _) (gives_value _ fun _ => by rfl) ?_
  refine flow_take_g (i := 17) (dj := 40) (.agg (c2 ((⟨Fp.n (num bs0), Fp.n (num bs1)⟩ : F2) * (k0)))) (by rfl) (by kernel_rfl) (by kernel_rfl) (by kernel_rfl) (by rfl) (by kernel_rfl) (List.Sublist.refl _) (by rfl) (by rfl) (by rfl) (gives_load g5 0 36 (c2 ((⟨Fp.n (num bs0), Fp.n (num bs1)⟩ : F2) * (k0))) (c2 ((⟨Fp.n (num bs0), Fp.n (num bs1)⟩ : F2) * (k0))) _ (by rfl) (fun _ h => h.blk 0 (by rfl)) (Sl.refl _) Tryd.underlying36 (by rfl) (hi_2 _)) ?_
  refine flow_take_g (i := 18) (dj := 40) (.agg (c2 (k0))) (by rfl) (by kernel_rfl) (by kernel_rfl) (by kernel_rfl) (by rfl) (by kernel_rfl) (List.Sublist.refl _) (by rfl) (by rfl) (by rfl) (gives_load g4 0 36 (c2 (k0)) (c2 (k0)) _ (by rfl) (fun _ h => h.blk 1 (by rfl)) (Sl.refl _) Tryd.underlying36 (by rfl) (hi_2 _)) ?_
  refine flow_take_g (i := 19) (dj := 40) (.agg (c2 (((⟨Fp.n (num bs0), Fp.n (num bs1)⟩ : F2) * (k0)) * (k0)))) (by rfl) (by kernel_rfl) (by kernel_rfl) (by kernel_rfl) (by rfl) (by kernel_rfl) (List.Sublist.refl _) (by rfl) (by rfl) (by rfl) (gives_call (vl := [.agg (c2 ((⟨Fp.n (num bs0), Fp.n (num bs1)⟩ : F2) * (k0))), .agg (c2 (k0))]) (by kernel_rfl) (by rfl) (fun w h => q_mul _ _ w (hG.keep h.below))) ?_
  refine flow_take_g (i := 20) (dj := 40) (.agg (c2 (k0))) (by rfl) (by kernel_rfl) (by kernel_rfl) (by kernel_rfl) (by rfl) (by kernel_rfl) (List.Sublist.refl _) (by rfl) (by rfl) (by rfl) (gives_load g4 0 36 (c2 (k0)) (c2 (k0)) _ (by rfl) (fun _ h => h.blk 1 (by rfl)) (Sl.refl _) Tryd.underlying36 (by rfl) (hi_2 _)) ?_
  refine flow_take_g (i := 21) (dj := 40) (.agg (c2 ((((⟨Fp.n (num bs0), Fp.n (num bs1)⟩ : F2) * (k0)) * (k0)) * (k0)))) (by rfl) (by kernel_rfl) (by kernel_rfl) (by kernel_rfl) (by rfl) (by kernel_rfl) (List.Sublist.refl _) (by rfl) (by rfl) (by rfl) (gives_call (vl := [.agg (c2 (((⟨Fp.n (num bs0), Fp.n (num bs1)⟩ : F2) * (k0)) * (k0))), .agg (c2 (k0))]) (by kernel_rfl) (by rfl) (fun w h => q_mul _ _ w (hG.keep h.below))) ?_
  refine flow_take_g (i := 22) (dj := 40) (.agg (c2 (k0))) (by rfl) (by kernel_rfl) (by kernel_rfl) (by kernel_rfl) (by rfl) (by kernel_rfl) (List.Sublist.refl _) (by rfl) (by rfl) (by rfl) (gives_load g4 0 36 (c2 (k0)) (c2 (k0)) _ (by rfl) (fun _ h => h.blk 1 (by rfl)) (Sl.refl _) Tryd.underlying36 (by rfl) (hi_2 _)) ?_
  refine flow_take_g (i := 23) (dj := 40) (.agg (c2 (((((⟨Fp.n (num bs0), Fp.n (num bs1)⟩ : F2) * (k0)) * (k0)) * (k0)) * (k0)))) (by rfl) (by kernel_rfl) (by kernel_rfl) (by kernel_rfl) (by rfl) (by kernel_rfl) (List.Sublist.refl _) (by rfl) (by rfl) (by rfl) (gives_call (vl := [.agg (c2 ((((⟨Fp.n (num bs0), Fp.n (num bs1)⟩ : F2) * (k0)) * (k0)) * (k0))), .agg (c2 (k0))]) (by kernel_rfl) (by rfl) (fun w h => q_mul _ _ w (hG.keep h.below))) ?_
  refine flow_take_g (i := 24) (dj := 40) (.agg (c2 (⟨Fp.n (num bs0), Fp.n (num bs1)⟩ : F2))) (by rfl) (by kernel_rfl) (by kernel_rfl) (by kernel_rfl) (by rfl) (by kernel_rfl) (List.Sublist.refl _) (by rfl) (by rfl) (by rfl) (gives_load g3 0 36 (c2 (⟨Fp.n (num bs0), Fp.n (num bs1)⟩ : F2)) (c2 (⟨Fp.n (num bs0), Fp.n (num bs1)⟩ : F2)) _ (by rfl) (fun _ h => h.blk 2 (by rfl)) (Sl.refl _) Tryd.underlying36 (by rfl) (hi_2 _)) ?_
  refine flow_take_g (i := 25) (dj := 40) (.bool true) (by rfl) (by kernel_rfl) (by kernel_rfl) (by kernel_rfl) (by rfl) (by kernel_rfl) (List.Sublist.refl _) (by rfl) (by rfl) (by rfl) (gives_eql (c2 (((((⟨Fp.n (num bs0), Fp.n (num bs1)⟩ : F2) * (k0)) * (k0)) * (k0)) * (k0))) (c2 (⟨Fp.n (num bs0), Fp.n (num bs1)⟩ : F2)) true (by rfl) (by rfl) (by kernel_rfl) (fun w => eq_2_t (d := 9996) w (turns_e2 (Fp.n (num bs0)) (Fp.n (num bs1)) hk0))) ?_
  refine flow_take (i := 26) (.bool true) (by rfl) (by kernel_rfl) (by kernel_rfl) (by kernel_rfl) (by rfl) (by kernel_rfl) (List.Sublist.refl _) (gives_value _ fun _ => by rfl) ?_
  refine flow_take (i := 27) (.bool true) (by rfl) (by kernel_rfl) (by kernel_rfl) (by kernel_rfl) (by rfl) (by kernel_rfl) (List.Sublist.refl _) (gives_value _ fun _ => by rfl) ?_
  refine flow_take_g (i := 28) (dj := 51) (.agg (c2 ((⟨Fp.n (num bs0), Fp.n (num bs1)⟩ : F2) * (k0)))) (by rfl) (by kernel_rfl) (by kernel_rfl) (by kernel_rfl) (by rfl) (by kernel_rfl) (List.Sublist.refl _) (by rfl) (by rfl) (by rfl) (gives_load g5 0 36 (c2 ((⟨Fp.n (num bs0), Fp.n (num bs1)⟩ : F2) * (k0))) (c2 ((⟨Fp.n (num bs0), Fp.n (num bs1)⟩ : F2) * (k0))) _ (by rfl) (fun _ h => h.blk 0 (by rfl)) (Sl.refl _) Tryd.underlying36 (by rfl) (hi_2 _)) ?_
  refine flow_take_g (i := 29) (dj := 51) (.agg (pc (F2.norm ((⟨Fp.n (num bs0), Fp.n (num bs1)⟩ : F2) * (k0))))) (by rfl) (by kernel_rfl) (by kernel_rfl) (by kernel_rfl) (by rfl) (by kernel_rfl) (List.Sublist.refl _) (by rfl) (by rfl) (by rfl) (gives_call (vl := [.agg (c2 ((⟨Fp.n (num bs0), Fp.n (num bs1)⟩ : F2) * (k0)))]) (by kernel_rfl) (by rfl) (fun w h => q_norm _ w (hG.keep h.below))) ?_
  refine flow_take_g (i := 30) (dj := 51) (.agg (c2 (⟨Fp.n (num bs0), Fp.n (num bs1)⟩ : F2))) (by rfl) (by kernel_rfl) (by kernel_rfl) (by kernel_rfl) (by rfl) (by kernel_rfl) (List.Sublist.refl _) (by rfl) (by rfl) (by rfl) (gives_load g3 0 36 (c2 (⟨Fp.n (num bs0), Fp.n (num bs1)⟩ : F2)) (c2 (⟨Fp.n (num bs0), Fp.n (num bs1)⟩ : F2)) _ (by rfl) (fun _ h => h.blk 2 (by rfl)) (Sl.refl _) Tryd.underlying36 (by rfl) (hi_2 _)) ?_
  refine flow_take_g (i := 31) (dj := 51) (.agg (pc (F2.norm (⟨Fp.n (num bs0), Fp.n (num bs1)⟩ : F2)))) (by rfl) (by kernel_rfl) (by kernel_rfl) (by kernel_rfl) (by rfl) (by kernel_rfl) (List.Sublist.refl _) (by rfl) (by rfl) (by rfl) (gives_call (vl := [.agg (c2 (⟨Fp.n (num bs0), Fp.n (num bs1)⟩ : F2))]) (by kernel_rfl) (by rfl) (fun w h => q_norm _ w (hG.keep h.below))) ?_
  refine flow_take_g (i := 32) (dj := 51) (.bool true) (by rfl) (by kernel_rfl) (by kernel_rfl) (by kernel_rfl) (by rfl) (by kernel_rfl) (List.Sublist.refl _) (by rfl) (by rfl) (by rfl) (gives_eql (pc (F2.norm ((⟨Fp.n (num bs0), Fp.n (num bs1)⟩ : F2) * (k0)))) (pc (F2.norm (⟨Fp.n (num bs0), Fp.n (num bs1)⟩ : F2))) true (by rfl) (by rfl) (by kernel_rfl) (fun w => eq_1_t (d := 9997) w (turns_e3 (Fp.n (num bs0)) (Fp.n (num bs1)) hk0))) ?_
  refine flow_take (i := 33) (.bool true) (by rfl) (by kernel_rfl) (by kernel_rfl) (by kernel_rfl) (by rfl) (by kernel_rfl) (List.Sublist.refl _) (gives_value _ fun _ => by rfl) ?_
  refine flow_take (i := 34) (.bool true) (by rfl) (by kernel_rfl) (by kernel_rfl) (by kernel_rfl) (by rfl) (by kernel_rfl) (List.Sublist.refl _) (gives_value _ fun _ => by rfl) ?_
  refine flow_take_g (i := 35) (dj := 58) (.agg (c2 (⟨Fp.n (num bs0), Fp.n (num bs1)⟩ : F2))) (by rfl) (by kernel_rfl) (by kernel_rfl) (by kernel_rfl) (by rfl) (by kernel_rfl) (List.Sublist.refl _) (by rfl) (by rfl) (by rfl) (gives_load g3 0 36 (c2 (⟨Fp.n (num bs0), Fp.n (num bs1)⟩ : F2)) (c2 (⟨Fp.n (num bs0), Fp.n (num bs1)⟩ : F2)) _ (by rfl) (fun _ h => h.blk 2 (by rfl)) (Sl.refl _) Tryd.underlying36 (by rfl) (hi_2 _)) ?_
  refine flow_take_g (i := 36) (dj := 58) (.agg (pc (F2.norm (⟨Fp.n (num bs0), Fp.n (num bs1)⟩ : F2)))) (by rfl) (by kernel_rfl) (by kernel_rfl) (by kernel_rfl) (by rfl) (by kernel_rfl) (List.Sublist.refl _) (by rfl) (by rfl) (by rfl) (gives_call (vl := [.agg (c2 (⟨Fp.n (num bs0), Fp.n (num bs1)⟩ : F2))]) (by kernel_rfl) (by rfl) (fun w h => q_norm _ w (hG.keep h.below))) ?_
  refine flow_take_g (i := 37) (dj := 58) (.bool (decide ((F2.norm (⟨Fp.n (num bs0), Fp.n (num bs1)⟩ : F2)) = 0))) (by rfl) (by kernel_rfl) (by kernel_rfl) (by kernel_rfl) (by rfl) (by kernel_rfl) (List.Sublist.refl _) (by rfl) (by rfl) (by rfl) (gives_call (vl := [.agg (pc (F2.norm (⟨Fp.n (num bs0), Fp.n (num bs1)⟩ : F2)))]) (by kernel_rfl) (by rfl) (fun w h => v_zero _ w (hG.keep h.below))) ?_
  refine flow_take_g (i := 38) (dj := 58) (.agg (c2 (⟨Fp.n (num bs0), Fp.n (num bs1)⟩ : F2))) (by rfl) (by kernel_rfl) (by kernel_rfl) (by kernel_rfl) (by rfl) (by kernel_rfl) (List.Sublist.refl _) (by rfl) (by rfl) (by rfl) (gives_load g3 0 36 (c2 (⟨Fp.n (num bs0), Fp.n (num bs1)⟩ : F2)) (c2 (⟨Fp.n (num bs0), Fp.n (num bs1)⟩ : F2)) _ (by rfl) (fun _ h => h.blk 2 (by rfl)) (Sl.refl _) Tryd.underlying36 (by rfl) (hi_2 _)) ?_
  refine flow_take_g (i := 39) (dj := 58) (.bool (decide ((⟨Fp.n (num bs0), Fp.n (num bs1)⟩ : F2) = 0))) (by rfl) (by kernel_rfl) (by kernel_rfl) (by kernel_rfl) (by rfl) (by kernel_rfl) (List.Sublist.refl _) (by rfl) (by rfl) (by rfl) (gives_call (vl := [.agg (c2 (⟨Fp.n (num bs0), Fp.n (num bs1)⟩ : F2))]) (by kernel_rfl) (by rfl) (fun w h => q_zero _ w (hG.keep h.below))) ?_
  refine flow_take_g (i := 40) (dj := 58) (.bool true) (by rfl) (by kernel_rfl) (by kernel_rfl) (by kernel_rfl) (by rfl) (by kernel_rfl) (List.Sublist.refl _) (by rfl) (by rfl) (by rfl) (gives_eqlb _ _ (by rfl) (by rfl) (by rfl) (decide_eq_decide.2 (F2.norm_zero _))) ?_
  refine flow_take (i := 41) (.bool true) (by rfl) (by kernel_rfl) (by kernel_rfl) (by kernel_rfl) (by rfl) (by kernel_rfl) (List.Sublist.refl _) (gives_value _ fun _ => by rfl) ?_
  refine flow_take (i := 42) (.bool true) (by rfl) (by kernel_rfl) (by kernel_rfl) (by kernel_rfl) (by rfl) (by kernel_rfl) (List.Sublist.refl _) (gives_value _ fun _ => by rfl) ?_
  refine flow_done (by kernel_rfl) ?_
  intro w7 hw7
  refine wp_ret ?_
  change bodyPost _ _ _ Exit.ret _ _
  refine (ret_tmp (by rfl) (by rfl) (by rfl) ⟨?_, hw7.below⟩)
  exact rfl
theorem turns_any (A0 : Option Addr) (L0 C0 : Nat) (bs0 : List Int) (A1 : Option Addr) (L1 C1 : Nat) (bs1 : List Int) (v : World) (hG : Glo0 v) (hH : GShp v) (hr0 : Reads v v.heap.size A0 L0 (bs0.map (Value.int .u8))) (ho0 : Oct bs0) (hr1 : Reads v v.heap.size A1 L1 (bs1.map (Value.int .u8))) (ho1 : Oct bs1) : Rets 4 #[.slice A0 L0 C0, .slice A1 L1 C1] v (.bool true) := by
  by_cases hlong : 64 < L0 ∨ 64 < L1
  · exact turns_long A0 L0 C0 bs0 A1 L1 C1 bs1 v hG hH hr0 ho0 hr1 ho1 hlong
  · exact turns_short A0 L0 C0 bs0 A1 L1 C1 bs1 v hG hH hr0 ho0 hr1 ho1 (by omega) (by omega)
end Go.Proofs.YtnebmgiajfbnaaaDoor
