/-
  Fp2Roots: the walk.
-/
import Derived.Test.YthfdohhglnhonaaDoorFn3
import Derived.Test.YthfdohhglnhonaaDoorFpRoots
import Derived.Test.YthfdohhglnhonaaDoorFs
namespace Go.Proofs.YthfdohhglnhonaaDoor
set_option linter.unusedSimpArgs false
set_option linter.unusedVariables false
open Go.RowKit
theorem sq5 (x : F2) : (x.norm.val : Int) ^ Qp % Mp * ((x.norm.val : Int) ^ Qp % Mp) % Mp = (x.norm.val : Int) ↔ x.sq := by
  rw [F2.sq_iff]
  unfold Fp.sq
  rw [← Fp.rt_iff, ← Int.mul_emod, Int.emod_eq_of_lt (Int.natCast_nonneg _) (Fp.val_lt _)]
theorem n_same0 (w : World) (A : Option Addr) (n c : Nat) (x : Fp) (h : NumAt w A n (x.val : Int)) (z : Bool) (hz : decide (x = 0) = z) : Rets 39 #[.slice A n c, .slice none 0 0] w (.bool z) := by
  have e := n_same3' w A n c (x.val : Int) none 0 0 0 h (NumAt.nil w)
  have e2 : decide ((x.val : Int) = 0) = z := by
    rw [← hz]
    refine decide_eq_decide.2 ⟨fun h => Fin.ext ?_, fun h => by rw [h]; rfl⟩
    have : x.val = 0 := by omega
    exact this
  rwa [e2] at e
theorem par5 (x : Fp) : (x.val % 2 = 1) ↔ ((x.val : Int) % 65536 % 2 = 1) := by omega
theorem odd5_z (x : F2) (h : x.a = 0) : F2.odd x = decide (((x.b.val : Int) % 65536) % 2 = 1) := by
  unfold F2.odd
  rw [if_pos h]
  exact decide_eq_decide.2 (par5 _)
theorem odd5_n (x : F2) (h : ¬ x.a = 0) : F2.odd x = decide (((x.a.val : Int) % 65536) % 2 = 1) := by
  unfold F2.odd
  rw [if_neg h]
  exact decide_eq_decide.2 (par5 _)
theorem up5 (x : Fp) : Up ≤ (x.val : Int) ↔ Mp < (x.val : Int) + (x.val : Int) := by
  have := up_iff (x.val : Int)
  rwa [Fp.n_of, Int.emod_eq_of_lt (Int.natCast_nonneg _) (Fp.val_lt _)] at this
theorem large5_z (x : F2) (h : x.b = 0) : F2.large x = decide (Mp < (x.a.val : Int) + (x.a.val : Int)) := by
  unfold F2.large
  rw [if_pos h]
  exact decide_eq_decide.2 (up5 _)
theorem large5_n (x : F2) (h : ¬ x.b = 0) : F2.large x = decide (Mp < (x.b.val : Int) + (x.b.val : Int)) := by
  unfold F2.large
  rw [if_neg h]
  exact decide_eq_decide.2 (up5 _)
attribute [local irreducible] wpL wpF fr Code.wp bodyPost
set_option maxRecDepth 100000 in
set_option maxHeartbeats 4000000 in
theorem roots5_long (A0 : Option Addr) (L0 C0 : Nat) (bs0 : List Int) (A1 : Option Addr) (L1 C1 : Nat) (bs1 : List Int) (v : World) (hG : Glo v) (hQ : GQp v) (hU : GUp v) (hr0 : Reads v v.heap.size A0 L0 (bs0.map (Value.int .u8))) (ho0 : Oct bs0) (hr1 : Reads v v.heap.size A1 L1 (bs1.map (Value.int .u8))) (ho1 : Oct bs1) (hlong : 64 < L0 ∨ 64 < L1) : Rets 5 #[.slice A0 L0 C0, .slice A1 L1 C1] v (.bool true) := by
  have hn0 : bs0.length = L0 := by simpa using hr0.1
  have hn1 : bs1.length = L1 := by simpa using hr1.1
  refine calls_fr2 Tryd.func5 rfl (by rfl : _ = 90) (by rfl) ?_
  have hw := Hbl.nil v
  refine seq_plain hw [0] (by rfl) ?_
  refine L_val (.bool false) (by rfl) (by rfl) (gives_value _ fun _ => by rfl) ?_
  refine L_end ?_
  intro w1 hw1
  refine wp_seq ?_
  refine seq_plain hw1 [0, 1] (by rfl) ?_
  refine L_val (.bool true) (by rfl) (by rfl) (gives_call (vl := []) (by kernel_rfl) (by rfl) (fun w h => q_head w (hG.keep h.below))) ?_
  refine L_val (.bool false) (by rfl) (by rfl) (gives_value _ fun _ => by rfl) ?_
  refine L_end ?_
  intro w2 hw2
  refine wp_cond_false (fr_at _ _ (by rfl) _) ?_
  refine wp_skip ?_
  change Code.wp _ _ _ _ _
  refine wp_seq ?_
  refine seq_plain hw2 [0, 1, 2] (by rfl) ?_
  refine L_val (.slice A0 L0 C0) (by rfl) (by rfl) (gives_value _ fun _ => by rfl) ?_
  refine L_val (.slice A1 L1 C1) (by rfl) (by rfl) (gives_value _ fun _ => by rfl) ?_
  refine L_val (.bool true) (by rfl) (by rfl) (gives_call (vl := [.slice A0 L0 C0, .slice A1 L1 C1, .slice none 0 0, .slice none 0 0]) (by kernel_rfl) (by rfl) (fun w h => long_yes _ _ _ _ _ _ none 0 0 none 0 0 w (by omega))) ?_
  refine L_end ?_
  intro w3 hw3
  refine wp_cond_true (fr_at _ _ (by rfl) _) ?_
  refine seq_plain hw3 [0] (by rfl) ?_
  refine L_val (.bool true) (by rfl) (by rfl) (gives_value _ fun _ => by rfl) ?_
  refine L_end ?_
  intro w4 hw4
  refine wp_ret ?_
  change bodyPost _ _ _ Exit.ret _ _
  refine (ret_tmp (by rfl) (by rfl) (by rfl) ⟨rfl, hw4.below⟩)
set_option maxRecDepth 100000 in
set_option maxHeartbeats 4000000 in
theorem roots5_111 (A0 : Option Addr) (L0 C0 : Nat) (bs0 : List Int) (A1 : Option Addr) (L1 C1 : Nat) (bs1 : List Int) (v : World) (hG : Glo v) (hQ : GQp v) (hU : GUp v) (hr0 : Reads v v.heap.size A0 L0 (bs0.map (Value.int .u8))) (ho0 : Oct bs0) (hr1 : Reads v v.heap.size A1 L1 (bs1.map (Value.int .u8))) (ho1 : Oct bs1) (hs0 : L0 ≤ 64) (hs1 : L1 ≤ 64) (k0 : F2) (hk0 : k0 = (⟨Fp.n (num bs0), Fp.n (num bs1)⟩ : F2)) (hsq : F2.sq k0) (hza : k0.a = 0) (hzb : k0.b = 0) : Rets 5 #[.slice A0 L0 C0, .slice A1 L1 C1] v (.bool true) := by
  have hn0 : bs0.length = L0 := by simpa using hr0.1
  have hn1 : bs1.length = L1 := by simpa using hr1.1
  refine calls_fr2 Tryd.func5 rfl (by rfl : _ = 90) (by rfl) ?_
  have hw := Hbl.nil v
  refine seq_plain hw [0] (by rfl) ?_
  refine L_val (.bool false) (by rfl) (by rfl) (gives_value _ fun _ => by rfl) ?_
  refine L_end ?_
  intro w1 hw1
  refine wp_seq ?_
  refine seq_plain hw1 [0, 1] (by rfl) ?_
  refine L_val (.bool true) (by rfl) (by rfl) (gives_call (vl := []) (by kernel_rfl) (by rfl) (fun w h => q_head w (hG.keep h.below))) ?_
  refine L_val (.bool false) (by rfl) (by rfl) (gives_value _ fun _ => by rfl) ?_
  refine L_end ?_
  intro w2 hw2
  refine wp_cond_false (fr_at _ _ (by rfl) _) ?_
  refine wp_skip ?_
  change Code.wp _ _ _ _ _
  refine wp_seq ?_
  refine seq_plain hw2 [0, 1, 2] (by rfl) ?_
  refine L_val (.slice A0 L0 C0) (by rfl) (by rfl) (gives_value _ fun _ => by rfl) ?_
  refine L_val (.slice A1 L1 C1) (by rfl) (by rfl) (gives_value _ fun _ => by rfl) ?_
  refine L_val (.bool false) (by rfl) (by rfl) (gives_call (vl := [.slice A0 L0 C0, .slice A1 L1 C1, .slice none 0 0, .slice none 0 0]) (by kernel_rfl) (by rfl) (fun w h => long_no _ _ _ _ _ _ none 0 0 none 0 0 w (by omega) (by omega) (by omega) (by omega))) ?_
  refine L_end ?_
  intro w3 hw3
  refine wp_cond_false (fr_at _ _ (by rfl) _) ?_
  refine wp_skip ?_
  change Code.wp _ _ _ _ _
  refine seq_plain hw3 [0, 1, 2, 3, 4, 5, 6, 7, 8, 9] (by rfl) ?_
  refine L_val (.slice A0 L0 C0) (by rfl) (by rfl) (gives_value _ fun _ => by rfl) ?_
  refine L_val (.slice A1 L1 C1) (by rfl) (by rfl) (gives_value _ fun _ => by rfl) ?_
  refine L_freshY (vl := [.slice A0 L0 C0, .slice A1 L1 C1]) 61 61 (fun g cap g2 cap2 => .tuple #[.agg #[.slice (some ⟨g, 0, none⟩) 24 cap, .slice (some ⟨g2, 0, none⟩) 24 cap2], .agg (c2 (k0))]) (fun cap cs cap2 cs2 => WB cs cap 24 ((k0).a.val : Int) ∧ WB cs2 cap2 24 ((k0).b.val : Int)) (by rfl) (by rfl) Want.none (by kernel_rfl) (by rfl)  (fun w h => by rw [hk0]; exact l5_number A0 L0 C0 bs0 A1 L1 C1 bs1 w (hG.keep h.below) ((hr0.below h.below).more h.below.size) ho0 ((hr1.below h.below).more h.below.size) ho1 (by omega) (by omega)) ?_; intro g1 cap_1 cs_1 g2 cap_1b cs_1b hq_1; obtain ⟨hwb_1, hwb_1b⟩ := hq_1
  refine L_val (.tuple #[.agg #[.slice (some ⟨g1, 0, none⟩) 24 cap_1, .slice (some ⟨g2, 0, none⟩) 24 cap_1b], .agg (c2 (k0))]) (by rfl) (by rfl) (gives_value _ fun _ => by rfl) ?_
  refine L_val (.agg #[.slice (some ⟨g1, 0, none⟩) 24 cap_1, .slice (some ⟨g2, 0, none⟩) 24 cap_1b]) (by rfl) (by rfl) (gives_value _ fun _ => by kernel_rfl) ?_
  refine L_val (.agg (c2 (k0))) (by rfl) (by rfl) (gives_value _ fun _ => by kernel_rfl) ?_
  refine L_alloc _ (by rfl) (by rfl) z_N #[.slice none 0 0, .slice none 0 0] rfl ?_; intro g3
  refine L_alloc _ (by rfl) (by rfl) z_2 (c2 (0 : F2)) rfl ?_; intro g4
  refine L_store (t := 46) 1 g3 #[.slice none 0 0, .slice none 0 0] #[.slice (some ⟨g1, 0, none⟩) 24 cap_1, .slice (some ⟨g2, 0, none⟩) 24 cap_1b] (by rfl) (by rfl) (by rfl) (by rfl) (by rfl) (hi_NN _ _) (by rfl) (one_N (by rfl) (by rfl)) ?_
  simp only [List.set_cons_zero, List.set_cons_succ]
  refine L_store (t := 30) 0 g4 (c2 (0 : F2)) (c2 (k0)) (by rfl) (by rfl) (by rfl) (by rfl) (by rfl) (hi_2 _) ((c2_size _).trans (c2_size _).symm) (c2_one _) ?_
  simp only [List.set_cons_zero, List.set_cons_succ]
  refine L_end ?_
  intro w4 hw4
  refine seq_plain hw4 [0, 1, 2, 3, 4, 5, 6, 7] (by rfl) ?_
  refine L_val (.agg #[.slice (some ⟨g1, 0, none⟩) 24 cap_1, .slice (some ⟨g2, 0, none⟩) 24 cap_1b]) (by rfl) (by rfl) (gives_load g3 0 46 #[.slice (some ⟨g1, 0, none⟩) 24 cap_1, .slice (some ⟨g2, 0, none⟩) 24 cap_1b] #[.slice (some ⟨g1, 0, none⟩) 24 cap_1, .slice (some ⟨g2, 0, none⟩) 24 cap_1b] _ (by rfl) (fun _ h => h.blk 1 (by rfl)) (Sl.refl _) Tryd.underlying46 (by rfl) (hi_NN _ _)) ?_
  refine L_freshW (vl := [.agg #[.slice (some ⟨g1, 0, none⟩) 24 cap_1, .slice (some ⟨g2, 0, none⟩) 24 cap_1b]]) (24) (((F2.norm (k0)).val : Int)) (by rfl) (by rfl) (by kernel_rfl) (by rfl) (fun w h => l5_norm (k0) _ _ _ _ _ _ w (hwb_1.num (h.blk 2 (by rfl)) (fv_rng _) (by omega)) (hwb_1b.num (h.blk 3 (by rfl)) (fv_rng _) (by omega)) (by omega) (by omega)) ?_; intro g5 cap_2 cs_2 hwb_2
  refine L_freshU (vl := [.slice (some ⟨g5, 0, none⟩) (24) cap_2]) (fun g cap => .tuple #[.slice (some ⟨g, 0, none⟩) 24 cap, .bool true]) (24) ((((F2.norm (k0)).val : Int)) ^ Qp % Mp) (by rfl) (by rfl) (by kernel_rfl) (by rfl) (fun w h => n_sqrt4_t w _ _ _ (hwb_2.num (h.blk 0 (by rfl)) (fv_rng _) (by omega)) ((sq5 _).2 hsq)) ?_; intro g6 cap_3 cs_3 hwb_3
  refine L_val (.tuple #[.slice (some ⟨g6, 0, none⟩) 24 cap_3, .bool true]) (by rfl) (by rfl) (gives_value _ fun _ => by rfl) ?_
  refine L_val (.slice (some ⟨g6, 0, none⟩) 24 cap_3) (by rfl) (by rfl) (gives_value _ fun _ => by kernel_rfl) ?_
  refine L_val (.bool true) (by rfl) (by rfl) (gives_value _ fun _ => by kernel_rfl) ?_
  refine L_val (.slice (some ⟨g6, 0, none⟩) 24 cap_3) (by rfl) (by rfl) (gives_value _ fun _ => by rfl) ?_
  refine L_val (.bool true) (by rfl) (by rfl) (gives_value _ fun _ => by rfl) ?_
  refine L_end ?_
  intro w5 hw5
  refine seq_plain hw5 [0, 1, 2, 3, 4, 5, 6, 7] (by rfl) ?_
  refine L_val (.agg (c2 (k0))) (by rfl) (by rfl) (gives_load g4 0 30 (c2 (k0)) (c2 (k0)) _ (by rfl) (fun _ h => h.blk 2 (by rfl)) (Sl.refl _) Tryd.underlying30 (by rfl) (hi_2 _)) ?_
  refine L_val (.tuple #[.agg (c2 (F2.rt (k0))), .bool true]) (by rfl) (by rfl) (gives_call (vl := [.agg (c2 (k0))]) (by kernel_rfl) (by rfl) (fun w h => q_sqrt_yes _ w (hG.keep h.below) (hQ.keep h.below) hsq)) ?_
  refine L_val (.tuple #[.agg (c2 (F2.rt (k0))), .bool true]) (by rfl) (by rfl) (gives_value _ fun _ => by rfl) ?_
  refine L_val (.agg (c2 (F2.rt (k0)))) (by rfl) (by rfl) (gives_value _ fun _ => by kernel_rfl) ?_
  refine L_val (.bool true) (by rfl) (by rfl) (gives_value _ fun _ => by kernel_rfl) ?_
  refine L_alloc _ (by rfl) (by rfl) z_2 (c2 (0 : F2)) rfl ?_; intro g7
  refine L_store (t := 30) 0 g7 (c2 (0 : F2)) (c2 (F2.rt (k0))) (by rfl) (by rfl) (by rfl) (by rfl) (by rfl) (hi_2 _) ((c2_size _).trans (c2_size _).symm) (c2_one _) ?_
  simp only [List.set_cons_zero, List.set_cons_succ]
  refine L_val (.bool true) (by rfl) (by rfl) (gives_value _ fun _ => by rfl) ?_
  refine L_end ?_
  intro w6 hw6
  refine wp_seq ?_
  refine seq_flow (by kernel_rfl) hw6 [] [(g7, 30, (c2 (F2.rt (k0)))), (g6, 61, cs_3), (g5, 61, cs_2), (g4, 30, (c2 (k0))), (g3, 46, #[.slice (some ⟨g1, 0, none⟩) 24 cap_1, .slice (some ⟨g2, 0, none⟩) 24 cap_1b]), (g1, 61, cs_1), (g2, 61, cs_1b)] 21 (by rfl) ?_
  refine flow_take (i := 0) (.bool true) (by rfl) (by kernel_rfl) (by kernel_rfl) (by kernel_rfl) (by rfl) (by kernel_rfl) (List.Sublist.refl _) (gives_value _ fun _ => by rfl) ?_
  refine flow_take (i := 1) (.bool true) (by rfl) (by kernel_rfl) (by kernel_rfl) (by kernel_rfl) (by rfl) (by kernel_rfl) (List.Sublist.refl _) (gives_value _ fun _ => by rfl) ?_
  refine flow_take (i := 2) (.bool false) (by rfl) (by kernel_rfl) (by kernel_rfl) (by kernel_rfl) (by rfl) (by kernel_rfl) (List.Sublist.refl _) (gives_value _ fun _ => by rfl) ?_
  refine flow_take (i := 3) (.bool false) (by rfl) (by kernel_rfl) (by kernel_rfl) (by kernel_rfl) (by rfl) (by kernel_rfl) (List.Sublist.refl _) (gives_value _ fun _ => by rfl) ?_
  refine flow_take_g (i := 4) (dj := 38) (.bool true) (by rfl) (by kernel_rfl) (by kernel_rfl) (by kernel_rfl) (by rfl) (by kernel_rfl) (List.Sublist.refl _) (by rfl) (by rfl) (by rfl) (gives_value _ fun _ => by rfl) ?_
  refine flow_take_g (i := 5) (dj := 38) (.bool true) (by rfl) (by kernel_rfl) (by kernel_rfl) (by kernel_rfl) (by rfl) (by kernel_rfl) (List.Sublist.refl _) (by rfl) (by rfl) (by rfl) (gives_value _ fun _ => by rfl) ?_
  refine flow_take_g (i := 6) (dj := 40) (.agg (c2 (F2.rt (k0)))) (by rfl) (by kernel_rfl) (by kernel_rfl) (by kernel_rfl) (by rfl) (by kernel_rfl) (List.Sublist.refl _) (by rfl) (by rfl) (by rfl) (gives_load g7 0 30 (c2 (F2.rt (k0))) (c2 (F2.rt (k0))) _ (by rfl) (fun _ h => h.blk 0 (by rfl)) (Sl.refl _) Tryd.underlying30 (by rfl) (hi_2 _)) ?_
  refine flow_take_g (i := 8) (dj := 40) (.agg (c2 (k0))) (by rfl) (by kernel_rfl) (by kernel_rfl) (by kernel_rfl) (by rfl) (by kernel_rfl) (List.Sublist.refl _) (by rfl) (by rfl) (by rfl) (gives_load g4 0 30 (c2 (k0)) (c2 (k0)) _ (by rfl) (fun _ h => h.blk 3 (by rfl)) (Sl.refl _) Tryd.underlying30 (by rfl) (hi_2 _)) ?_
  refine flow_one 7 (by kernel_rfl) ?_
  refine F_val (vl := [.agg (c2 (F2.rt (k0)))]) (.agg (c2 ((F2.rt (k0)) * (F2.rt (k0))))) (by rfl) (by rfl) (Want.some (dj := 40) (by rfl) (by rfl) (by rfl) (by rfl)) (by kernel_rfl) (by rfl) (List.Sublist.refl _) (fun w h => q_square _ w (hG.keep h.below)) ?_
  refine flow_take_g (i := 9) (dj := 40) (.bool false) (by rfl) (by kernel_rfl) (by kernel_rfl) (by kernel_rfl) (by rfl) (by kernel_rfl) (List.Sublist.refl _) (by rfl) (by rfl) (by rfl) (gives_neq (c2 ((F2.rt (k0)) * (F2.rt (k0)))) (c2 (k0)) true (by rfl) (by rfl) (by kernel_rfl) (fun w => eq_2_t (d := 9996) w (F2.rt_ok hsq))) ?_
  refine flow_take_g (i := 10) (dj := 38) (.bool false) (by rfl) (by kernel_rfl) (by kernel_rfl) (by kernel_rfl) (by rfl) (by kernel_rfl) (List.Sublist.refl _) (by rfl) (by rfl) (by rfl) (gives_value _ fun _ => by rfl) ?_
  refine flow_take (i := 11) (.bool false) (by rfl) (by kernel_rfl) (by kernel_rfl) (by kernel_rfl) (by rfl) (by kernel_rfl) (List.Sublist.refl _) (gives_value _ fun _ => by rfl) ?_
  refine flow_take (i := 12) (.bool false) (by rfl) (by kernel_rfl) (by kernel_rfl) (by kernel_rfl) (by rfl) (by kernel_rfl) (List.Sublist.refl _) (gives_value _ fun _ => by rfl) ?_
  refine flow_take_g (i := 13) (dj := 47) (.bool true) (by rfl) (by kernel_rfl) (by kernel_rfl) (by kernel_rfl) (by rfl) (by kernel_rfl) (List.Sublist.refl _) (by rfl) (by rfl) (by rfl) (gives_value _ fun _ => by rfl) ?_
  refine flow_take_g (i := 14) (dj := 47) (.bool false) (by rfl) (by kernel_rfl) (by kernel_rfl) (by kernel_rfl) (by rfl) (by kernel_rfl) (List.Sublist.refl _) (by rfl) (by rfl) (by rfl) (gives_value _ fun _ => by rfl) ?_
  refine flow_take_g (i := 15) (dj := 47) (.bool false) (by rfl) (by kernel_rfl) (by kernel_rfl) (by kernel_rfl) (by rfl) (by kernel_rfl) (List.Sublist.refl _) (by rfl) (by rfl) (by rfl) (gives_value _ fun _ => by rfl) ?_
  refine flow_skip (i := 16) (dj := 50) (by rfl) (by kernel_rfl) (by kernel_rfl) (by kernel_rfl) (by rfl) (by kernel_rfl) (List.Sublist.refl _) (by rfl) (by rfl) (by rfl) ?_
  refine flow_skip (i := 17) (dj := 50) (by rfl) (by kernel_rfl) (by kernel_rfl) (by kernel_rfl) (by rfl) (by kernel_rfl) (List.Sublist.refl _) (by rfl) (by rfl) (by rfl) ?_
  refine flow_skip (i := 18) (dj := 50) (by rfl) (by kernel_rfl) (by kernel_rfl) (by kernel_rfl) (by rfl) (by kernel_rfl) (List.Sublist.refl _) (by rfl) (by rfl) (by rfl) ?_
  refine flow_take_g (i := 19) (dj := 47) (.bool false) (by rfl) (by kernel_rfl) (by kernel_rfl) (by kernel_rfl) (by rfl) (by kernel_rfl) (List.Sublist.refl _) (by rfl) (by rfl) (by rfl) (gives_value _ fun _ => by rfl) ?_
  refine flow_take (i := 20) (.bool false) (by rfl) (by kernel_rfl) (by kernel_rfl) (by kernel_rfl) (by rfl) (by kernel_rfl) (List.Sublist.refl _) (gives_value _ fun _ => by rfl) ?_
  refine flow_done (by kernel_rfl) ?_
  intro w7 hw7
  refine wp_cond_false (fr_at _ _ (by rfl) _) ?_
  refine wp_skip ?_
  change Code.wp _ _ _ _ _
  refine seq_plain hw7 [0, 1, 2, 3, 4, 5, 6] (by rfl) ?_
  refine L_val (.pointer (some ⟨g3, 0, none⟩)) (by rfl) (by rfl) (gives_value _ fun _ => by kernel_rfl) ?_
  refine L_val (.slice (some ⟨g1, 0, none⟩) 24 cap_1) (by rfl) (by rfl) (gives_loadS g3 0 #[.slice (some ⟨g1, 0, none⟩) 24 cap_1, .slice (some ⟨g2, 0, none⟩) 24 cap_1b] (.slice (some ⟨g1, 0, none⟩) 24 cap_1) (by rfl) (fun _ h => h.blk 4 (by rfl)) (by rfl) und_u32s) ?_
  refine L_val (.pointer (some ⟨g1, 0 + (0), none⟩)) (by rfl) (by rfl) (gives_index g1 0 (24) (cap_1) (0) (0) (by rfl) (by rfl) und_u32s u32_sz (by omega) (by omega)) ?_
  refine L_val (.int .u32 (((k0).a.val : Int) % 65536)) (by rfl) (by rfl) (gives_load1 g1 (0 + (0)) _ cs_1 (.int .u32 (((k0).a.val : Int) % 65536)) (by rfl) (fun _ h => h.blk 5 (by rfl)) (word0 hwb_1) und_u32) ?_
  refine L_val (.int .u32 ((((k0).a.val : Int) % 65536) % 2)) (by rfl) (by rfl) (gives_and (k := .u32) (((k0).a.val : Int) % 65536) 1 ((((k0).a.val : Int) % 65536) % 2) (by rfl) (by rfl) (and_one32 _ (by omega) (by omega))) ?_
  refine L_val (.bool (decide ((((k0).a.val : Int) % 65536) % 2 = 1))) (by rfl) (by rfl) (gives_ieq (k := .u32) ((((k0).a.val : Int) % 65536) % 2) (1) (decide ((((k0).a.val : Int) % 65536) % 2 = 1)) (by rfl) (by rfl) rfl) ?_
  refine L_val (.bool (decide ((((k0).a.val : Int) % 65536) % 2 = 1))) (by rfl) (by rfl) (gives_value _ fun _ => by rfl) ?_
  refine L_end ?_
  intro w8 hw8
  refine wp_seq ?_
  refine seq_plain hw8 [0, 1, 2] (by rfl) ?_
  refine L_val (.pointer (some ⟨g3, 0, none⟩)) (by rfl) (by rfl) (gives_value _ fun _ => by kernel_rfl) ?_
  refine L_val (.slice (some ⟨g1, 0, none⟩) 24 cap_1) (by rfl) (by rfl) (gives_loadS g3 0 #[.slice (some ⟨g1, 0, none⟩) 24 cap_1, .slice (some ⟨g2, 0, none⟩) 24 cap_1b] (.slice (some ⟨g1, 0, none⟩) 24 cap_1) (by rfl) (fun _ h => h.blk 4 (by rfl)) (by rfl) und_u32s) ?_
  refine L_val (.bool true) (by rfl) (by rfl) (gives_call (vl := [.slice (some ⟨g1, 0, none⟩) 24 cap_1, .slice none 0 0]) (by kernel_rfl) (by rfl) (fun w h => n_same0 w _ _ _ _ (hwb_1.num (h.blk 5 (by rfl)) (fv_rng _) (by omega)) true (decide_eq_true hza))) ?_
  refine L_end ?_
  intro w9 hw9
  refine wp_cond_true (fr_at _ _ (by rfl) _) ?_
  refine one_plain hw9 [0, 1, 2, 3, 4, 5, 6] (by rfl) ?_
  refine L_val (.pointer (some ⟨g3, 1, none⟩)) (by rfl) (by rfl) (gives_value _ fun _ => by kernel_rfl) ?_
  refine L_val (.slice (some ⟨g2, 0, none⟩) 24 cap_1b) (by rfl) (by rfl) (gives_loadS g3 1 #[.slice (some ⟨g1, 0, none⟩) 24 cap_1, .slice (some ⟨g2, 0, none⟩) 24 cap_1b] (.slice (some ⟨g2, 0, none⟩) 24 cap_1b) (by rfl) (fun _ h => h.blk 4 (by rfl)) (by rfl) und_u32s) ?_
  refine L_val (.pointer (some ⟨g2, 0 + (0), none⟩)) (by rfl) (by rfl) (gives_index g2 0 (24) (cap_1b) (0) (0) (by rfl) (by rfl) und_u32s u32_sz (by omega) (by omega)) ?_
  refine L_val (.int .u32 (((k0).b.val : Int) % 65536)) (by rfl) (by rfl) (gives_load1 g2 (0 + (0)) _ cs_1b (.int .u32 (((k0).b.val : Int) % 65536)) (by rfl) (fun _ h => h.blk 6 (by rfl)) (word0 hwb_1b) und_u32) ?_
  refine L_val (.int .u32 ((((k0).b.val : Int) % 65536) % 2)) (by rfl) (by rfl) (gives_and (k := .u32) (((k0).b.val : Int) % 65536) 1 ((((k0).b.val : Int) % 65536) % 2) (by rfl) (by rfl) (and_one32 _ (by omega) (by omega))) ?_
  refine L_val (.bool (decide ((((k0).b.val : Int) % 65536) % 2 = 1))) (by rfl) (by rfl) (gives_ieq (k := .u32) ((((k0).b.val : Int) % 65536) % 2) (1) (decide ((((k0).b.val : Int) % 65536) % 2 = 1)) (by rfl) (by rfl) rfl) ?_
  refine L_val (.bool (decide ((((k0).b.val : Int) % 65536) % 2 = 1))) (by rfl) (by rfl) (gives_value _ fun _ => by rfl) ?_
  refine L_end ?_
  intro w10 hw10
  change Code.wp _ _ _ _ _
  refine seq_plain hw10 [0, 1, 2, 3] (by rfl) ?_
  refine L_val (.pointer (some ⟨g3, 1, none⟩)) (by rfl) (by rfl) (gives_value _ fun _ => by kernel_rfl) ?_
  refine L_val (.slice (some ⟨g2, 0, none⟩) 24 cap_1b) (by rfl) (by rfl) (gives_loadS g3 1 #[.slice (some ⟨g1, 0, none⟩) 24 cap_1, .slice (some ⟨g2, 0, none⟩) 24 cap_1b] (.slice (some ⟨g2, 0, none⟩) 24 cap_1b) (by rfl) (fun _ h => h.blk 4 (by rfl)) (by rfl) und_u32s) ?_
  refine L_val (.bool (decide (Mp < ((k0).b.val : Int) + ((k0).b.val : Int)))) (by rfl) (by rfl) (gives_call (vl := [.slice (some ⟨g2, 0, none⟩) 24 cap_1b]) (by kernel_rfl) (by rfl) (fun w h => n_large4 w _ _ _ (hwb_1b.num (h.blk 6 (by rfl)) (fv_rng _) (by omega)) (by omega))) ?_
  refine L_val (.bool (decide (Mp < ((k0).b.val : Int) + ((k0).b.val : Int)))) (by rfl) (by rfl) (gives_value _ fun _ => by rfl) ?_
  refine L_end ?_
  intro w11 hw11
  refine wp_seq ?_
  refine seq_plain hw11 [0, 1, 2] (by rfl) ?_
  refine L_val (.pointer (some ⟨g3, 1, none⟩)) (by rfl) (by rfl) (gives_value _ fun _ => by kernel_rfl) ?_
  refine L_val (.slice (some ⟨g2, 0, none⟩) 24 cap_1b) (by rfl) (by rfl) (gives_loadS g3 1 #[.slice (some ⟨g1, 0, none⟩) 24 cap_1, .slice (some ⟨g2, 0, none⟩) 24 cap_1b] (.slice (some ⟨g2, 0, none⟩) 24 cap_1b) (by rfl) (fun _ h => h.blk 4 (by rfl)) (by rfl) und_u32s) ?_
  refine L_val (.bool true) (by rfl) (by rfl) (gives_call (vl := [.slice (some ⟨g2, 0, none⟩) 24 cap_1b, .slice none 0 0]) (by kernel_rfl) (by rfl) (fun w h => n_same0 w _ _ _ _ (hwb_1b.num (h.blk 6 (by rfl)) (fv_rng _) (by omega)) true (decide_eq_true hzb))) ?_
  refine L_end ?_
  intro w12 hw12
  refine wp_cond_true (fr_at _ _ (by rfl) _) ?_
  refine one_plain hw12 [0, 1, 2, 3] (by rfl) ?_
  refine L_val (.pointer (some ⟨g3, 0, none⟩)) (by rfl) (by rfl) (gives_value _ fun _ => by kernel_rfl) ?_
  refine L_val (.slice (some ⟨g1, 0, none⟩) 24 cap_1) (by rfl) (by rfl) (gives_loadS g3 0 #[.slice (some ⟨g1, 0, none⟩) 24 cap_1, .slice (some ⟨g2, 0, none⟩) 24 cap_1b] (.slice (some ⟨g1, 0, none⟩) 24 cap_1) (by rfl) (fun _ h => h.blk 4 (by rfl)) (by rfl) und_u32s) ?_
  refine L_val (.bool (decide (Mp < ((k0).a.val : Int) + ((k0).a.val : Int)))) (by rfl) (by rfl) (gives_call (vl := [.slice (some ⟨g1, 0, none⟩) 24 cap_1]) (by kernel_rfl) (by rfl) (fun w h => n_large4 w _ _ _ (hwb_1.num (h.blk 5 (by rfl)) (fv_rng _) (by omega)) (by omega))) ?_
  refine L_val (.bool (decide (Mp < ((k0).a.val : Int) + ((k0).a.val : Int)))) (by rfl) (by rfl) (gives_value _ fun _ => by rfl) ?_
  refine L_end ?_
  intro w13 hw13
  change Code.wp _ _ _ _ _
  refine seq_plain hw13 [0, 1, 2, 3, 4, 5, 6, 7, 8, 9, 10] (by rfl) ?_
  refine L_val (.agg (c2 (k0))) (by rfl) (by rfl) (gives_load g4 0 30 (c2 (k0)) (c2 (k0)) _ (by rfl) (fun _ h => h.blk 3 (by rfl)) (Sl.refl _) Tryd.underlying30 (by rfl) (hi_2 _)) ?_
  refine L_val (.bool (F2.odd (k0))) (by rfl) (by rfl) (gives_call (vl := [.agg (c2 (k0))]) (by kernel_rfl) (by rfl) (fun w h => q_odd _ w (hG.keep h.below))) ?_
  refine L_val (.bool (decide ((((k0).b.val : Int) % 65536) % 2 = 1))) (by rfl) (by rfl) (gives_value _ fun _ => by rfl) ?_
  refine L_val (.bool true) (by rfl) (by rfl) (gives_eqbb _ _ (by rfl) (by rfl) (by rfl) (odd5_z _ hza)) ?_
  refine L_val (.bool true) (by rfl) (by rfl) (gives_value _ fun _ => by rfl) ?_
  refine L_val_g (dj := 84) (.agg (c2 (k0))) (by rfl) (by rfl) (by rfl) (by rfl) (by rfl) (gives_load g4 0 30 (c2 (k0)) (c2 (k0)) _ (by rfl) (fun _ h => h.blk 3 (by rfl)) (Sl.refl _) Tryd.underlying30 (by rfl) (hi_2 _)) ?_
  refine L_val_g (dj := 84) (.bool (F2.large (k0))) (by rfl) (by rfl) (by rfl) (by rfl) (by rfl) (gives_call (vl := [.agg (c2 (k0))]) (by kernel_rfl) (by rfl) (fun w h => q_large _ w (hG.keep h.below) (hU.keep h.below))) ?_
  refine L_val_g (dj := 84) (.bool (decide (Mp < ((k0).a.val : Int) + ((k0).a.val : Int)))) (by rfl) (by rfl) (by rfl) (by rfl) (by rfl) (gives_value _ fun _ => by rfl) ?_
  refine L_val_g (dj := 84) (.bool true) (by rfl) (by rfl) (by rfl) (by rfl) (by rfl) (gives_eqbb _ _ (by rfl) (by rfl) (by rfl) (large5_z _ hzb)) ?_
  refine L_val (.bool true) (by rfl) (by rfl) (gives_value _ fun _ => by rfl) ?_
  refine L_val (.bool true) (by rfl) (by rfl) (gives_value _ fun _ => by rfl) ?_
  refine L_end ?_
  intro w14 hw14
  refine wp_ret ?_
  change bodyPost _ _ _ Exit.ret _ _
  refine (ret_tmp (by rfl) (by rfl) (by rfl) ⟨rfl, hw14.below⟩)
set_option maxRecDepth 100000 in
set_option maxHeartbeats 4000000 in
theorem roots5_110 (A0 : Option Addr) (L0 C0 : Nat) (bs0 : List Int) (A1 : Option Addr) (L1 C1 : Nat) (bs1 : List Int) (v : World) (hG : Glo v) (hQ : GQp v) (hU : GUp v) (hr0 : Reads v v.heap.size A0 L0 (bs0.map (Value.int .u8))) (ho0 : Oct bs0) (hr1 : Reads v v.heap.size A1 L1 (bs1.map (Value.int .u8))) (ho1 : Oct bs1) (hs0 : L0 ≤ 64) (hs1 : L1 ≤ 64) (k0 : F2) (hk0 : k0 = (⟨Fp.n (num bs0), Fp.n (num bs1)⟩ : F2)) (hsq : F2.sq k0) (hza : k0.a = 0) (hzb : ¬ k0.b = 0) : Rets 5 #[.slice A0 L0 C0, .slice A1 L1 C1] v (.bool true) := by
  have hn0 : bs0.length = L0 := by simpa using hr0.1
  have hn1 : bs1.length = L1 := by simpa using hr1.1
  refine calls_fr2 Tryd.func5 rfl (by rfl : _ = 90) (by rfl) ?_
  have hw := Hbl.nil v
  refine seq_plain hw [0] (by rfl) ?_
  refine L_val (.bool false) (by rfl) (by rfl) (gives_value _ fun _ => by rfl) ?_
  refine L_end ?_
  intro w1 hw1
  refine wp_seq ?_
  refine seq_plain hw1 [0, 1] (by rfl) ?_
  refine L_val (.bool true) (by rfl) (by rfl) (gives_call (vl := []) (by kernel_rfl) (by rfl) (fun w h => q_head w (hG.keep h.below))) ?_
  refine L_val (.bool false) (by rfl) (by rfl) (gives_value _ fun _ => by rfl) ?_
  refine L_end ?_
  intro w2 hw2
  refine wp_cond_false (fr_at _ _ (by rfl) _) ?_
  refine wp_skip ?_
  change Code.wp _ _ _ _ _
  refine wp_seq ?_
  refine seq_plain hw2 [0, 1, 2] (by rfl) ?_
  refine L_val (.slice A0 L0 C0) (by rfl) (by rfl) (gives_value _ fun _ => by rfl) ?_
  refine L_val (.slice A1 L1 C1) (by rfl) (by rfl) (gives_value _ fun _ => by rfl) ?_
  refine L_val (.bool false) (by rfl) (by rfl) (gives_call (vl := [.slice A0 L0 C0, .slice A1 L1 C1, .slice none 0 0, .slice none 0 0]) (by kernel_rfl) (by rfl) (fun w h => long_no _ _ _ _ _ _ none 0 0 none 0 0 w (by omega) (by omega) (by omega) (by omega))) ?_
  refine L_end ?_
  intro w3 hw3
  refine wp_cond_false (fr_at _ _ (by rfl) _) ?_
  refine wp_skip ?_
  change Code.wp _ _ _ _ _
  refine seq_plain hw3 [0, 1, 2, 3, 4, 5, 6, 7, 8, 9] (by rfl) ?_
  refine L_val (.slice A0 L0 C0) (by rfl) (by rfl) (gives_value _ fun _ => by rfl) ?_
  refine L_val (.slice A1 L1 C1) (by rfl) (by rfl) (gives_value _ fun _ => by rfl) ?_
  refine L_freshY (vl := [.slice A0 L0 C0, .slice A1 L1 C1]) 61 61 (fun g cap g2 cap2 => .tuple #[.agg #[.slice (some ⟨g, 0, none⟩) 24 cap, .slice (some ⟨g2, 0, none⟩) 24 cap2], .agg (c2 (k0))]) (fun cap cs cap2 cs2 => WB cs cap 24 ((k0).a.val : Int) ∧ WB cs2 cap2 24 ((k0).b.val : Int)) (by rfl) (by rfl) Want.none (by kernel_rfl) (by rfl)  (fun w h => by rw [hk0]; exact l5_number A0 L0 C0 bs0 A1 L1 C1 bs1 w (hG.keep h.below) ((hr0.below h.below).more h.below.size) ho0 ((hr1.below h.below).more h.below.size) ho1 (by omega) (by omega)) ?_; intro g1 cap_1 cs_1 g2 cap_1b cs_1b hq_1; obtain ⟨hwb_1, hwb_1b⟩ := hq_1
  refine L_val (.tuple #[.agg #[.slice (some ⟨g1, 0, none⟩) 24 cap_1, .slice (some ⟨g2, 0, none⟩) 24 cap_1b], .agg (c2 (k0))]) (by rfl) (by rfl) (gives_value _ fun _ => by rfl) ?_
  refine L_val (.agg #[.slice (some ⟨g1, 0, none⟩) 24 cap_1, .slice (some ⟨g2, 0, none⟩) 24 cap_1b]) (by rfl) (by rfl) (gives_value _ fun _ => by kernel_rfl) ?_
  refine L_val (.agg (c2 (k0))) (by rfl) (by rfl) (gives_value _ fun _ => by kernel_rfl) ?_
  refine L_alloc _ (by rfl) (by rfl) z_N #[.slice none 0 0, .slice none 0 0] rfl ?_; intro g3
  refine L_alloc _ (by rfl) (by rfl) z_2 (c2 (0 : F2)) rfl ?_; intro g4
  refine L_store (t := 46) 1 g3 #[.slice none 0 0, .slice none 0 0] #[.slice (some ⟨g1, 0, none⟩) 24 cap_1, .slice (some ⟨g2, 0, none⟩) 24 cap_1b] (by rfl) (by rfl) (by rfl) (by rfl) (by rfl) (hi_NN _ _) (by rfl) (one_N (by rfl) (by rfl)) ?_
  simp only [List.set_cons_zero, List.set_cons_succ]
  refine L_store (t := 30) 0 g4 (c2 (0 : F2)) (c2 (k0)) (by rfl) (by rfl) (by rfl) (by rfl) (by rfl) (hi_2 _) ((c2_size _).trans (c2_size _).symm) (c2_one _) ?_
  simp only [List.set_cons_zero, List.set_cons_succ]
  refine L_end ?_
  intro w4 hw4
  refine seq_plain hw4 [0, 1, 2, 3, 4, 5, 6, 7] (by rfl) ?_
  refine L_val (.agg #[.slice (some ⟨g1, 0, none⟩) 24 cap_1, .slice (some ⟨g2, 0, none⟩) 24 cap_1b]) (by rfl) (by rfl) (gives_load g3 0 46 #[.slice (some ⟨g1, 0, none⟩) 24 cap_1, .slice (some ⟨g2, 0, none⟩) 24 cap_1b] #[.slice (some ⟨g1, 0, none⟩) 24 cap_1, .slice (some ⟨g2, 0, none⟩) 24 cap_1b] _ (by rfl) (fun _ h => h.blk 1 (by rfl)) (Sl.refl _) Tryd.underlying46 (by rfl) (hi_NN _ _)) ?_
  refine L_freshW (vl := [.agg #[.slice (some ⟨g1, 0, none⟩) 24 cap_1, .slice (some ⟨g2, 0, none⟩) 24 cap_1b]]) (24) (((F2.norm (k0)).val : Int)) (by rfl) (by rfl) (by kernel_rfl) (by rfl) (fun w h => l5_norm (k0) _ _ _ _ _ _ w (hwb_1.num (h.blk 2 (by rfl)) (fv_rng _) (by omega)) (hwb_1b.num (h.blk 3 (by rfl)) (fv_rng _) (by omega)) (by omega) (by omega)) ?_; intro g5 cap_2 cs_2 hwb_2
  refine L_freshU (vl := [.slice (some ⟨g5, 0, none⟩) (24) cap_2]) (fun g cap => .tuple #[.slice (some ⟨g, 0, none⟩) 24 cap, .bool true]) (24) ((((F2.norm (k0)).val : Int)) ^ Qp % Mp) (by rfl) (by rfl) (by kernel_rfl) (by rfl) (fun w h => n_sqrt4_t w _ _ _ (hwb_2.num (h.blk 0 (by rfl)) (fv_rng _) (by omega)) ((sq5 _).2 hsq)) ?_; intro g6 cap_3 cs_3 hwb_3
  refine L_val (.tuple #[.slice (some ⟨g6, 0, none⟩) 24 cap_3, .bool true]) (by rfl) (by rfl) (gives_value _ fun _ => by rfl) ?_
  refine L_val (.slice (some ⟨g6, 0, none⟩) 24 cap_3) (by rfl) (by rfl) (gives_value _ fun _ => by kernel_rfl) ?_
  refine L_val (.bool true) (by rfl) (by rfl) (gives_value _ fun _ => by kernel_rfl) ?_
  refine L_val (.slice (some ⟨g6, 0, none⟩) 24 cap_3) (by rfl) (by rfl) (gives_value _ fun _ => by rfl) ?_
  refine L_val (.bool true) (by rfl) (by rfl) (gives_value _ fun _ => by rfl) ?_
  refine L_end ?_
  intro w5 hw5
  refine seq_plain hw5 [0, 1, 2, 3, 4, 5, 6, 7] (by rfl) ?_
  refine L_val (.agg (c2 (k0))) (by rfl) (by rfl) (gives_load g4 0 30 (c2 (k0)) (c2 (k0)) _ (by rfl) (fun _ h => h.blk 2 (by rfl)) (Sl.refl _) Tryd.underlying30 (by rfl) (hi_2 _)) ?_
  refine L_val (.tuple #[.agg (c2 (F2.rt (k0))), .bool true]) (by rfl) (by rfl) (gives_call (vl := [.agg (c2 (k0))]) (by kernel_rfl) (by rfl) (fun w h => q_sqrt_yes _ w (hG.keep h.below) (hQ.keep h.below) hsq)) ?_
  refine L_val (.tuple #[.agg (c2 (F2.rt (k0))), .bool true]) (by rfl) (by rfl) (gives_value _ fun _ => by rfl) ?_
  refine L_val (.agg (c2 (F2.rt (k0)))) (by rfl) (by rfl) (gives_value _ fun _ => by kernel_rfl) ?_
  refine L_val (.bool true) (by rfl) (by rfl) (gives_value _ fun _ => by kernel_rfl) ?_
  refine L_alloc _ (by rfl) (by rfl) z_2 (c2 (0 : F2)) rfl ?_; intro g7
  refine L_store (t := 30) 0 g7 (c2 (0 : F2)) (c2 (F2.rt (k0))) (by rfl) (by rfl) (by rfl) (by rfl) (by rfl) (hi_2 _) ((c2_size _).trans (c2_size _).symm) (c2_one _) ?_
  simp only [List.set_cons_zero, List.set_cons_succ]
  refine L_val (.bool true) (by rfl) (by rfl) (gives_value _ fun _ => by rfl) ?_
  refine L_end ?_
  intro w6 hw6
  refine wp_seq ?_
  refine seq_flow (by kernel_rfl) hw6 [] [(g7, 30, (c2 (F2.rt (k0)))), (g6, 61, cs_3), (g5, 61, cs_2), (g4, 30, (c2 (k0))), (g3, 46, #[.slice (some ⟨g1, 0, none⟩) 24 cap_1, .slice (some ⟨g2, 0, none⟩) 24 cap_1b]), (g1, 61, cs_1), (g2, 61, cs_1b)] 21 (by rfl) ?_
  refine flow_take (i := 0) (.bool true) (by rfl) (by kernel_rfl) (by kernel_rfl) (by kernel_rfl) (by rfl) (by kernel_rfl) (List.Sublist.refl _) (gives_value _ fun _ => by rfl) ?_
  refine flow_take (i := 1) (.bool true) (by rfl) (by kernel_rfl) (by kernel_rfl) (by kernel_rfl) (by rfl) (by kernel_rfl) (List.Sublist.refl _) (gives_value _ fun _ => by rfl) ?_
  refine flow_take (i := 2) (.bool false) (by rfl) (by kernel_rfl) (by kernel_rfl) (by kernel_rfl) (by rfl) (by kernel_rfl) (List.Sublist.refl _) (gives_value _ fun _ => by rfl) ?_
  refine flow_take (i := 3) (.bool false) (by rfl) (by kernel_rfl) (by kernel_rfl) (by kernel_rfl) (by rfl) (by kernel_rfl) (List.Sublist.refl _) (gives_value _ fun _ => by rfl) ?_
  refine flow_take_g (i := 4) (dj := 38) (.bool true) (by rfl) (by kernel_rfl) (by kernel_rfl) (by kernel_rfl) (by rfl) (by kernel_rfl) (List.Sublist.refl _) (by rfl) (by rfl) (by rfl) (gives_value _ fun _ => by rfl) ?_
  refine flow_take_g (i := 5) (dj := 38) (.bool true) (by rfl) (by kernel_rfl) (by kernel_rfl) (by kernel_rfl) (by rfl) (by kernel_rfl) (List.Sublist.refl _) (by rfl) (by rfl) (by rfl) (gives_value _ fun _ => by rfl) ?_
  refine flow_take_g (i := 6) (dj := 40) (.agg (c2 (F2.rt (k0)))) (by rfl) (by kernel_rfl) (by kernel_rfl) (by kernel_rfl) (by rfl) (by kernel_rfl) (List.Sublist.refl _) (by rfl) (by rfl) (by rfl) (gives_load g7 0 30 (c2 (F2.rt (k0))) (c2 (F2.rt (k0))) _ (by rfl) (fun _ h => h.blk 0 (by rfl)) (Sl.refl _) Tryd.underlying30 (by rfl) (hi_2 _)) ?_
  refine flow_take_g (i := 8) (dj := 40) (.agg (c2 (k0))) (by rfl) (by kernel_rfl) (by kernel_rfl) (by kernel_rfl) (by rfl) (by kernel_rfl) (List.Sublist.refl _) (by rfl) (by rfl) (by rfl) (gives_load g4 0 30 (c2 (k0)) (c2 (k0)) _ (by rfl) (fun _ h => h.blk 3 (by rfl)) (Sl.refl _) Tryd.underlying30 (by rfl) (hi_2 _)) ?_
  refine flow_one 7 (by kernel_rfl) ?_
  refine F_val (vl := [.agg (c2 (F2.rt (k0)))]) (.agg (c2 ((F2.rt (k0)) * (F2.rt (k0))))) (by rfl) (by rfl) (Want.some (dj := 40) (by rfl) (by rfl) (by rfl) (by rfl)) (by kernel_rfl) (by rfl) (List.Sublist.refl _) (fun w h => q_square _ w (hG.keep h.below)) ?_
  refine flow_take_g (i := 9) (dj := 40) (.bool false) (by rfl) (by kernel_rfl) (by kernel_rfl) (by kernel_rfl) (by rfl) (by kernel_rfl) (List.Sublist.refl _) (by rfl) (by rfl) (by rfl) (gives_neq (c2 ((F2.rt (k0)) * (F2.rt (k0)))) (c2 (k0)) true (by rfl) (by rfl) (by kernel_rfl) (fun w => eq_2_t (d := 9996) w (F2.rt_ok hsq))) ?_
  refine flow_take_g (i := 10) (dj := 38) (.bool false) (by rfl) (by kernel_rfl) (by kernel_rfl) (by kernel_rfl) (by rfl) (by kernel_rfl) (List.Sublist.refl _) (by rfl) (by rfl) (by rfl) (gives_value _ fun _ => by rfl) ?_
  refine flow_take (i := 11) (.bool false) (by rfl) (by kernel_rfl) (by kernel_rfl) (by kernel_rfl) (by rfl) (by kernel_rfl) (List.Sublist.refl _) (gives_value _ fun _ => by rfl) ?_
  refine flow_take (i := 12) (.bool false) (by rfl) (by kernel_rfl) (by kernel_rfl) (by kernel_rfl) (by rfl) (by kernel_rfl) (List.Sublist.refl _) (gives_value _ fun _ => by rfl) ?_
  refine flow_take_g (i := 13) (dj := 47) (.bool true) (by rfl) (by kernel_rfl) (by kernel_rfl) (by kernel_rfl) (by rfl) (by kernel_rfl) (List.Sublist.refl _) (by rfl) (by rfl) (by rfl) (gives_value _ fun _ => by rfl) ?_
  refine flow_take_g (i := 14) (dj := 47) (.bool false) (by rfl) (by kernel_rfl) (by kernel_rfl) (by kernel_rfl) (by rfl) (by kernel_rfl) (List.Sublist.refl _) (by rfl) (by rfl) (by rfl) (gives_value _ fun _ => by rfl) ?_
  refine flow_take_g (i := 15) (dj := 47) (.bool false) (by rfl) (by kernel_rfl) (by kernel_rfl) (by kernel_rfl) (by rfl) (by kernel_rfl) (List.Sublist.refl _) (by rfl) (by rfl) (by rfl) (gives_value _ fun _ => by rfl) ?_
  refine flow_skip (i := 16) (dj := 50) (by rfl) (by kernel_rfl) (by kernel_rfl) (by kernel_rfl) (by rfl) (by kernel_rfl) (List.Sublist.refl _) (by rfl) (by rfl) (by rfl) ?_
  refine flow_skip (i := 17) (dj := 50) (by rfl) (by kernel_rfl) (by kernel_rfl) (by kernel_rfl) (by rfl) (by kernel_rfl) (List.Sublist.refl _) (by rfl) (by rfl) (by rfl) ?_
  refine flow_skip (i := 18) (dj := 50) (by rfl) (by kernel_rfl) (by kernel_rfl) (by kernel_rfl) (by rfl) (by kernel_rfl) (List.Sublist.refl _) (by rfl) (by rfl) (by rfl) ?_
  refine flow_take_g (i := 19) (dj := 47) (.bool false) (by rfl) (by kernel_rfl) (by kernel_rfl) (by kernel_rfl) (by rfl) (by kernel_rfl) (List.Sublist.refl _) (by rfl) (by rfl) (by rfl) (gives_value _ fun _ => by rfl) ?_
  refine flow_take (i := 20) (.bool false) (by rfl) (by kernel_rfl) (by kernel_rfl) (by kernel_rfl) (by rfl) (by kernel_rfl) (List.Sublist.refl _) (gives_value _ fun _ => by rfl) ?_
  refine flow_done (by kernel_rfl) ?_
  intro w7 hw7
  refine wp_cond_false (fr_at _ _ (by rfl) _) ?_
  refine wp_skip ?_
  change Code.wp _ _ _ _ _
  refine seq_plain hw7 [0, 1, 2, 3, 4, 5, 6] (by rfl) ?_
  refine L_val (.pointer (some ⟨g3, 0, none⟩)) (by rfl) (by rfl) (gives_value _ fun _ => by kernel_rfl) ?_
  refine L_val (.slice (some ⟨g1, 0, none⟩) 24 cap_1) (by rfl) (by rfl) (gives_loadS g3 0 #[.slice (some ⟨g1, 0, none⟩) 24 cap_1, .slice (some ⟨g2, 0, none⟩) 24 cap_1b] (.slice (some ⟨g1, 0, none⟩) 24 cap_1) (by rfl) (fun _ h => h.blk 4 (by rfl)) (by rfl) und_u32s) ?_
  refine L_val (.pointer (some ⟨g1, 0 + (0), none⟩)) (by rfl) (by rfl) (gives_index g1 0 (24) (cap_1) (0) (0) (by rfl) (by rfl) und_u32s u32_sz (by omega) (by omega)) ?_
  refine L_val (.int .u32 (((k0).a.val : Int) % 65536)) (by rfl) (by rfl) (gives_load1 g1 (0 + (0)) _ cs_1 (.int .u32 (((k0).a.val : Int) % 65536)) (by rfl) (fun _ h => h.blk 5 (by rfl)) (word0 hwb_1) und_u32) ?_
  refine L_val (.int .u32 ((((k0).a.val : Int) % 65536) % 2)) (by rfl) (by rfl) (gives_and (k := .u32) (((k0).a.val : Int) % 65536) 1 ((((k0).a.val : Int) % 65536) % 2) (by rfl) (by rfl) (and_one32 _ (by omega) (by omega))) ?_
  refine L_val (.bool (decide ((((k0).a.val : Int) % 65536) % 2 = 1))) (by rfl) (by rfl) (gives_ieq (k := .u32) ((((k0).a.val : Int) % 65536) % 2) (1) (decide ((((k0).a.val : Int) % 65536) % 2 = 1)) (by rfl) (by rfl) rfl) ?_
  refine L_val (.bool (decide ((((k0).a.val : Int) % 65536) % 2 = 1))) (by rfl) (by rfl) (gives_value _ fun _ => by rfl) ?_
  refine L_end ?_
  intro w8 hw8
  refine wp_seq ?_
  refine seq_plain hw8 [0, 1, 2] (by rfl) ?_
  refine L_val (.pointer (some ⟨g3, 0, none⟩)) (by rfl) (by rfl) (gives_value _ fun _ => by kernel_rfl) ?_
  refine L_val (.slice (some ⟨g1, 0, none⟩) 24 cap_1) (by rfl) (by rfl) (gives_loadS g3 0 #[.slice (some ⟨g1, 0, none⟩) 24 cap_1, .slice (some ⟨g2, 0, none⟩) 24 cap_1b] (.slice (some ⟨g1, 0, none⟩) 24 cap_1) (by rfl) (fun _ h => h.blk 4 (by rfl)) (by rfl) und_u32s) ?_
  refine L_val (.bool true) (by rfl) (by rfl) (gives_call (vl := [.slice (some ⟨g1, 0, none⟩) 24 cap_1, .slice none 0 0]) (by kernel_rfl) (by rfl) (fun w h => n_same0 w _ _ _ _ (hwb_1.num (h.blk 5 (by rfl)) (fv_rng _) (by omega)) true (decide_eq_true hza))) ?_
  refine L_end ?_
  intro w9 hw9
  refine wp_cond_true (fr_at _ _ (by rfl) _) ?_
  refine one_plain hw9 [0, 1, 2, 3, 4, 5, 6] (by rfl) ?_
  refine L_val (.pointer (some ⟨g3, 1, none⟩)) (by rfl) (by rfl) (gives_value _ fun _ => by kernel_rfl) ?_
  refine L_val (.slice (some ⟨g2, 0, none⟩) 24 cap_1b) (by rfl) (by rfl) (gives_loadS g3 1 #[.slice (some ⟨g1, 0, none⟩) 24 cap_1, .slice (some ⟨g2, 0, none⟩) 24 cap_1b] (.slice (some ⟨g2, 0, none⟩) 24 cap_1b) (by rfl) (fun _ h => h.blk 4 (by rfl)) (by rfl) und_u32s) ?_
  refine L_val (.pointer (some ⟨g2, 0 + (0), none⟩)) (by rfl) (by rfl) (gives_index g2 0 (24) (cap_1b) (0) (0) (by rfl) (by rfl) und_u32s u32_sz (by omega) (by omega)) ?_
  refine L_val (.int .u32 (((k0).b.val : Int) % 65536)) (by rfl) (by rfl) (gives_load1 g2 (0 + (0)) _ cs_1b (.int .u32 (((k0).b.val : Int) % 65536)) (by rfl) (fun _ h => h.blk 6 (by rfl)) (word0 hwb_1b) und_u32) ?_
  refine L_val (.int .u32 ((((k0).b.val : Int) % 65536) % 2)) (by rfl) (by rfl) (gives_and (k := .u32) (((k0).b.val : Int) % 65536) 1 ((((k0).b.val : Int) % 65536) % 2) (by rfl) (by rfl) (and_one32 _ (by omega) (by omega))) ?_
  refine L_val (.bool (decide ((((k0).b.val : Int) % 65536) % 2 = 1))) (by rfl) (by rfl) (gives_ieq (k := .u32) ((((k0).b.val : Int) % 65536) % 2) (1) (decide ((((k0).b.val : Int) % 65536) % 2 = 1)) (by rfl) (by rfl) rfl) ?_
  refine L_val (.bool (decide ((((k0).b.val : Int) % 65536) % 2 = 1))) (by rfl) (by rfl) (gives_value _ fun _ => by rfl) ?_
  refine L_end ?_
  intro w10 hw10
  change Code.wp _ _ _ _ _
  refine seq_plain hw10 [0, 1, 2, 3] (by rfl) ?_
  refine L_val (.pointer (some ⟨g3, 1, none⟩)) (by rfl) (by rfl) (gives_value _ fun _ => by kernel_rfl) ?_
  refine L_val (.slice (some ⟨g2, 0, none⟩) 24 cap_1b) (by rfl) (by rfl) (gives_loadS g3 1 #[.slice (some ⟨g1, 0, none⟩) 24 cap_1, .slice (some ⟨g2, 0, none⟩) 24 cap_1b] (.slice (some ⟨g2, 0, none⟩) 24 cap_1b) (by rfl) (fun _ h => h.blk 4 (by rfl)) (by rfl) und_u32s) ?_
  refine L_val (.bool (decide (Mp < ((k0).b.val : Int) + ((k0).b.val : Int)))) (by rfl) (by rfl) (gives_call (vl := [.slice (some ⟨g2, 0, none⟩) 24 cap_1b]) (by kernel_rfl) (by rfl) (fun w h => n_large4 w _ _ _ (hwb_1b.num (h.blk 6 (by rfl)) (fv_rng _) (by omega)) (by omega))) ?_
  refine L_val (.bool (decide (Mp < ((k0).b.val : Int) + ((k0).b.val : Int)))) (by rfl) (by rfl) (gives_value _ fun _ => by rfl) ?_
  refine L_end ?_
  intro w11 hw11
  refine wp_seq ?_
  refine seq_plain hw11 [0, 1, 2] (by rfl) ?_
  refine L_val (.pointer (some ⟨g3, 1, none⟩)) (by rfl) (by rfl) (gives_value _ fun _ => by kernel_rfl) ?_
  refine L_val (.slice (some ⟨g2, 0, none⟩) 24 cap_1b) (by rfl) (by rfl) (gives_loadS g3 1 #[.slice (some ⟨g1, 0, none⟩) 24 cap_1, .slice (some ⟨g2, 0, none⟩) 24 cap_1b] (.slice (some ⟨g2, 0, none⟩) 24 cap_1b) (by rfl) (fun _ h => h.blk 4 (by rfl)) (by rfl) und_u32s) ?_
  refine L_val (.bool false) (by rfl) (by rfl) (gives_call (vl := [.slice (some ⟨g2, 0, none⟩) 24 cap_1b, .slice none 0 0]) (by kernel_rfl) (by rfl) (fun w h => n_same0 w _ _ _ _ (hwb_1b.num (h.blk 6 (by rfl)) (fv_rng _) (by omega)) false (decide_eq_false hzb))) ?_
  refine L_end ?_
  intro w12 hw12
  refine wp_cond_false (fr_at _ _ (by rfl) _) ?_
  refine wp_skip ?_
  change Code.wp _ _ _ _ _
  refine seq_plain hw12 [0, 1, 2, 3, 4, 5, 6, 7, 8, 9, 10] (by rfl) ?_
  refine L_val (.agg (c2 (k0))) (by rfl) (by rfl) (gives_load g4 0 30 (c2 (k0)) (c2 (k0)) _ (by rfl) (fun _ h => h.blk 3 (by rfl)) (Sl.refl _) Tryd.underlying30 (by rfl) (hi_2 _)) ?_
  refine L_val (.bool (F2.odd (k0))) (by rfl) (by rfl) (gives_call (vl := [.agg (c2 (k0))]) (by kernel_rfl) (by rfl) (fun w h => q_odd _ w (hG.keep h.below))) ?_
  refine L_val (.bool (decide ((((k0).b.val : Int) % 65536) % 2 = 1))) (by rfl) (by rfl) (gives_value _ fun _ => by rfl) ?_
  refine L_val (.bool true) (by rfl) (by rfl) (gives_eqbb _ _ (by rfl) (by rfl) (by rfl) (odd5_z _ hza)) ?_
  refine L_val (.bool true) (by rfl) (by rfl) (gives_value _ fun _ => by rfl) ?_
  refine L_val_g (dj := 84) (.agg (c2 (k0))) (by rfl) (by rfl) (by rfl) (by rfl) (by rfl) (gives_load g4 0 30 (c2 (k0)) (c2 (k0)) _ (by rfl) (fun _ h => h.blk 3 (by rfl)) (Sl.refl _) Tryd.underlying30 (by rfl) (hi_2 _)) ?_
  refine L_val_g (dj := 84) (.bool (F2.large (k0))) (by rfl) (by rfl) (by rfl) (by rfl) (by rfl) (gives_call (vl := [.agg (c2 (k0))]) (by kernel_rfl) (by rfl) (fun w h => q_large _ w (hG.keep h.below) (hU.keep h.below))) ?_
  refine L_val_g (dj := 84) (.bool (decide (Mp < ((k0).b.val : Int) + ((k0).b.val : Int)))) (by rfl) (by rfl) (by rfl) (by rfl) (by rfl) (gives_value _ fun _ => by rfl) ?_
  refine L_val_g (dj := 84) (.bool true) (by rfl) (by rfl) (by rfl) (by rfl) (by rfl) (gives_eqbb _ _ (by rfl) (by rfl) (by rfl) (large5_n _ hzb)) ?_
  refine L_val (.bool true) (by rfl) (by rfl) (gives_value _ fun _ => by rfl) ?_
  refine L_val (.bool true) (by rfl) (by rfl) (gives_value _ fun _ => by rfl) ?_
  refine L_end ?_
  intro w13 hw13
  refine wp_ret ?_
  change bodyPost _ _ _ Exit.ret _ _
  refine (ret_tmp (by rfl) (by rfl) (by rfl) ⟨rfl, hw13.below⟩)
set_option maxRecDepth 100000 in
set_option maxHeartbeats 4000000 in
theorem roots5_101 (A0 : Option Addr) (L0 C0 : Nat) (bs0 : List Int) (A1 : Option Addr) (L1 C1 : Nat) (bs1 : List Int) (v : World) (hG : Glo v) (hQ : GQp v) (hU : GUp v) (hr0 : Reads v v.heap.size A0 L0 (bs0.map (Value.int .u8))) (ho0 : Oct bs0) (hr1 : Reads v v.heap.size A1 L1 (bs1.map (Value.int .u8))) (ho1 : Oct bs1) (hs0 : L0 ≤ 64) (hs1 : L1 ≤ 64) (k0 : F2) (hk0 : k0 = (⟨Fp.n (num bs0), Fp.n (num bs1)⟩ : F2)) (hsq : F2.sq k0) (hza : ¬ k0.a = 0) (hzb : k0.b = 0) : Rets 5 #[.slice A0 L0 C0, .slice A1 L1 C1] v (.bool true) := by
  have hn0 : bs0.length = L0 := by simpa using hr0.1
  have hn1 : bs1.length = L1 := by simpa using hr1.1
  refine calls_fr2 Tryd.func5 rfl (by rfl : _ = 90) (by rfl) ?_
  have hw := Hbl.nil v
  refine seq_plain hw [0] (by rfl) ?_
  refine L_val (.bool false) (by rfl) (by rfl) (gives_value _ fun _ => by rfl) ?_
  refine L_end ?_
  intro w1 hw1
  refine wp_seq ?_
  refine seq_plain hw1 [0, 1] (by rfl) ?_
  refine L_val (.bool true) (by rfl) (by rfl) (gives_call (vl := []) (by kernel_rfl) (by rfl) (fun w h => q_head w (hG.keep h.below))) ?_
  refine L_val (.bool false) (by rfl) (by rfl) (gives_value _ fun _ => by rfl) ?_
  refine L_end ?_
  intro w2 hw2
  refine wp_cond_false (fr_at _ _ (by rfl) _) ?_
  refine wp_skip ?_
  change Code.wp _ _ _ _ _
  refine wp_seq ?_
  refine seq_plain hw2 [0, 1, 2] (by rfl) ?_
  refine L_val (.slice A0 L0 C0) (by rfl) (by rfl) (gives_value _ fun _ => by rfl) ?_
  refine L_val (.slice A1 L1 C1) (by rfl) (by rfl) (gives_value _ fun _ => by rfl) ?_
  refine L_val (.bool false) (by rfl) (by rfl) (gives_call (vl := [.slice A0 L0 C0, .slice A1 L1 C1, .slice none 0 0, .slice none 0 0]) (by kernel_rfl) (by rfl) (fun w h => long_no _ _ _ _ _ _ none 0 0 none 0 0 w (by omega) (by omega) (by omega) (by omega))) ?_
  refine L_end ?_
  intro w3 hw3
  refine wp_cond_false (fr_at _ _ (by rfl) _) ?_
  refine wp_skip ?_
  change Code.wp _ _ _ _ _
  refine seq_plain hw3 [0, 1, 2, 3, 4, 5, 6, 7, 8, 9] (by rfl) ?_
  refine L_val (.slice A0 L0 C0) (by rfl) (by rfl) (gives_value _ fun _ => by rfl) ?_
  refine L_val (.slice A1 L1 C1) (by rfl) (by rfl) (gives_value _ fun _ => by rfl) ?_
  refine L_freshY (vl := [.slice A0 L0 C0, .slice A1 L1 C1]) 61 61 (fun g cap g2 cap2 => .tuple #[.agg #[.slice (some ⟨g, 0, none⟩) 24 cap, .slice (some ⟨g2, 0, none⟩) 24 cap2], .agg (c2 (k0))]) (fun cap cs cap2 cs2 => WB cs cap 24 ((k0).a.val : Int) ∧ WB cs2 cap2 24 ((k0).b.val : Int)) (by rfl) (by rfl) Want.none (by kernel_rfl) (by rfl)  (fun w h => by rw [hk0]; exact l5_number A0 L0 C0 bs0 A1 L1 C1 bs1 w (hG.keep h.below) ((hr0.below h.below).more h.below.size) ho0 ((hr1.below h.below).more h.below.size) ho1 (by omega) (by omega)) ?_; intro g1 cap_1 cs_1 g2 cap_1b cs_1b hq_1; obtain ⟨hwb_1, hwb_1b⟩ := hq_1
  refine L_val (.tuple #[.agg #[.slice (some ⟨g1, 0, none⟩) 24 cap_1, .slice (some ⟨g2, 0, none⟩) 24 cap_1b], .agg (c2 (k0))]) (by rfl) (by rfl) (gives_value _ fun _ => by rfl) ?_
  refine L_val (.agg #[.slice (some ⟨g1, 0, none⟩) 24 cap_1, .slice (some ⟨g2, 0, none⟩) 24 cap_1b]) (by rfl) (by rfl) (gives_value _ fun _ => by kernel_rfl) ?_
  refine L_val (.agg (c2 (k0))) (by rfl) (by rfl) (gives_value _ fun _ => by kernel_rfl) ?_
  refine L_alloc _ (by rfl) (by rfl) z_N #[.slice none 0 0, .slice none 0 0] rfl ?_; intro g3
  refine L_alloc _ (by rfl) (by rfl) z_2 (c2 (0 : F2)) rfl ?_; intro g4
  refine L_store (t := 46) 1 g3 #[.slice none 0 0, .slice none 0 0] #[.slice (some ⟨g1, 0, none⟩) 24 cap_1, .slice (some ⟨g2, 0, none⟩) 24 cap_1b] (by rfl) (by rfl) (by rfl) (by rfl) (by rfl) (hi_NN _ _) (by rfl) (one_N (by rfl) (by rfl)) ?_
  simp only [List.set_cons_zero, List.set_cons_succ]
  refine L_store (t := 30) 0 g4 (c2 (0 : F2)) (c2 (k0)) (by rfl) (by rfl) (by rfl) (by rfl) (by rfl) (hi_2 _) ((c2_size _).trans (c2_size _).symm) (c2_one _) ?_
  simp only [List.set_cons_zero, List.set_cons_succ]
  refine L_end ?_
  intro w4 hw4
  refine seq_plain hw4 [0, 1, 2, 3, 4, 5, 6, 7] (by rfl) ?_
  refine L_val (.agg #[.slice (some ⟨g1, 0, none⟩) 24 cap_1, .slice (some ⟨g2, 0, none⟩) 24 cap_1b]) (by rfl) (by rfl) (gives_load g3 0 46 #[.slice (some ⟨g1, 0, none⟩) 24 cap_1, .slice (some ⟨g2, 0, none⟩) 24 cap_1b] #[.slice (some ⟨g1, 0, none⟩) 24 cap_1, .slice (some ⟨g2, 0, none⟩) 24 cap_1b] _ (by rfl) (fun _ h => h.blk 1 (by rfl)) (Sl.refl _) Tryd.underlying46 (by rfl) (hi_NN _ _)) ?_
  refine L_freshW (vl := [.agg #[.slice (some ⟨g1, 0, none⟩) 24 cap_1, .slice (some ⟨g2, 0, none⟩) 24 cap_1b]]) (24) (((F2.norm (k0)).val : Int)) (by rfl) (by rfl) (by kernel_rfl) (by rfl) (fun w h => l5_norm (k0) _ _ _ _ _ _ w (hwb_1.num (h.blk 2 (by rfl)) (fv_rng _) (by omega)) (hwb_1b.num (h.blk 3 (by rfl)) (fv_rng _) (by omega)) (by omega) (by omega)) ?_; intro g5 cap_2 cs_2 hwb_2
  refine L_freshU (vl := [.slice (some ⟨g5, 0, none⟩) (24) cap_2]) (fun g cap => .tuple #[.slice (some ⟨g, 0, none⟩) 24 cap, .bool true]) (24) ((((F2.norm (k0)).val : Int)) ^ Qp % Mp) (by rfl) (by rfl) (by kernel_rfl) (by rfl) (fun w h => n_sqrt4_t w _ _ _ (hwb_2.num (h.blk 0 (by rfl)) (fv_rng _) (by omega)) ((sq5 _).2 hsq)) ?_; intro g6 cap_3 cs_3 hwb_3
  refine L_val (.tuple #[.slice (some ⟨g6, 0, none⟩) 24 cap_3, .bool true]) (by rfl) (by rfl) (gives_value _ fun _ => by rfl) ?_
  refine L_val (.slice (some ⟨g6, 0, none⟩) 24 cap_3) (by rfl) (by rfl) (gives_value _ fun _ => by kernel_rfl) ?_
  refine L_val (.bool true) (by rfl) (by rfl) (gives_value _ fun _ => by kernel_rfl) ?_
  refine L_val (.slice (some ⟨g6, 0, none⟩) 24 cap_3) (by rfl) (by rfl) (gives_value _ fun _ => by rfl) ?_
  refine L_val (.bool true) (by rfl) (by rfl) (gives_value _ fun _ => by rfl) ?_
  refine L_end ?_
  intro w5 hw5
  refine seq_plain hw5 [0, 1, 2, 3, 4, 5, 6, 7] (by rfl) ?_
  refine L_val (.agg (c2 (k0))) (by rfl) (by rfl) (gives_load g4 0 30 (c2 (k0)) (c2 (k0)) _ (by rfl) (fun _ h => h.blk 2 (by rfl)) (Sl.refl _) Tryd.underlying30 (by rfl) (hi_2 _)) ?_
  refine L_val (.tuple #[.agg (c2 (F2.rt (k0))), .bool true]) (by rfl) (by rfl) (gives_call (vl := [.agg (c2 (k0))]) (by kernel_rfl) (by rfl) (fun w h => q_sqrt_yes _ w (hG.keep h.below) (hQ.keep h.below) hsq)) ?_
  refine L_val (.tuple #[.agg (c2 (F2.rt (k0))), .bool true]) (by rfl) (by rfl) (gives_value _ fun _ => by rfl) ?_
  refine L_val (.agg (c2 (F2.rt (k0)))) (by rfl) (by rfl) (gives_value _ fun _ => by kernel_rfl) ?_
  refine L_val (.bool true) (by rfl) (by rfl) (gives_value _ fun _ => by kernel_rfl) ?_
  refine L_alloc _ (by rfl) (by rfl) z_2 (c2 (0 : F2)) rfl ?_; intro g7
  refine L_store (t := 30) 0 g7 (c2 (0 : F2)) (c2 (F2.rt (k0))) (by rfl) (by rfl) (by rfl) (by rfl) (by rfl) (hi_2 _) ((c2_size _).trans (c2_size _).symm) (c2_one _) ?_
  simp only [List.set_cons_zero, List.set_cons_succ]
  refine L_val (.bool true) (by rfl) (by rfl) (gives_value _ fun _ => by rfl) ?_
  refine L_end ?_
  intro w6 hw6
  refine wp_seq ?_
  refine seq_flow (by kernel_rfl) hw6 [] [(g7, 30, (c2 (F2.rt (k0)))), (g6, 61, cs_3), (g5, 61, cs_2), (g4, 30, (c2 (k0))), (g3, 46, #[.slice (some ⟨g1, 0, none⟩) 24 cap_1, .slice (some ⟨g2, 0, none⟩) 24 cap_1b]), (g1, 61, cs_1), (g2, 61, cs_1b)] 21 (by rfl) ?_
  refine flow_take (i := 0) (.bool true) (by rfl) (by kernel_rfl) (by kernel_rfl) (by kernel_rfl) (by rfl) (by kernel_rfl) (List.Sublist.refl _) (gives_value _ fun _ => by rfl) ?_
  refine flow_take (i := 1) (.bool true) (by rfl) (by kernel_rfl) (by kernel_rfl) (by kernel_rfl) (by rfl) (by kernel_rfl) (List.Sublist.refl _) (gives_value _ fun _ => by rfl) ?_
  refine flow_take (i := 2) (.bool false) (by rfl) (by kernel_rfl) (by kernel_rfl) (by kernel_rfl) (by rfl) (by kernel_rfl) (List.Sublist.refl _) (gives_value _ fun _ => by rfl) ?_
  refine flow_take (i := 3) (.bool false) (by rfl) (by kernel_rfl) (by kernel_rfl) (by kernel_rfl) (by rfl) (by kernel_rfl) (List.Sublist.refl _) (gives_value _ fun _ => by rfl) ?_
  refine flow_take_g (i := 4) (dj := 38) (.bool true) (by rfl) (by kernel_rfl) (by kernel_rfl) (by kernel_rfl) (by rfl) (by kernel_rfl) (List.Sublist.refl _) (by rfl) (by rfl) (by rfl) (gives_value _ fun _ => by rfl) ?_
  refine flow_take_g (i := 5) (dj := 38) (.bool true) (by rfl) (by kernel_rfl) (by kernel_rfl) (by kernel_rfl) (by rfl) (by kernel_rfl) (List.Sublist.refl _) (by rfl) (by rfl) (by rfl) (gives_value _ fun _ => by rfl) ?_
  refine flow_take_g (i := 6) (dj := 40) (.agg (c2 (F2.rt (k0)))) (by rfl) (by kernel_rfl) (by kernel_rfl) (by kernel_rfl) (by rfl) (by kernel_rfl) (List.Sublist.refl _) (by rfl) (by rfl) (by rfl) (gives_load g7 0 30 (c2 (F2.rt (k0))) (c2 (F2.rt (k0))) _ (by rfl) (fun _ h => h.blk 0 (by rfl)) (Sl.refl _) Tryd.underlying30 (by rfl) (hi_2 _)) ?_
  refine flow_take_g (i := 8) (dj := 40) (.agg (c2 (k0))) (by rfl) (by kernel_rfl) (by kernel_rfl) (by kernel_rfl) (by rfl) (by kernel_rfl) (List.Sublist.refl _) (by rfl) (by rfl) (by rfl) (gives_load g4 0 30 (c2 (k0)) (c2 (k0)) _ (by rfl) (fun _ h => h.blk 3 (by rfl)) (Sl.refl _) Tryd.underlying30 (by rfl) (hi_2 _)) ?_
  refine flow_one 7 (by kernel_rfl) ?_
  refine F_val (vl := [.agg (c2 (F2.rt (k0)))]) (.agg (c2 ((F2.rt (k0)) * (F2.rt (k0))))) (by rfl) (by rfl) (Want.some (dj := 40) (by rfl) (by rfl) (by rfl) (by rfl)) (by kernel_rfl) (by rfl) (List.Sublist.refl _) (fun w h => q_square _ w (hG.keep h.below)) ?_
  refine flow_take_g (i := 9) (dj := 40) (.bool false) (by rfl) (by kernel_rfl) (by kernel_rfl) (by kernel_rfl) (by rfl) (by kernel_rfl) (List.Sublist.refl _) (by rfl) (by rfl) (by rfl) (gives_neq (c2 ((F2.rt (k0)) * (F2.rt (k0)))) (c2 (k0)) true (by rfl) (by rfl) (by kernel_rfl) (fun w => eq_2_t (d := 9996) w (F2.rt_ok hsq))) ?_
  refine flow_take_g (i := 10) (dj := 38) (.bool false) (by rfl) (by kernel_rfl) (by kernel_rfl) (by kernel_rfl) (by rfl) (by kernel_rfl) (List.Sublist.refl _) (by rfl) (by rfl) (by rfl) (gives_value _ fun _ => by rfl) ?_
  refine flow_take (i := 11) (.bool false) (by rfl) (by kernel_rfl) (by kernel_rfl) (by kernel_rfl) (by rfl) (by kernel_rfl) (List.Sublist.refl _) (gives_value _ fun _ => by rfl) ?_
  refine flow_take (i := 12) (.bool false) (by rfl) (by kernel_rfl) (by kernel_rfl) (by kernel_rfl) (by rfl) (by kernel_rfl) (List.Sublist.refl _) (gives_value _ fun _ => by rfl) ?_
  refine flow_take_g (i := 13) (dj := 47) (.bool true) (by rfl) (by kernel_rfl) (by kernel_rfl) (by kernel_rfl) (by rfl) (by kernel_rfl) (List.Sublist.refl _) (by rfl) (by rfl) (by rfl) (gives_value _ fun _ => by rfl) ?_
  refine flow_take_g (i := 14) (dj := 47) (.bool false) (by rfl) (by kernel_rfl) (by kernel_rfl) (by kernel_rfl) (by rfl) (by kernel_rfl) (List.Sublist.refl _) (by rfl) (by rfl) (by rfl) (gives_value _ fun _ => by rfl) ?_
  refine flow_take_g (i := 15) (dj := 47) (.bool false) (by rfl) (by kernel_rfl) (by kernel_rfl) (by kernel_rfl) (by rfl) (by kernel_rfl) (List.Sublist.refl _) (by rfl) (by rfl) (by rfl) (gives_value _ fun _ => by rfl) ?_
  refine flow_skip (i := 16) (dj := 50) (by rfl) (by kernel_rfl) (by kernel_rfl) (by kernel_rfl) (by rfl) (by kernel_rfl) (List.Sublist.refl _) (by rfl) (by rfl) (by rfl) ?_
  refine flow_skip (i := 17) (dj := 50) (by rfl) (by kernel_rfl) (by kernel_rfl) (by kernel_rfl) (by rfl) (by kernel_rfl) (List.Sublist.refl _) (by rfl) (by rfl) (by rfl) ?_
  refine flow_skip (i := 18) (dj := 50) (by rfl) (by kernel_rfl) (by kernel_rfl) (by kernel_rfl) (by rfl) (by kernel_rfl) (List.Sublist.refl _) (by rfl) (by rfl) (by rfl) ?_
  refine flow_take_g (i := 19) (dj := 47) (.bool false) (by rfl) (by kernel_rfl) (by kernel_rfl) (by kernel_rfl) (by rfl) (by kernel_rfl) (List.Sublist.refl _) (by rfl) (by rfl) (by rfl) (gives_value _ fun _ => by rfl) ?_
  refine flow_take (i := 20) (.bool false) (by rfl) (by kernel_rfl) (by kernel_rfl) (by kernel_rfl) (by rfl) (by kernel_rfl) (List.Sublist.refl _) (gives_value _ fun _ => by rfl) ?_
  refine flow_done (by kernel_rfl) ?_
  intro w7 hw7
  refine wp_cond_false (fr_at _ _ (by rfl) _) ?_
  refine wp_skip ?_
  change Code.wp _ _ _ _ _
  refine seq_plain hw7 [0, 1, 2, 3, 4, 5, 6] (by rfl) ?_
  refine L_val (.pointer (some ⟨g3, 0, none⟩)) (by rfl) (by rfl) (gives_value _ fun _ => by kernel_rfl) ?_
  refine L_val (.slice (some ⟨g1, 0, none⟩) 24 cap_1) (by rfl) (by rfl) (gives_loadS g3 0 #[.slice (some ⟨g1, 0, none⟩) 24 cap_1, .slice (some ⟨g2, 0, none⟩) 24 cap_1b] (.slice (some ⟨g1, 0, none⟩) 24 cap_1) (by rfl) (fun _ h => h.blk 4 (by rfl)) (by rfl) und_u32s) ?_
  refine L_val (.pointer (some ⟨g1, 0 + (0), none⟩)) (by rfl) (by rfl) (gives_index g1 0 (24) (cap_1) (0) (0) (by rfl) (by rfl) und_u32s u32_sz (by omega) (by omega)) ?_
  refine L_val (.int .u32 (((k0).a.val : Int) % 65536)) (by rfl) (by rfl) (gives_load1 g1 (0 + (0)) _ cs_1 (.int .u32 (((k0).a.val : Int) % 65536)) (by rfl) (fun _ h => h.blk 5 (by rfl)) (word0 hwb_1) und_u32) ?_
  refine L_val (.int .u32 ((((k0).a.val : Int) % 65536) % 2)) (by rfl) (by rfl) (gives_and (k := .u32) (((k0).a.val : Int) % 65536) 1 ((((k0).a.val : Int) % 65536) % 2) (by rfl) (by rfl) (and_one32 _ (by omega) (by omega))) ?_
  refine L_val (.bool (decide ((((k0).a.val : Int) % 65536) % 2 = 1))) (by rfl) (by rfl) (gives_ieq (k := .u32) ((((k0).a.val : Int) % 65536) % 2) (1) (decide ((((k0).a.val : Int) % 65536) % 2 = 1)) (by rfl) (by rfl) rfl) ?_
  refine L_val (.bool (decide ((((k0).a.val : Int) % 65536) % 2 = 1))) (by rfl) (by rfl) (gives_value _ fun _ => by rfl) ?_
  refine L_end ?_
  intro w8 hw8
  refine wp_seq ?_
  refine seq_plain hw8 [0, 1, 2] (by rfl) ?_
  refine L_val (.pointer (some ⟨g3, 0, none⟩)) (by rfl) (by rfl) (gives_value _ fun _ => by kernel_rfl) ?_
  refine L_val (.slice (some ⟨g1, 0, none⟩) 24 cap_1) (by rfl) (by rfl) (gives_loadS g3 0 #[.slice (some ⟨g1, 0, none⟩) 24 cap_1, .slice (some ⟨g2, 0, none⟩) 24 cap_1b] (.slice (some ⟨g1, 0, none⟩) 24 cap_1) (by rfl) (fun _ h => h.blk 4 (by rfl)) (by rfl) und_u32s) ?_
  refine L_val (.bool false) (by rfl) (by rfl) (gives_call (vl := [.slice (some ⟨g1, 0, none⟩) 24 cap_1, .slice none 0 0]) (by kernel_rfl) (by rfl) (fun w h => n_same0 w _ _ _ _ (hwb_1.num (h.blk 5 (by rfl)) (fv_rng _) (by omega)) false (decide_eq_false hza))) ?_
  refine L_end ?_
  intro w9 hw9
  refine wp_cond_false (fr_at _ _ (by rfl) _) ?_
  refine wp_skip ?_
  change Code.wp _ _ _ _ _
  refine seq_plain hw9 [0, 1, 2, 3] (by rfl) ?_
  refine L_val (.pointer (some ⟨g3, 1, none⟩)) (by rfl) (by rfl) (gives_value _ fun _ => by kernel_rfl) ?_
  refine L_val (.slice (some ⟨g2, 0, none⟩) 24 cap_1b) (by rfl) (by rfl) (gives_loadS g3 1 #[.slice (some ⟨g1, 0, none⟩) 24 cap_1, .slice (some ⟨g2, 0, none⟩) 24 cap_1b] (.slice (some ⟨g2, 0, none⟩) 24 cap_1b) (by rfl) (fun _ h => h.blk 4 (by rfl)) (by rfl) und_u32s) ?_
  refine L_val (.bool (decide (Mp < ((k0).b.val : Int) + ((k0).b.val : Int)))) (by rfl) (by rfl) (gives_call (vl := [.slice (some ⟨g2, 0, none⟩) 24 cap_1b]) (by kernel_rfl) (by rfl) (fun w h => n_large4 w _ _ _ (hwb_1b.num (h.blk 6 (by rfl)) (fv_rng _) (by omega)) (by omega))) ?_
  refine L_val (.bool (decide (Mp < ((k0).b.val : Int) + ((k0).b.val : Int)))) (by rfl) (by rfl) (gives_value _ fun _ => by rfl) ?_
  refine L_end ?_
  intro w10 hw10
  refine wp_seq ?_
  refine seq_plain hw10 [0, 1, 2] (by rfl) ?_
  refine L_val (.pointer (some ⟨g3, 1, none⟩)) (by rfl) (by rfl) (gives_value _ fun _ => by kernel_rfl) ?_
  refine L_val (.slice (some ⟨g2, 0, none⟩) 24 cap_1b) (by rfl) (by rfl) (gives_loadS g3 1 #[.slice (some ⟨g1, 0, none⟩) 24 cap_1, .slice (some ⟨g2, 0, none⟩) 24 cap_1b] (.slice (some ⟨g2, 0, none⟩) 24 cap_1b) (by rfl) (fun _ h => h.blk 4 (by rfl)) (by rfl) und_u32s) ?_
  refine L_val (.bool true) (by rfl) (by rfl) (gives_call (vl := [.slice (some ⟨g2, 0, none⟩) 24 cap_1b, .slice none 0 0]) (by kernel_rfl) (by rfl) (fun w h => n_same0 w _ _ _ _ (hwb_1b.num (h.blk 6 (by rfl)) (fv_rng _) (by omega)) true (decide_eq_true hzb))) ?_
  refine L_end ?_
  intro w11 hw11
  refine wp_cond_true (fr_at _ _ (by rfl) _) ?_
  refine one_plain hw11 [0, 1, 2, 3] (by rfl) ?_
  refine L_val (.pointer (some ⟨g3, 0, none⟩)) (by rfl) (by rfl) (gives_value _ fun _ => by kernel_rfl) ?_
  refine L_val (.slice (some ⟨g1, 0, none⟩) 24 cap_1) (by rfl) (by rfl) (gives_loadS g3 0 #[.slice (some ⟨g1, 0, none⟩) 24 cap_1, .slice (some ⟨g2, 0, none⟩) 24 cap_1b] (.slice (some ⟨g1, 0, none⟩) 24 cap_1) (by rfl) (fun _ h => h.blk 4 (by rfl)) (by rfl) und_u32s) ?_
  refine L_val (.bool (decide (Mp < ((k0).a.val : Int) + ((k0).a.val : Int)))) (by rfl) (by rfl) (gives_call (vl := [.slice (some ⟨g1, 0, none⟩) 24 cap_1]) (by kernel_rfl) (by rfl) (fun w h => n_large4 w _ _ _ (hwb_1.num (h.blk 5 (by rfl)) (fv_rng _) (by omega)) (by omega))) ?_
  refine L_val (.bool (decide (Mp < ((k0).a.val : Int) + ((k0).a.val : Int)))) (by rfl) (by rfl) (gives_value _ fun _ => by rfl) ?_
  refine L_end ?_
  intro w12 hw12
  change Code.wp _ _ _ _ _
  refine seq_plain hw12 [0, 1, 2, 3, 4, 5, 6, 7, 8, 9, 10] (by rfl) ?_
  refine L_val (.agg (c2 (k0))) (by rfl) (by rfl) (gives_load g4 0 30 (c2 (k0)) (c2 (k0)) _ (by rfl) (fun _ h => h.blk 3 (by rfl)) (Sl.refl _) Tryd.underlying30 (by rfl) (hi_2 _)) ?_
  refine L_val (.bool (F2.odd (k0))) (by rfl) (by rfl) (gives_call (vl := [.agg (c2 (k0))]) (by kernel_rfl) (by rfl) (fun w h => q_odd _ w (hG.keep h.below))) ?_
  refine L_val (.bool (decide ((((k0).a.val : Int) % 65536) % 2 = 1))) (by rfl) (by rfl) (gives_value _ fun _ => by rfl) ?_
  refine L_val (.bool true) (by rfl) (by rfl) (gives_eqbb _ _ (by rfl) (by rfl) (by rfl) (odd5_n _ hza)) ?_
  refine L_val (.bool true) (by rfl) (by rfl) (gives_value _ fun _ => by rfl) ?_
  refine L_val_g (dj := 84) (.agg (c2 (k0))) (by rfl) (by rfl) (by rfl) (by rfl) (by rfl) (gives_load g4 0 30 (c2 (k0)) (c2 (k0)) _ (by rfl) (fun _ h => h.blk 3 (by rfl)) (Sl.refl _) Tryd.underlying30 (by rfl) (hi_2 _)) ?_
  refine L_val_g (dj := 84) (.bool (F2.large (k0))) (by rfl) (by rfl) (by rfl) (by rfl) (by rfl) (gives_call (vl := [.agg (c2 (k0))]) (by kernel_rfl) (by rfl) (fun w h => q_large _ w (hG.keep h.below) (hU.keep h.below))) ?_
  refine L_val_g (dj := 84) (.bool (decide (Mp < ((k0).a.val : Int) + ((k0).a.val : Int)))) (by rfl) (by rfl) (by rfl) (by rfl) (by rfl) (gives_value _ fun _ => by rfl) ?_
  refine L_val_g (dj := 84) (.bool true) (by rfl) (by rfl) (by rfl) (by rfl) (by rfl) (gives_eqbb _ _ (by rfl) (by rfl) (by rfl) (large5_z _ hzb)) ?_
  refine L_val (.bool true) (by rfl) (by rfl) (gives_value _ fun _ => by rfl) ?_
  refine L_val (.bool true) (by rfl) (by rfl) (gives_value _ fun _ => by rfl) ?_
  refine L_end ?_
  intro w13 hw13
  refine wp_ret ?_
  change bodyPost _ _ _ Exit.ret _ _
  refine (ret_tmp (by rfl) (by rfl) (by rfl) ⟨rfl, hw13.below⟩)
set_option maxRecDepth 100000 in
set_option maxHeartbeats 4000000 in
theorem roots5_100 (A0 : Option Addr) (L0 C0 : Nat) (bs0 : List Int) (A1 : Option Addr) (L1 C1 : Nat) (bs1 : List Int) (v : World) (hG : Glo v) (hQ : GQp v) (hU : GUp v) (hr0 : Reads v v.heap.size A0 L0 (bs0.map (Value.int .u8))) (ho0 : Oct bs0) (hr1 : Reads v v.heap.size A1 L1 (bs1.map (Value.int .u8))) (ho1 : Oct bs1) (hs0 : L0 ≤ 64) (hs1 : L1 ≤ 64) (k0 : F2) (hk0 : k0 = (⟨Fp.n (num bs0), Fp.n (num bs1)⟩ : F2)) (hsq : F2.sq k0) (hza : ¬ k0.a = 0) (hzb : ¬ k0.b = 0) : Rets 5 #[.slice A0 L0 C0, .slice A1 L1 C1] v (.bool true) := by
  have hn0 : bs0.length = L0 := by simpa using hr0.1
  have hn1 : bs1.length = L1 := by simpa using hr1.1
  refine calls_fr2 Tryd.func5 rfl (by rfl : _ = 90) (by rfl) ?_
  have hw := Hbl.nil v
  refine seq_plain hw [0] (by rfl) ?_
  refine L_val (.bool false) (by rfl) (by rfl) (gives_value _ fun _ => by rfl) ?_
  refine L_end ?_
  intro w1 hw1
  refine wp_seq ?_
  refine seq_plain hw1 [0, 1] (by rfl) ?_
  refine L_val (.bool true) (by rfl) (by rfl) (gives_call (vl := []) (by kernel_rfl) (by rfl) (fun w h => q_head w (hG.keep h.below))) ?_
  refine L_val (.bool false) (by rfl) (by rfl) (gives_value _ fun _ => by rfl) ?_
  refine L_end ?_
  intro w2 hw2
  refine wp_cond_false (fr_at _ _ (by rfl) _) ?_
  refine wp_skip ?_
  change Code.wp _ _ _ _ _
  refine wp_seq ?_
  refine seq_plain hw2 [0, 1, 2] (by rfl) ?_
  refine L_val (.slice A0 L0 C0) (by rfl) (by rfl) (gives_value _ fun _ => by rfl) ?_
  refine L_val (.slice A1 L1 C1) (by rfl) (by rfl) (gives_value _ fun _ => by rfl) ?_
  refine L_val (.bool false) (by rfl) (by rfl) (gives_call (vl := [.slice A0 L0 C0, .slice A1 L1 C1, .slice none 0 0, .slice none 0 0]) (by kernel_rfl) (by rfl) (fun w h => long_no _ _ _ _ _ _ none 0 0 none 0 0 w (by omega) (by omega) (by omega) (by omega))) ?_
  refine L_end ?_
  intro w3 hw3
  refine wp_cond_false (fr_at _ _ (by rfl) _) ?_
  refine wp_skip ?_
  change Code.wp _ _ _ _ _
  refine seq_plain hw3 [0, 1, 2, 3, 4, 5, 6, 7, 8, 9] (by rfl) ?_
  refine L_val (.slice A0 L0 C0) (by rfl) (by rfl) (gives_value _ fun _ => by rfl) ?_
  refine L_val (.slice A1 L1 C1) (by rfl) (by rfl) (gives_value _ fun _ => by rfl) ?_
  refine L_freshY (vl := [.slice A0 L0 C0, .slice A1 L1 C1]) 61 61 (fun g cap g2 cap2 => .tuple #[.agg #[.slice (some ⟨g, 0, none⟩) 24 cap, .slice (some ⟨g2, 0, none⟩) 24 cap2], .agg (c2 (k0))]) (fun cap cs cap2 cs2 => WB cs cap 24 ((k0).a.val : Int) ∧ WB cs2 cap2 24 ((k0).b.val : Int)) (by rfl) (by rfl) Want.none (by kernel_rfl) (by rfl)  (fun w h => by rw [hk0]; exact l5_number A0 L0 C0 bs0 A1 L1 C1 bs1 w (hG.keep h.below) ((hr0.below h.below).more h.below.size) ho0 ((hr1.below h.below).more h.below.size) ho1 (by omega) (by omega)) ?_; intro g1 cap_1 cs_1 g2 cap_1b cs_1b hq_1; obtain ⟨hwb_1, hwb_1b⟩ := hq_1
  refine L_val (.tuple #[.agg #[.slice (some ⟨g1, 0, none⟩) 24 cap_1, .slice (some ⟨g2, 0, none⟩) 24 cap_1b], .agg (c2 (k0))]) (by rfl) (by rfl) (gives_value _ fun _ => by rfl) ?_
  refine L_val (.agg #[.slice (some ⟨g1, 0, none⟩) 24 cap_1, .slice (some ⟨g2, 0, none⟩) 24 cap_1b]) (by rfl) (by rfl) (gives_value _ fun _ => by kernel_rfl) ?_
  refine L_val (.agg (c2 (k0))) (by rfl) (by rfl) (gives_value _ fun _ => by kernel_rfl) ?_
  refine L_alloc _ (by rfl) (by rfl) z_N #[.slice none 0 0, .slice none 0 0] rfl ?_; intro g3
  refine L_alloc _ (by rfl) (by rfl) z_2 (c2 (0 : F2)) rfl ?_; intro g4
  refine L_store (t := 46) 1 g3 #[.slice none 0 0, .slice none 0 0] #[.slice (some ⟨g1, 0, none⟩) 24 cap_1, .slice (some ⟨g2, 0, none⟩) 24 cap_1b] (by rfl) (by rfl) (by rfl) (by rfl) (by rfl) (hi_NN _ _) (by rfl) (one_N (by rfl) (by rfl)) ?_
  simp only [List.set_cons_zero, List.set_cons_succ]
  refine L_store (t := 30) 0 g4 (c2 (0 : F2)) (c2 (k0)) (by rfl) (by rfl) (by rfl) (by rfl) (by rfl) (hi_2 _) ((c2_size _).trans (c2_size _).symm) (c2_one _) ?_
  simp only [List.set_cons_zero, List.set_cons_succ]
  refine L_end ?_
  intro w4 hw4
  refine seq_plain hw4 [0, 1, 2, 3, 4, 5, 6, 7] (by rfl) ?_
  refine L_val (.agg #[.slice (some ⟨g1, 0, none⟩) 24 cap_1, .slice (some ⟨g2, 0, none⟩) 24 cap_1b]) (by rfl) (by rfl) (gives_load g3 0 46 #[.slice (some ⟨g1, 0, none⟩) 24 cap_1, .slice (some ⟨g2, 0, none⟩) 24 cap_1b] #[.slice (some ⟨g1, 0, none⟩) 24 cap_1, .slice (some ⟨g2, 0, none⟩) 24 cap_1b] _ (by rfl) (fun _ h => h.blk 1 (by rfl)) (Sl.refl _) Tryd.underlying46 (by rfl) (hi_NN _ _)) ?_
  refine L_freshW (vl := [.agg #[.slice (some ⟨g1, 0, none⟩) 24 cap_1, .slice (some ⟨g2, 0, none⟩) 24 cap_1b]]) (24) (((F2.norm (k0)).val : Int)) (by rfl) (by rfl) (by kernel_rfl) (by rfl) (fun w h => l5_norm (k0) _ _ _ _ _ _ w (hwb_1.num (h.blk 2 (by rfl)) (fv_rng _) (by omega)) (hwb_1b.num (h.blk 3 (by rfl)) (fv_rng _) (by omega)) (by omega) (by omega)) ?_; intro g5 cap_2 cs_2 hwb_2
  refine L_freshU (vl := [.slice (some ⟨g5, 0, none⟩) (24) cap_2]) (fun g cap => .tuple #[.slice (some ⟨g, 0, none⟩) 24 cap, .bool true]) (24) ((((F2.norm (k0)).val : Int)) ^ Qp % Mp) (by rfl) (by rfl) (by kernel_rfl) (by rfl) (fun w h => n_sqrt4_t w _ _ _ (hwb_2.num (h.blk 0 (by rfl)) (fv_rng _) (by omega)) ((sq5 _).2 hsq)) ?_; intro g6 cap_3 cs_3 hwb_3
  refine L_val (.tuple #[.slice (some ⟨g6, 0, none⟩) 24 cap_3, .bool true]) (by rfl) (by rfl) (gives_value _ fun _ => by rfl) ?_
  refine L_val (.slice (some ⟨g6, 0, none⟩) 24 cap_3) (by rfl) (by rfl) (gives_value _ fun _ => by kernel_rfl) ?_
  refine L_val (.bool true) (by rfl) (by rfl) (gives_value _ fun _ => by kernel_rfl) ?_
  refine L_val (.slice (some ⟨g6, 0, none⟩) 24 cap_3) (by rfl) (by rfl) (gives_value _ fun _ => by rfl) ?_
  refine L_val (.bool true) (by rfl) (by rfl) (gives_value _ fun _ => by rfl) ?_
  refine L_end ?_
  intro w5 hw5
  refine seq_plain hw5 [0, 1, 2, 3, 4, 5, 6, 7] (by rfl) ?_
  refine L_val (.agg (c2 (k0))) (by rfl) (by rfl) (gives_load g4 0 30 (c2 (k0)) (c2 (k0)) _ (by rfl) (fun _ h => h.blk 2 (by rfl)) (Sl.refl _) Tryd.underlying30 (by rfl) (hi_2 _)) ?_
  refine L_val (.tuple #[.agg (c2 (F2.rt (k0))), .bool true]) (by rfl) (by rfl) (gives_call (vl := [.agg (c2 (k0))]) (by kernel_rfl) (by rfl) (fun w h => q_sqrt_yes _ w (hG.keep h.below) (hQ.keep h.below) hsq)) ?_
  refine L_val (.tuple #[.agg (c2 (F2.rt (k0))), .bool true]) (by rfl) (by rfl) (gives_value _ fun _ => by rfl) ?_
  refine L_val (.agg (c2 (F2.rt (k0)))) (by rfl) (by rfl) (gives_value _ fun _ => by kernel_rfl) ?_
  refine L_val (.bool true) (by rfl) (by rfl) (gives_value _ fun _ => by kernel_rfl) ?_
  refine L_alloc _ (by rfl) (by rfl) z_2 (c2 (0 : F2)) rfl ?_; intro g7
  refine L_store (t := 30) 0 g7 (c2 (0 : F2)) (c2 (F2.rt (k0))) (by rfl) (by rfl) (by rfl) (by rfl) (by rfl) (hi_2 _) ((c2_size _).trans (c2_size _).symm) (c2_one _) ?_
  simp only [List.set_cons_zero, List.set_cons_succ]
  refine L_val (.bool true) (by rfl) (by rfl) (gives_value _ fun _ => by rfl) ?_
  refine L_end ?_
  intro w6 hw6
  refine wp_seq ?_
  refine seq_flow (by kernel_rfl) hw6 [] [(g7, 30, (c2 (F2.rt (k0)))), (g6, 61, cs_3), (g5, 61, cs_2), (g4, 30, (c2 (k0))), (g3, 46, #[.slice (some ⟨g1, 0, none⟩) 24 cap_1, .slice (some ⟨g2, 0, none⟩) 24 cap_1b]), (g1, 61, cs_1), (g2, 61, cs_1b)] 21 (by rfl) ?_
  refine flow_take (i := 0) (.bool true) (by rfl) (by kernel_rfl) (by kernel_rfl) (by kernel_rfl) (by rfl) (by kernel_rfl) (List.Sublist.refl _) (gives_value _ fun _ => by rfl) ?_
  refine flow_take (i := 1) (.bool true) (by rfl) (by kernel_rfl) (by kernel_rfl) (by kernel_rfl) (by rfl) (by kernel_rfl) (List.Sublist.refl _) (gives_value _ fun _ => by rfl) ?_
  refine flow_take (i := 2) (.bool false) (by rfl) (by kernel_rfl) (by kernel_rfl) (by kernel_rfl) (by rfl) (by kernel_rfl) (List.Sublist.refl _) (gives_value _ fun _ => by rfl) ?_
  refine flow_take (i := 3) (.bool false) (by rfl) (by kernel_rfl) (by kernel_rfl) (by kernel_rfl) (by rfl) (by kernel_rfl) (List.Sublist.refl _) (gives_value _ fun _ => by rfl) ?_
  refine flow_take_g (i := 4) (dj := 38) (.bool true) (by rfl) (by kernel_rfl) (by kernel_rfl) (by kernel_rfl) (by rfl) (by kernel_rfl) (List.Sublist.refl _) (by rfl) (by rfl) (by rfl) (gives_value _ fun _ => by rfl) ?_
  refine flow_take_g (i := 5) (dj := 38) (.bool true) (by rfl) (by kernel_rfl) (by kernel_rfl) (by kernel_rfl) (by rfl) (by kernel_rfl) (List.Sublist.refl _) (by rfl) (by rfl) (by rfl) (gives_value _ fun _ => by rfl) ?_
  refine flow_take_g (i := 6) (dj := 40) (.agg (c2 (F2.rt (k0)))) (by rfl) (by kernel_rfl) (by kernel_rfl) (by kernel_rfl) (by rfl) (by kernel_rfl) (List.Sublist.refl _) (by rfl) (by rfl) (by rfl) (gives_load g7 0 30 (c2 (F2.rt (k0))) (c2 (F2.rt (k0))) _ (by rfl) (fun _ h => h.blk 0 (by rfl)) (Sl.refl _) Tryd.underlying30 (by rfl) (hi_2 _)) ?_
  refine flow_take_g (i := 8) (dj := 40) (.agg (c2 (k0))) (by rfl) (by kernel_rfl) (by kernel_rfl) (by kernel_rfl) (by rfl) (by kernel_rfl) (List.Sublist.refl _) (by rfl) (by rfl) (by rfl) (gives_load g4 0 30 (c2 (k0)) (c2 (k0)) _ (by rfl) (fun _ h => h.blk 3 (by rfl)) (Sl.refl _) Tryd.underlying30 (by rfl) (hi_2 _)) ?_
  refine flow_one 7 (by kernel_rfl) ?_
  refine F_val (vl := [.agg (c2 (F2.rt (k0)))]) (.agg (c2 ((F2.rt (k0)) * (F2.rt (k0))))) (by rfl) (by rfl) (Want.some (dj := 40) (by rfl) (by rfl) (by rfl) (by rfl)) (by kernel_rfl) (by rfl) (List.Sublist.refl _) (fun w h => q_square _ w (hG.keep h.below)) ?_
  refine flow_take_g (i := 9) (dj := 40) (.bool false) (by rfl) (by kernel_rfl) (by kernel_rfl) (by kernel_rfl) (by rfl) (by kernel_rfl) (List.Sublist.refl _) (by rfl) (by rfl) (by rfl) (gives_neq (c2 ((F2.rt (k0)) * (F2.rt (k0)))) (c2 (k0)) true (by rfl) (by rfl) (by kernel_rfl) (fun w => eq_2_t (d := 9996) w (F2.rt_ok hsq))) ?_
  refine flow_take_g (i := 10) (dj := 38) (.bool false) (by rfl) (by kernel_rfl) (by kernel_rfl) (by kernel_rfl) (by rfl) (by kernel_rfl) (List.Sublist.refl _) (by rfl) (by rfl) (by rfl) (gives_value _ fun _ => by rfl) ?_
  refine flow_take (i := 11) (.bool false) (by rfl) (by kernel_rfl) (by kernel_rfl) (by kernel_rfl) (by rfl) (by kernel_rfl) (List.Sublist.refl _) (gives_value _ fun _ => by rfl) ?_
  refine flow_take (i := 12) (.bool false) (by rfl) (by kernel_rfl) (by kernel_rfl) (by kernel_rfl) (by rfl) (by kernel_rfl) (List.Sublist.refl _) (gives_value _ fun _ => by rfl) ?_
  refine flow_take_g (i := 13) (dj := 47) (.bool true) (by rfl) (by kernel_rfl) (by kernel_rfl) (by kernel_rfl) (by rfl) (by kernel_rfl) (List.Sublist.refl _) (by rfl) (by rfl) (by rfl) (gives_value _ fun _ => by rfl) ?_
  refine flow_take_g (i := 14) (dj := 47) (.bool false) (by rfl) (by kernel_rfl) (by kernel_rfl) (by kernel_rfl) (by rfl) (by kernel_rfl) (List.Sublist.refl _) (by rfl) (by rfl) (by rfl) (gives_value _ fun _ => by rfl) ?_
  refine flow_take_g (i := 15) (dj := 47) (.bool false) (by rfl) (by kernel_rfl) (by kernel_rfl) (by kernel_rfl) (by rfl) (by kernel_rfl) (List.Sublist.refl _) (by rfl) (by rfl) (by rfl) (gives_value _ fun _ => by rfl) ?_
  refine flow_skip (i := 16) (dj := 50) (by rfl) (by kernel_rfl) (by kernel_rfl) (by kernel_rfl) (by rfl) (by kernel_rfl) (List.Sublist.refl _) (by rfl) (by rfl) (by rfl) ?_
  refine flow_skip (i := 17) (dj := 50) (by rfl) (by kernel_rfl) (by kernel_rfl) (by kernel_rfl) (by rfl) (by kernel_rfl) (List.Sublist.refl _) (by rfl) (by rfl) (by rfl) ?_
  refine flow_skip (i := 18) (dj := 50) (by rfl) (by kernel_rfl) (by kernel_rfl) (by kernel_rfl) (by rfl) (by kernel_rfl) (List.Sublist.refl _) (by rfl) (by rfl) (by rfl) ?_
  refine flow_take_g (i := 19) (dj := 47) (.bool false) (by rfl) (by kernel_rfl) (by kernel_rfl) (by kernel_rfl) (by rfl) (by kernel_rfl) (List.Sublist.refl _) (by rfl) (by rfl) (by rfl) (gives_value _ fun _ => by rfl) ?_
  refine flow_take (i := 20) (.bool false) (by rfl) (by kernel_rfl) (by kernel_rfl) (by kernel_rfl) (by rfl) (by kernel_rfl) (List.Sublist.refl _) (gives_value _ fun _ => by rfl) ?_
  refine flow_done (by kernel_rfl) ?_
  intro w7 hw7
  refine wp_cond_false (fr_at _ _ (by rfl) _) ?_
  refine wp_skip ?_
  change Code.wp _ _ _ _ _
  refine seq_plain hw7 [0, 1, 2, 3, 4, 5, 6] (by rfl) ?_
  refine L_val (.pointer (some ⟨g3, 0, none⟩)) (by rfl) (by rfl) (gives_value _ fun _ => by kernel_rfl) ?_
  refine L_val (.slice (some ⟨g1, 0, none⟩) 24 cap_1) (by rfl) (by rfl) (gives_loadS g3 0 #[.slice (some ⟨g1, 0, none⟩) 24 cap_1, .slice (some ⟨g2, 0, none⟩) 24 cap_1b] (.slice (some ⟨g1, 0, none⟩) 24 cap_1) (by rfl) (fun _ h => h.blk 4 (by rfl)) (by rfl) und_u32s) ?_
  refine L_val (.pointer (some ⟨g1, 0 + (0), none⟩)) (by rfl) (by rfl) (gives_index g1 0 (24) (cap_1) (0) (0) (by rfl) (by rfl) und_u32s u32_sz (by omega) (by omega)) ?_
  refine L_val (.int .u32 (((k0).a.val : Int) % 65536)) (by rfl) (by rfl) (gives_load1 g1 (0 + (0)) _ cs_1 (.int .u32 (((k0).a.val : Int) % 65536)) (by rfl) (fun _ h => h.blk 5 (by rfl)) (word0 hwb_1) und_u32) ?_
  refine L_val (.int .u32 ((((k0).a.val : Int) % 65536) % 2)) (by rfl) (by rfl) (gives_and (k := .u32) (((k0).a.val : Int) % 65536) 1 ((((k0).a.val : Int) % 65536) % 2) (by rfl) (by rfl) (and_one32 _ (by omega) (by omega))) ?_
  refine L_val (.bool (decide ((((k0).a.val : Int) % 65536) % 2 = 1))) (by rfl) (by rfl) (gives_ieq (k := .u32) ((((k0).a.val : Int) % 65536) % 2) (1) (decide ((((k0).a.val : Int) % 65536) % 2 = 1)) (by rfl) (by rfl) rfl) ?_
  refine L_val (.bool (decide ((((k0).a.val : Int) % 65536) % 2 = 1))) (by rfl) (by rfl) (gives_value _ fun _ => by rfl) ?_
  refine L_end ?_
  intro w8 hw8
  refine wp_seq ?_
  refine seq_plain hw8 [0, 1, 2] (by rfl) ?_
  refine L_val (.pointer (some ⟨g3, 0, none⟩)) (by rfl) (by rfl) (gives_value _ fun _ => by kernel_rfl) ?_
  refine L_val (.slice (some ⟨g1, 0, none⟩) 24 cap_1) (by rfl) (by rfl) (gives_loadS g3 0 #[.slice (some ⟨g1, 0, none⟩) 24 cap_1, .slice (some ⟨g2, 0, none⟩) 24 cap_1b] (.slice (some ⟨g1, 0, none⟩) 24 cap_1) (by rfl) (fun _ h => h.blk 4 (by rfl)) (by rfl) und_u32s) ?_
  refine L_val (.bool false) (by rfl) (by rfl) (gives_call (vl := [.slice (some ⟨g1, 0, none⟩) 24 cap_1, .slice none 0 0]) (by kernel_rfl) (by rfl) (fun w h => n_same0 w _ _ _ _ (hwb_1.num (h.blk 5 (by rfl)) (fv_rng _) (by omega)) false (decide_eq_false hza))) ?_
  refine L_end ?_
  intro w9 hw9
  refine wp_cond_false (fr_at _ _ (by rfl) _) ?_
  refine wp_skip ?_
  change Code.wp _ _ _ _ _
  refine seq_plain hw9 [0, 1, 2, 3] (by rfl) ?_
  refine L_val (.pointer (some ⟨g3, 1, none⟩)) (by rfl) (by rfl) (gives_value _ fun _ => by kernel_rfl) ?_
  refine L_val (.slice (some ⟨g2, 0, none⟩) 24 cap_1b) (by rfl) (by rfl) (gives_loadS g3 1 #[.slice (some ⟨g1, 0, none⟩) 24 cap_1, .slice (some ⟨g2, 0, none⟩) 24 cap_1b] (.slice (some ⟨g2, 0, none⟩) 24 cap_1b) (by rfl) (fun _ h => h.blk 4 (by rfl)) (by rfl) und_u32s) ?_
  refine L_val (.bool (decide (Mp < ((k0).b.val : Int) + ((k0).b.val : Int)))) (by rfl) (by rfl) (gives_call (vl := [.slice (some ⟨g2, 0, none⟩) 24 cap_1b]) (by kernel_rfl) (by rfl) (fun w h => n_large4 w _ _ _ (hwb_1b.num (h.blk 6 (by rfl)) (fv_rng _) (by omega)) (by omega))) ?_
  refine L_val (.bool (decide (Mp < ((k0).b.val : Int) + ((k0).b.val : Int)))) (by rfl) (by rfl) (gives_value _ fun _ => by rfl) ?_
  refine L_end ?_
  intro w10 hw10
  refine wp_seq ?_
  refine seq_plain hw10 [0, 1, 2] (by rfl) ?_
  refine L_val (.pointer (some ⟨g3, 1, none⟩)) (by rfl) (by rfl) (gives_value _ fun _ => by kernel_rfl) ?_
  refine L_val (.slice (some ⟨g2, 0, none⟩) 24 cap_1b) (by rfl) (by rfl) (gives_loadS g3 1 #[.slice (some ⟨g1, 0, none⟩) 24 cap_1, .slice (some ⟨g2, 0, none⟩) 24 cap_1b] (.slice (some ⟨g2, 0, none⟩) 24 cap_1b) (by rfl) (fun _ h => h.blk 4 (by rfl)) (by rfl) und_u32s) ?_
  refine L_val (.bool false) (by rfl) (by rfl) (gives_call (vl := [.slice (some ⟨g2, 0, none⟩) 24 cap_1b, .slice none 0 0]) (by kernel_rfl) (by rfl) (fun w h => n_same0 w _ _ _ _ (hwb_1b.num (h.blk 6 (by rfl)) (fv_rng _) (by omega)) false (decide_eq_false hzb))) ?_
  refine L_end ?_
  intro w11 hw11
  refine wp_cond_false (fr_at _ _ (by rfl) _) ?_
  refine wp_skip ?_
  change Code.wp _ _ _ _ _
  refine seq_plain hw11 [0, 1, 2, 3, 4, 5, 6, 7, 8, 9, 10] (by rfl) ?_
  refine L_val (.agg (c2 (k0))) (by rfl) (by rfl) (gives_load g4 0 30 (c2 (k0)) (c2 (k0)) _ (by rfl) (fun _ h => h.blk 3 (by rfl)) (Sl.refl _) Tryd.underlying30 (by rfl) (hi_2 _)) ?_
  refine L_val (.bool (F2.odd (k0))) (by rfl) (by rfl) (gives_call (vl := [.agg (c2 (k0))]) (by kernel_rfl) (by rfl) (fun w h => q_odd _ w (hG.keep h.below))) ?_
  refine L_val (.bool (decide ((((k0).a.val : Int) % 65536) % 2 = 1))) (by rfl) (by rfl) (gives_value _ fun _ => by rfl) ?_
  refine L_val (.bool true) (by rfl) (by rfl) (gives_eqbb _ _ (by rfl) (by rfl) (by rfl) (odd5_n _ hza)) ?_
  refine L_val (.bool true) (by rfl) (by rfl) (gives_value _ fun _ => by rfl) ?_
  refine L_val_g (dj := 84) (.agg (c2 (k0))) (by rfl) (by rfl) (by rfl) (by rfl) (by rfl) (gives_load g4 0 30 (c2 (k0)) (c2 (k0)) _ (by rfl) (fun _ h => h.blk 3 (by rfl)) (Sl.refl _) Tryd.underlying30 (by rfl) (hi_2 _)) ?_
  refine L_val_g (dj := 84) (.bool (F2.large (k0))) (by rfl) (by rfl) (by rfl) (by rfl) (by rfl) (gives_call (vl := [.agg (c2 (k0))]) (by kernel_rfl) (by rfl) (fun w h => q_large _ w (hG.keep h.below) (hU.keep h.below))) ?_
  refine L_val_g (dj := 84) (.bool (decide (Mp < ((k0).b.val : Int) + ((k0).b.val : Int)))) (by rfl) (by rfl) (by rfl) (by rfl) (by rfl) (gives_value _ fun _ => by rfl) ?_
  refine L_val_g (dj := 84) (.bool true) (by rfl) (by rfl) (by rfl) (by rfl) (by rfl) (gives_eqbb _ _ (by rfl) (by rfl) (by rfl) (large5_n _ hzb)) ?_
  refine L_val (.bool true) (by rfl) (by rfl) (gives_value _ fun _ => by rfl) ?_
  refine L_val (.bool true) (by rfl) (by rfl) (gives_value _ fun _ => by rfl) ?_
  refine L_end ?_
  intro w12 hw12
  refine wp_ret ?_
  change bodyPost _ _ _ Exit.ret _ _
  refine (ret_tmp (by rfl) (by rfl) (by rfl) ⟨rfl, hw12.below⟩)
set_option maxRecDepth 100000 in
set_option maxHeartbeats 4000000 in
theorem roots5_011 (A0 : Option Addr) (L0 C0 : Nat) (bs0 : List Int) (A1 : Option Addr) (L1 C1 : Nat) (bs1 : List Int) (v : World) (hG : Glo v) (hQ : GQp v) (hU : GUp v) (hr0 : Reads v v.heap.size A0 L0 (bs0.map (Value.int .u8))) (ho0 : Oct bs0) (hr1 : Reads v v.heap.size A1 L1 (bs1.map (Value.int .u8))) (ho1 : Oct bs1) (hs0 : L0 ≤ 64) (hs1 : L1 ≤ 64) (k0 : F2) (hk0 : k0 = (⟨Fp.n (num bs0), Fp.n (num bs1)⟩ : F2)) (hsq : ¬ F2.sq k0) (hza : k0.a = 0) (hzb : k0.b = 0) : Rets 5 #[.slice A0 L0 C0, .slice A1 L1 C1] v (.bool true) := by
  have hn0 : bs0.length = L0 := by simpa using hr0.1
  have hn1 : bs1.length = L1 := by simpa using hr1.1
  refine calls_fr2 Tryd.func5 rfl (by rfl : _ = 90) (by rfl) ?_
  have hw := Hbl.nil v
  refine seq_plain hw [0] (by rfl) ?_
  refine L_val (.bool false) (by rfl) (by rfl) (gives_value _ fun _ => by rfl) ?_
  refine L_end ?_
  intro w1 hw1
  refine wp_seq ?_
  refine seq_plain hw1 [0, 1] (by rfl) ?_
  refine L_val (.bool true) (by rfl) (by rfl) (gives_call (vl := []) (by kernel_rfl) (by rfl) (fun w h => q_head w (hG.keep h.below))) ?_
  refine L_val (.bool false) (by rfl) (by rfl) (gives_value _ fun _ => by rfl) ?_
  refine L_end ?_
  intro w2 hw2
  refine wp_cond_false (fr_at _ _ (by rfl) _) ?_
  refine wp_skip ?_
  change Code.wp _ _ _ _ _
  refine wp_seq ?_
  refine seq_plain hw2 [0, 1, 2] (by rfl) ?_
  refine L_val (.slice A0 L0 C0) (by rfl) (by rfl) (gives_value _ fun _ => by rfl) ?_
  refine L_val (.slice A1 L1 C1) (by rfl) (by rfl) (gives_value _ fun _ => by rfl) ?_
  refine L_val (.bool false) (by rfl) (by rfl) (gives_call (vl := [.slice A0 L0 C0, .slice A1 L1 C1, .slice none 0 0, .slice none 0 0]) (by kernel_rfl) (by rfl) (fun w h => long_no _ _ _ _ _ _ none 0 0 none 0 0 w (by omega) (by omega) (by omega) (by omega))) ?_
  refine L_end ?_
  intro w3 hw3
  refine wp_cond_false (fr_at _ _ (by rfl) _) ?_
  refine wp_skip ?_
  change Code.wp _ _ _ _ _
  refine seq_plain hw3 [0, 1, 2, 3, 4, 5, 6, 7, 8, 9] (by rfl) ?_
  refine L_val (.slice A0 L0 C0) (by rfl) (by rfl) (gives_value _ fun _ => by rfl) ?_
  refine L_val (.slice A1 L1 C1) (by rfl) (by rfl) (gives_value _ fun _ => by rfl) ?_
  refine L_freshY (vl := [.slice A0 L0 C0, .slice A1 L1 C1]) 61 61 (fun g cap g2 cap2 => .tuple #[.agg #[.slice (some ⟨g, 0, none⟩) 24 cap, .slice (some ⟨g2, 0, none⟩) 24 cap2], .agg (c2 (k0))]) (fun cap cs cap2 cs2 => WB cs cap 24 ((k0).a.val : Int) ∧ WB cs2 cap2 24 ((k0).b.val : Int)) (by rfl) (by rfl) Want.none (by kernel_rfl) (by rfl)  (fun w h => by rw [hk0]; exact l5_number A0 L0 C0 bs0 A1 L1 C1 bs1 w (hG.keep h.below) ((hr0.below h.below).more h.below.size) ho0 ((hr1.below h.below).more h.below.size) ho1 (by omega) (by omega)) ?_; intro g1 cap_1 cs_1 g2 cap_1b cs_1b hq_1; obtain ⟨hwb_1, hwb_1b⟩ := hq_1
  refine L_val (.tuple #[.agg #[.slice (some ⟨g1, 0, none⟩) 24 cap_1, .slice (some ⟨g2, 0, none⟩) 24 cap_1b], .agg (c2 (k0))]) (by rfl) (by rfl) (gives_value _ fun _ => by rfl) ?_
  refine L_val (.agg #[.slice (some ⟨g1, 0, none⟩) 24 cap_1, .slice (some ⟨g2, 0, none⟩) 24 cap_1b]) (by rfl) (by rfl) (gives_value _ fun _ => by kernel_rfl) ?_
  refine L_val (.agg (c2 (k0))) (by rfl) (by rfl) (gives_value _ fun _ => by kernel_rfl) ?_
  refine L_alloc _ (by rfl) (by rfl) z_N #[.slice none 0 0, .slice none 0 0] rfl ?_; intro g3
  refine L_alloc _ (by rfl) (by rfl) z_2 (c2 (0 : F2)) rfl ?_; intro g4
  refine L_store (t := 46) 1 g3 #[.slice none 0 0, .slice none 0 0] #[.slice (some ⟨g1, 0, none⟩) 24 cap_1, .slice (some ⟨g2, 0, none⟩) 24 cap_1b] (by rfl) (by rfl) (by rfl) (by rfl) (by rfl) (hi_NN _ _) (by rfl) (one_N (by rfl) (by rfl)) ?_
  simp only [List.set_cons_zero, List.set_cons_succ]
  refine L_store (t := 30) 0 g4 (c2 (0 : F2)) (c2 (k0)) (by rfl) (by rfl) (by rfl) (by rfl) (by rfl) (hi_2 _) ((c2_size _).trans (c2_size _).symm) (c2_one _) ?_
  simp only [List.set_cons_zero, List.set_cons_succ]
  refine L_end ?_
  intro w4 hw4
  refine seq_plain hw4 [0, 1, 2, 3, 4, 5, 6, 7] (by rfl) ?_
  refine L_val (.agg #[.slice (some ⟨g1, 0, none⟩) 24 cap_1, .slice (some ⟨g2, 0, none⟩) 24 cap_1b]) (by rfl) (by rfl) (gives_load g3 0 46 #[.slice (some ⟨g1, 0, none⟩) 24 cap_1, .slice (some ⟨g2, 0, none⟩) 24 cap_1b] #[.slice (some ⟨g1, 0, none⟩) 24 cap_1, .slice (some ⟨g2, 0, none⟩) 24 cap_1b] _ (by rfl) (fun _ h => h.blk 1 (by rfl)) (Sl.refl _) Tryd.underlying46 (by rfl) (hi_NN _ _)) ?_
  refine L_freshW (vl := [.agg #[.slice (some ⟨g1, 0, none⟩) 24 cap_1, .slice (some ⟨g2, 0, none⟩) 24 cap_1b]]) (24) (((F2.norm (k0)).val : Int)) (by rfl) (by rfl) (by kernel_rfl) (by rfl) (fun w h => l5_norm (k0) _ _ _ _ _ _ w (hwb_1.num (h.blk 2 (by rfl)) (fv_rng _) (by omega)) (hwb_1b.num (h.blk 3 (by rfl)) (fv_rng _) (by omega)) (by omega) (by omega)) ?_; intro g5 cap_2 cs_2 hwb_2
  refine L_freshU (vl := [.slice (some ⟨g5, 0, none⟩) (24) cap_2]) (fun g cap => .tuple #[.slice (some ⟨g, 0, none⟩) 24 cap, .bool false]) (24) ((((F2.norm (k0)).val : Int)) ^ Qp % Mp) (by rfl) (by rfl) (by kernel_rfl) (by rfl) (fun w h => n_sqrt4_f w _ _ _ (hwb_2.num (h.blk 0 (by rfl)) (fv_rng _) (by omega)) (fun e => hsq ((sq5 _).1 e))) ?_; intro g6 cap_3 cs_3 hwb_3
  refine L_val (.tuple #[.slice (some ⟨g6, 0, none⟩) 24 cap_3, .bool false]) (by rfl) (by rfl) (gives_value _ fun _ => by rfl) ?_
  refine L_val (.slice (some ⟨g6, 0, none⟩) 24 cap_3) (by rfl) (by rfl) (gives_value _ fun _ => by kernel_rfl) ?_
  refine L_val (.bool false) (by rfl) (by rfl) (gives_value _ fun _ => by kernel_rfl) ?_
  refine L_val (.slice (some ⟨g6, 0, none⟩) 24 cap_3) (by rfl) (by rfl) (gives_value _ fun _ => by rfl) ?_
  refine L_val (.bool false) (by rfl) (by rfl) (gives_value _ fun _ => by rfl) ?_
  refine L_end ?_
  intro w5 hw5
  refine seq_plain hw5 [0, 1, 2, 3, 4, 5, 6, 7] (by rfl) ?_
  refine L_val (.agg (c2 (k0))) (by rfl) (by rfl) (gives_load g4 0 30 (c2 (k0)) (c2 (k0)) _ (by rfl) (fun _ h => h.blk 2 (by rfl)) (Sl.refl _) Tryd.underlying30 (by rfl) (hi_2 _)) ?_
  refine L_val (.tuple #[.agg (c2 (0 : F2)), .bool false]) (by rfl) (by rfl) (gives_call (vl := [.agg (c2 (k0))]) (by kernel_rfl) (by rfl) (fun w h => q_sqrt_no _ w (hG.keep h.below) (hQ.keep h.below) hsq)) ?_
  refine L_val (.tuple #[.agg (c2 (0 : F2)), .bool false]) (by rfl) (by rfl) (gives_value _ fun _ => by rfl) ?_
  refine L_val (.agg (c2 (0 : F2))) (by rfl) (by rfl) (gives_value _ fun _ => by kernel_rfl) ?_
  refine L_val (.bool false) (by rfl) (by rfl) (gives_value _ fun _ => by kernel_rfl) ?_
  refine L_alloc _ (by rfl) (by rfl) z_2 (c2 (0 : F2)) rfl ?_; intro g7
  refine L_store (t := 30) 0 g7 (c2 (0 : F2)) (c2 (0 : F2)) (by rfl) (by rfl) (by rfl) (by rfl) (by rfl) (hi_2 _) ((c2_size _).trans (c2_size _).symm) (c2_one _) ?_
  simp only [List.set_cons_zero, List.set_cons_succ]
  refine L_val (.bool false) (by rfl) (by rfl) (gives_value _ fun _ => by rfl) ?_
  refine L_end ?_
  intro w6 hw6
  refine wp_seq ?_
  refine seq_flow (by kernel_rfl) hw6 [] [(g7, 30, (c2 (0 : F2))), (g6, 61, cs_3), (g5, 61, cs_2), (g4, 30, (c2 (k0))), (g3, 46, #[.slice (some ⟨g1, 0, none⟩) 24 cap_1, .slice (some ⟨g2, 0, none⟩) 24 cap_1b]), (g1, 61, cs_1), (g2, 61, cs_1b)] 21 (by rfl) ?_
  refine flow_take (i := 0) (.bool false) (by rfl) (by kernel_rfl) (by kernel_rfl) (by kernel_rfl) (by rfl) (by kernel_rfl) (List.Sublist.refl _) (gives_value _ fun _ => by rfl) ?_
  refine flow_take (i := 1) (.bool false) (by rfl) (by kernel_rfl) (by kernel_rfl) (by kernel_rfl) (by rfl) (by kernel_rfl) (List.Sublist.refl _) (gives_value _ fun _ => by rfl) ?_
  refine flow_take (i := 2) (.bool false) (by rfl) (by kernel_rfl) (by kernel_rfl) (by kernel_rfl) (by rfl) (by kernel_rfl) (List.Sublist.refl _) (gives_value _ fun _ => by rfl) ?_
  refine flow_take (i := 3) (.bool false) (by rfl) (by kernel_rfl) (by kernel_rfl) (by kernel_rfl) (by rfl) (by kernel_rfl) (List.Sublist.refl _) (gives_value _ fun _ => by rfl) ?_
  refine flow_take_g (i := 4) (dj := 38) (.bool false) (by rfl) (by kernel_rfl) (by kernel_rfl) (by kernel_rfl) (by rfl) (by kernel_rfl) (List.Sublist.refl _) (by rfl) (by rfl) (by rfl) (gives_value _ fun _ => by rfl) ?_
  refine flow_take_g (i := 5) (dj := 38) (.bool false) (by rfl) (by kernel_rfl) (by kernel_rfl) (by kernel_rfl) (by rfl) (by kernel_rfl) (List.Sublist.refl _) (by rfl) (by rfl) (by rfl) (gives_value _ fun _ => by rfl) ?_
  refine flow_skip (i := 6) (dj := 40) (by rfl) (by kernel_rfl) (by kernel_rfl) (by kernel_rfl) (by rfl) (by kernel_rfl) (List.Sublist.refl _) (by rfl) (by rfl) (by rfl) ?_
  refine flow_skip (i := 7) (dj := 40) (by rfl) (by kernel_rfl) (by kernel_rfl) (by kernel_rfl) (by rfl) (by kernel_rfl) (List.Sublist.refl _) (by rfl) (by rfl) (by rfl) ?_
  refine flow_skip (i := 8) (dj := 40) (by rfl) (by kernel_rfl) (by kernel_rfl) (by kernel_rfl) (by rfl) (by kernel_rfl) (List.Sublist.refl _) (by rfl) (by rfl) (by rfl) ?_
  refine flow_skip (i := 9) (dj := 40) (by rfl) (by kernel_rfl) (by kernel_rfl) (by kernel_rfl) (by rfl) (by kernel_rfl) (List.Sublist.refl _) (by rfl) (by rfl) (by rfl) ?_
  refine flow_take_g (i := 10) (dj := 38) (.bool false) (by rfl) (by kernel_rfl) (by kernel_rfl) (by kernel_rfl) (by rfl) (by kernel_rfl) (List.Sublist.refl _) (by rfl) (by rfl) (by rfl) (gives_value _ fun _ => by rfl) ?_
  refine flow_take (i := 11) (.bool false) (by rfl) (by kernel_rfl) (by kernel_rfl) (by kernel_rfl) (by rfl) (by kernel_rfl) (List.Sublist.refl _) (gives_value _ fun _ => by rfl) ?_
  refine flow_take (i := 12) (.bool false) (by rfl) (by kernel_rfl) (by kernel_rfl) (by kernel_rfl) (by rfl) (by kernel_rfl) (List.Sublist.refl _) (gives_value _ fun _ => by rfl) ?_
  refine flow_take_g (i := 13) (dj := 47) (.bool false) (by rfl) (by kernel_rfl) (by kernel_rfl) (by kernel_rfl) (by rfl) (by kernel_rfl) (List.Sublist.refl _) (by rfl) (by rfl) (by rfl) (gives_value _ fun _ => by rfl) ?_
  refine flow_take_g (i := 14) (dj := 47) (.bool true) (by rfl) (by kernel_rfl) (by kernel_rfl) (by kernel_rfl) (by rfl) (by kernel_rfl) (List.Sublist.refl _) (by rfl) (by rfl) (by rfl) (gives_value _ fun _ => by rfl) ?_
  refine flow_take_g (i := 15) (dj := 47) (.bool true) (by rfl) (by kernel_rfl) (by kernel_rfl) (by kernel_rfl) (by rfl) (by kernel_rfl) (List.Sublist.refl _) (by rfl) (by rfl) (by rfl) (gives_value _ fun _ => by rfl) ?_
  refine flow_take_g (i := 16) (dj := 50) (.agg (c2 (0 : F2))) (by rfl) (by kernel_rfl) (by kernel_rfl) (by kernel_rfl) (by rfl) (by kernel_rfl) (List.Sublist.refl _) (by rfl) (by rfl) (by rfl) (gives_load g7 0 30 (c2 (0 : F2)) (c2 (0 : F2)) _ (by rfl) (fun _ h => h.blk 0 (by rfl)) (Sl.refl _) Tryd.underlying30 (by rfl) (hi_2 _)) ?_
  refine flow_one 17 (by kernel_rfl) ?_
  refine F_val (vl := [.agg (c2 (0 : F2))]) (.bool true) (by rfl) (by rfl) (Want.some (dj := 50) (by rfl) (by rfl) (by rfl) (by rfl)) (by kernel_rfl) (by rfl) (List.Sublist.refl _) (fun w h => q_zero_t w (hG.keep h.below) rfl) ?_
  refine flow_take_g (i := 18) (dj := 50) (.bool false) (by rfl) (by kernel_rfl) (by kernel_rfl) (by kernel_rfl) (by rfl) (by kernel_rfl) (List.Sublist.refl _) (by rfl) (by rfl) (by rfl) (gives_value _ fun _ => by rfl) ?_
  refine flow_take_g (i := 19) (dj := 47) (.bool false) (by rfl) (by kernel_rfl) (by kernel_rfl) (by kernel_rfl) (by rfl) (by kernel_rfl) (List.Sublist.refl _) (by rfl) (by rfl) (by rfl) (gives_value _ fun _ => by rfl) ?_
  refine flow_take (i := 20) (.bool false) (by rfl) (by kernel_rfl) (by kernel_rfl) (by kernel_rfl) (by rfl) (by kernel_rfl) (List.Sublist.refl _) (gives_value _ fun _ => by rfl) ?_
  refine flow_done (by kernel_rfl) ?_
  intro w7 hw7
  refine wp_cond_false (fr_at _ _ (by rfl) _) ?_
  refine wp_skip ?_
  change Code.wp _ _ _ _ _
  refine seq_plain hw7 [0, 1, 2, 3, 4, 5, 6] (by rfl) ?_
  refine L_val (.pointer (some ⟨g3, 0, none⟩)) (by rfl) (by rfl) (gives_value _ fun _ => by kernel_rfl) ?_
  refine L_val (.slice (some ⟨g1, 0, none⟩) 24 cap_1) (by rfl) (by rfl) (gives_loadS g3 0 #[.slice (some ⟨g1, 0, none⟩) 24 cap_1, .slice (some ⟨g2, 0, none⟩) 24 cap_1b] (.slice (some ⟨g1, 0, none⟩) 24 cap_1) (by rfl) (fun _ h => h.blk 4 (by rfl)) (by rfl) und_u32s) ?_
  refine L_val (.pointer (some ⟨g1, 0 + (0), none⟩)) (by rfl) (by rfl) (gives_index g1 0 (24) (cap_1) (0) (0) (by rfl) (by rfl) und_u32s u32_sz (by omega) (by omega)) ?_
  refine L_val (.int .u32 (((k0).a.val : Int) % 65536)) (by rfl) (by rfl) (gives_load1 g1 (0 + (0)) _ cs_1 (.int .u32 (((k0).a.val : Int) % 65536)) (by rfl) (fun _ h => h.blk 5 (by rfl)) (word0 hwb_1) und_u32) ?_
  refine L_val (.int .u32 ((((k0).a.val : Int) % 65536) % 2)) (by rfl) (by rfl) (gives_and (k := .u32) (((k0).a.val : Int) % 65536) 1 ((((k0).a.val : Int) % 65536) % 2) (by rfl) (by rfl) (and_one32 _ (by omega) (by omega))) ?_
  refine L_val (.bool (decide ((((k0).a.val : Int) % 65536) % 2 = 1))) (by rfl) (by rfl) (gives_ieq (k := .u32) ((((k0).a.val : Int) % 65536) % 2) (1) (decide ((((k0).a.val : Int) % 65536) % 2 = 1)) (by rfl) (by rfl) rfl) ?_
  refine L_val (.bool (decide ((((k0).a.val : Int) % 65536) % 2 = 1))) (by rfl) (by rfl) (gives_value _ fun _ => by rfl) ?_
  refine L_end ?_
  intro w8 hw8
  refine wp_seq ?_
  refine seq_plain hw8 [0, 1, 2] (by rfl) ?_
  refine L_val (.pointer (some ⟨g3, 0, none⟩)) (by rfl) (by rfl) (gives_value _ fun _ => by kernel_rfl) ?_
  refine L_val (.slice (some ⟨g1, 0, none⟩) 24 cap_1) (by rfl) (by rfl) (gives_loadS g3 0 #[.slice (some ⟨g1, 0, none⟩) 24 cap_1, .slice (some ⟨g2, 0, none⟩) 24 cap_1b] (.slice (some ⟨g1, 0, none⟩) 24 cap_1) (by rfl) (fun _ h => h.blk 4 (by rfl)) (by rfl) und_u32s) ?_
  refine L_val (.bool true) (by rfl) (by rfl) (gives_call (vl := [.slice (some ⟨g1, 0, none⟩) 24 cap_1, .slice none 0 0]) (by kernel_rfl) (by rfl) (fun w h => n_same0 w _ _ _ _ (hwb_1.num (h.blk 5 (by rfl)) (fv_rng _) (by omega)) true (decide_eq_true hza))) ?_
  refine L_end ?_
  intro w9 hw9
  refine wp_cond_true (fr_at _ _ (by rfl) _) ?_
  refine one_plain hw9 [0, 1, 2, 3, 4, 5, 6] (by rfl) ?_
  refine L_val (.pointer (some ⟨g3, 1, none⟩)) (by rfl) (by rfl) (gives_value _ fun _ => by kernel_rfl) ?_
  refine L_val (.slice (some ⟨g2, 0, none⟩) 24 cap_1b) (by rfl) (by rfl) (gives_loadS g3 1 #[.slice (some ⟨g1, 0, none⟩) 24 cap_1, .slice (some ⟨g2, 0, none⟩) 24 cap_1b] (.slice (some ⟨g2, 0, none⟩) 24 cap_1b) (by rfl) (fun _ h => h.blk 4 (by rfl)) (by rfl) und_u32s) ?_
  refine L_val (.pointer (some ⟨g2, 0 + (0), none⟩)) (by rfl) (by rfl) (gives_index g2 0 (24) (cap_1b) (0) (0) (by rfl) (by rfl) und_u32s u32_sz (by omega) (by omega)) ?_
  refine L_val (.int .u32 (((k0).b.val : Int) % 65536)) (by rfl) (by rfl) (gives_load1 g2 (0 + (0)) _ cs_1b (.int .u32 (((k0).b.val : Int) % 65536)) (by rfl) (fun _ h => h.blk 6 (by rfl)) (word0 hwb_1b) und_u32) ?_
  refine L_val (.int .u32 ((((k0).b.val : Int) % 65536) % 2)) (by rfl) (by rfl) (gives_and (k := .u32) (((k0).b.val : Int) % 65536) 1 ((((k0).b.val : Int) % 65536) % 2) (by rfl) (by rfl) (and_one32 _ (by omega) (by omega))) ?_
  refine L_val (.bool (decide ((((k0).b.val : Int) % 65536) % 2 = 1))) (by rfl) (by rfl) (gives_ieq (k := .u32) ((((k0).b.val : Int) % 65536) % 2) (1) (decide ((((k0).b.val : Int) % 65536) % 2 = 1)) (by rfl) (by rfl) rfl) ?_
  refine L_val (.bool (decide ((((k0).b.val : Int) % 65536) % 2 = 1))) (by rfl) (by rfl) (gives_value _ fun _ => by rfl) ?_
  refine L_end ?_
  intro w10 hw10
  change Code.wp _ _ _ _ _
  refine seq_plain hw10 [0, 1, 2, 3] (by rfl) ?_
  refine L_val (.pointer (some ⟨g3, 1, none⟩)) (by rfl) (by rfl) (gives_value _ fun _ => by kernel_rfl) ?_
  refine L_val (.slice (some ⟨g2, 0, none⟩) 24 cap_1b) (by rfl) (by rfl) (gives_loadS g3 1 #[.slice (some ⟨g1, 0, none⟩) 24 cap_1, .slice (some ⟨g2, 0, none⟩) 24 cap_1b] (.slice (some ⟨g2, 0, none⟩) 24 cap_1b) (by rfl) (fun _ h => h.blk 4 (by rfl)) (by rfl) und_u32s) ?_
  refine L_val (.bool (decide (Mp < ((k0).b.val : Int) + ((k0).b.val : Int)))) (by rfl) (by rfl) (gives_call (vl := [.slice (some ⟨g2, 0, none⟩) 24 cap_1b]) (by kernel_rfl) (by rfl) (fun w h => n_large4 w _ _ _ (hwb_1b.num (h.blk 6 (by rfl)) (fv_rng _) (by omega)) (by omega))) ?_
  refine L_val (.bool (decide (Mp < ((k0).b.val : Int) + ((k0).b.val : Int)))) (by rfl) (by rfl) (gives_value _ fun _ => by rfl) ?_
  refine L_end ?_
  intro w11 hw11
  refine wp_seq ?_
  refine seq_plain hw11 [0, 1, 2] (by rfl) ?_
  refine L_val (.pointer (some ⟨g3, 1, none⟩)) (by rfl) (by rfl) (gives_value _ fun _ => by kernel_rfl) ?_
  refine L_val (.slice (some ⟨g2, 0, none⟩) 24 cap_1b) (by rfl) (by rfl) (gives_loadS g3 1 #[.slice (some ⟨g1, 0, none⟩) 24 cap_1, .slice (some ⟨g2, 0, none⟩) 24 cap_1b] (.slice (some ⟨g2, 0, none⟩) 24 cap_1b) (by rfl) (fun _ h => h.blk 4 (by rfl)) (by rfl) und_u32s) ?_
  refine L_val (.bool true) (by rfl) (by rfl) (gives_call (vl := [.slice (some ⟨g2, 0, none⟩) 24 cap_1b, .slice none 0 0]) (by kernel_rfl) (by rfl) (fun w h => n_same0 w _ _ _ _ (hwb_1b.num (h.blk 6 (by rfl)) (fv_rng _) (by omega)) true (decide_eq_true hzb))) ?_
  refine L_end ?_
  intro w12 hw12
  refine wp_cond_true (fr_at _ _ (by rfl) _) ?_
  refine one_plain hw12 [0, 1, 2, 3] (by rfl) ?_
  refine L_val (.pointer (some ⟨g3, 0, none⟩)) (by rfl) (by rfl) (gives_value _ fun _ => by kernel_rfl) ?_
  refine L_val (.slice (some ⟨g1, 0, none⟩) 24 cap_1) (by rfl) (by rfl) (gives_loadS g3 0 #[.slice (some ⟨g1, 0, none⟩) 24 cap_1, .slice (some ⟨g2, 0, none⟩) 24 cap_1b] (.slice (some ⟨g1, 0, none⟩) 24 cap_1) (by rfl) (fun _ h => h.blk 4 (by rfl)) (by rfl) und_u32s) ?_
  refine L_val (.bool (decide (Mp < ((k0).a.val : Int) + ((k0).a.val : Int)))) (by rfl) (by rfl) (gives_call (vl := [.slice (some ⟨g1, 0, none⟩) 24 cap_1]) (by kernel_rfl) (by rfl) (fun w h => n_large4 w _ _ _ (hwb_1.num (h.blk 5 (by rfl)) (fv_rng _) (by omega)) (by omega))) ?_
  refine L_val (.bool (decide (Mp < ((k0).a.val : Int) + ((k0).a.val : Int)))) (by rfl) (by rfl) (gives_value _ fun _ => by rfl) ?_
  refine L_end ?_
  intro w13 hw13
  change Code.wp _ _ _ _ _
  refine seq_plain hw13 [0, 1, 2, 3, 4, 5, 6, 7, 8, 9, 10] (by rfl) ?_
  refine L_val (.agg (c2 (k0))) (by rfl) (by rfl) (gives_load g4 0 30 (c2 (k0)) (c2 (k0)) _ (by rfl) (fun _ h => h.blk 3 (by rfl)) (Sl.refl _) Tryd.underlying30 (by rfl) (hi_2 _)) ?_
  refine L_val (.bool (F2.odd (k0))) (by rfl) (by rfl) (gives_call (vl := [.agg (c2 (k0))]) (by kernel_rfl) (by rfl) (fun w h => q_odd _ w (hG.keep h.below))) ?_
  refine L_val (.bool (decide ((((k0).b.val : Int) % 65536) % 2 = 1))) (by rfl) (by rfl) (gives_value _ fun _ => by rfl) ?_
  refine L_val (.bool true) (by rfl) (by rfl) (gives_eqbb _ _ (by rfl) (by rfl) (by rfl) (odd5_z _ hza)) ?_
  refine L_val (.bool true) (by rfl) (by rfl) (gives_value _ fun _ => by rfl) ?_
  refine L_val_g (dj := 84) (.agg (c2 (k0))) (by rfl) (by rfl) (by rfl) (by rfl) (by rfl) (gives_load g4 0 30 (c2 (k0)) (c2 (k0)) _ (by rfl) (fun _ h => h.blk 3 (by rfl)) (Sl.refl _) Tryd.underlying30 (by rfl) (hi_2 _)) ?_
  refine L_val_g (dj := 84) (.bool (F2.large (k0))) (by rfl) (by rfl) (by rfl) (by rfl) (by rfl) (gives_call (vl := [.agg (c2 (k0))]) (by kernel_rfl) (by rfl) (fun w h => q_large _ w (hG.keep h.below) (hU.keep h.below))) ?_
  refine L_val_g (dj := 84) (.bool (decide (Mp < ((k0).a.val : Int) + ((k0).a.val : Int)))) (by rfl) (by rfl) (by rfl) (by rfl) (by rfl) (gives_value _ fun _ => by rfl) ?_
  refine L_val_g (dj := 84) (.bool true) (by rfl) (by rfl) (by rfl) (by rfl) (by rfl) (gives_eqbb _ _ (by rfl) (by rfl) (by rfl) (large5_z _ hzb)) ?_
  refine L_val (.bool true) (by rfl) (by rfl) (gives_value _ fun _ => by rfl) ?_
  refine L_val (.bool true) (by rfl) (by rfl) (gives_value _ fun _ => by rfl) ?_
  refine L_end ?_
  intro w14 hw14
  refine wp_ret ?_
  change bodyPost _ _ _ Exit.ret _ _
  refine (ret_tmp (by rfl) (by rfl) (by rfl) ⟨rfl, hw14.below⟩)
set_option maxRecDepth 100000 in
set_option maxHeartbeats 4000000 in
theorem roots5_010 (A0 : Option Addr) (L0 C0 : Nat) (bs0 : List Int) (A1 : Option Addr) (L1 C1 : Nat) (bs1 : List Int) (v : World) (hG : Glo v) (hQ : GQp v) (hU : GUp v) (hr0 : Reads v v.heap.size A0 L0 (bs0.map (Value.int .u8))) (ho0 : Oct bs0) (hr1 : Reads v v.heap.size A1 L1 (bs1.map (Value.int .u8))) (ho1 : Oct bs1) (hs0 : L0 ≤ 64) (hs1 : L1 ≤ 64) (k0 : F2) (hk0 : k0 = (⟨Fp.n (num bs0), Fp.n (num bs1)⟩ : F2)) (hsq : ¬ F2.sq k0) (hza : k0.a = 0) (hzb : ¬ k0.b = 0) : Rets 5 #[.slice A0 L0 C0, .slice A1 L1 C1] v (.bool true) := by
  have hn0 : bs0.length = L0 := by simpa using hr0.1
  have hn1 : bs1.length = L1 := by simpa using hr1.1
  refine calls_fr2 Tryd.func5 rfl (by rfl : _ = 90) (by rfl) ?_
  have hw := Hbl.nil v
  refine seq_plain hw [0] (by rfl) ?_
  refine L_val (.bool false) (by rfl) (by rfl) (gives_value _ fun _ => by rfl) ?_
  refine L_end ?_
  intro w1 hw1
  refine wp_seq ?_
  refine seq_plain hw1 [0, 1] (by rfl) ?_
  refine L_val (.bool true) (by rfl) (by rfl) (gives_call (vl := []) (by kernel_rfl) (by rfl) (fun w h => q_head w (hG.keep h.below))) ?_
  refine L_val (.bool false) (by rfl) (by rfl) (gives_value _ fun _ => by rfl) ?_
  refine L_end ?_
  intro w2 hw2
  refine wp_cond_false (fr_at _ _ (by rfl) _) ?_
  refine wp_skip ?_
  change Code.wp _ _ _ _ _
  refine wp_seq ?_
  refine seq_plain hw2 [0, 1, 2] (by rfl) ?_
  refine L_val (.slice A0 L0 C0) (by rfl) (by rfl) (gives_value _ fun _ => by rfl) ?_
  refine L_val (.slice A1 L1 C1) (by rfl) (by rfl) (gives_value _ fun _ => by rfl) ?_
  refine L_val (.bool false) (by rfl) (by rfl) (gives_call (vl := [.slice A0 L0 C0, .slice A1 L1 C1, .slice none 0 0, .slice none 0 0]) (by kernel_rfl) (by rfl) (fun w h => long_no _ _ _ _ _ _ none 0 0 none 0 0 w (by omega) (by omega) (by omega) (by omega))) ?_
  refine L_end ?_
  intro w3 hw3
  refine wp_cond_false (fr_at _ _ (by rfl) _) ?_
  refine wp_skip ?_
  change Code.wp _ _ _ _ _
  refine seq_plain hw3 [0, 1, 2, 3, 4, 5, 6, 7, 8, 9] (by rfl) ?_
  refine L_val (.slice A0 L0 C0) (by rfl) (by rfl) (gives_value _ fun _ => by rfl) ?_
  refine L_val (.slice A1 L1 C1) (by rfl) (by rfl) (gives_value _ fun _ => by rfl) ?_
  refine L_freshY (vl := [.slice A0 L0 C0, .slice A1 L1 C1]) 61 61 (fun g cap g2 cap2 => .tuple #[.agg #[.slice (some ⟨g, 0, none⟩) 24 cap, .slice (some ⟨g2, 0, none⟩) 24 cap2], .agg (c2 (k0))]) (fun cap cs cap2 cs2 => WB cs cap 24 ((k0).a.val : Int) ∧ WB cs2 cap2 24 ((k0).b.val : Int)) (by rfl) (by rfl) Want.none (by kernel_rfl) (by rfl)  (fun w h => by rw [hk0]; exact l5_number A0 L0 C0 bs0 A1 L1 C1 bs1 w (hG.keep h.below) ((hr0.below h.below).more h.below.size) ho0 ((hr1.below h.below).more h.below.size) ho1 (by omega) (by omega)) ?_; intro g1 cap_1 cs_1 g2 cap_1b cs_1b hq_1; obtain ⟨hwb_1, hwb_1b⟩ := hq_1
  refine L_val (.tuple #[.agg #[.slice (some ⟨g1, 0, none⟩) 24 cap_1, .slice (some ⟨g2, 0, none⟩) 24 cap_1b], .agg (c2 (k0))]) (by rfl) (by rfl) (gives_value _ fun _ => by rfl) ?_
  refine L_val (.agg #[.slice (some ⟨g1, 0, none⟩) 24 cap_1, .slice (some ⟨g2, 0, none⟩) 24 cap_1b]) (by rfl) (by rfl) (gives_value _ fun _ => by kernel_rfl) ?_
  refine L_val (.agg (c2 (k0))) (by rfl) (by rfl) (gives_value _ fun _ => by kernel_rfl) ?_
  refine L_alloc _ (by rfl) (by rfl) z_N #[.slice none 0 0, .slice none 0 0] rfl ?_; intro g3
  refine L_alloc _ (by rfl) (by rfl) z_2 (c2 (0 : F2)) rfl ?_; intro g4
  refine L_store (t := 46) 1 g3 #[.slice none 0 0, .slice none 0 0] #[.slice (some ⟨g1, 0, none⟩) 24 cap_1, .slice (some ⟨g2, 0, none⟩) 24 cap_1b] (by rfl) (by rfl) (by rfl) (by rfl) (by rfl) (hi_NN _ _) (by rfl) (one_N (by rfl) (by rfl)) ?_
  simp only [List.set_cons_zero, List.set_cons_succ]
  refine L_store (t := 30) 0 g4 (c2 (0 : F2)) (c2 (k0)) (by rfl) (by rfl) (by rfl) (by rfl) (by rfl) (hi_2 _) ((c2_size _).trans (c2_size _).symm) (c2_one _) ?_
  simp only [List.set_cons_zero, List.set_cons_succ]
  refine L_end ?_
  intro w4 hw4
  refine seq_plain hw4 [0, 1, 2, 3, 4, 5, 6, 7] (by rfl) ?_
  refine L_val (.agg #[.slice (some ⟨g1, 0, none⟩) 24 cap_1, .slice (some ⟨g2, 0, none⟩) 24 cap_1b]) (by rfl) (by rfl) (gives_load g3 0 46 #[.slice (some ⟨g1, 0, none⟩) 24 cap_1, .slice (some ⟨g2, 0, none⟩) 24 cap_1b] #[.slice (some ⟨g1, 0, none⟩) 24 cap_1, .slice (some ⟨g2, 0, none⟩) 24 cap_1b] _ (by rfl) (fun _ h => h.blk 1 (by rfl)) (Sl.refl _) Tryd.underlying46 (by rfl) (hi_NN _ _)) ?_
  refine L_freshW (vl := [.agg #[.slice (some ⟨g1, 0, none⟩) 24 cap_1, .slice (some ⟨g2, 0, none⟩) 24 cap_1b]]) (24) (((F2.norm (k0)).val : Int)) (by rfl) (by rfl) (by kernel_rfl) (by rfl) (fun w h => l5_norm (k0) _ _ _ _ _ _ w (hwb_1.num (h.blk 2 (by rfl)) (fv_rng _) (by omega)) (hwb_1b.num (h.blk 3 (by rfl)) (fv_rng _) (by omega)) (by omega) (by omega)) ?_; intro g5 cap_2 cs_2 hwb_2
  refine L_freshU (vl := [.slice (some ⟨g5, 0, none⟩) (24) cap_2]) (fun g cap => .tuple #[.slice (some ⟨g, 0, none⟩) 24 cap, .bool false]) (24) ((((F2.norm (k0)).val : Int)) ^ Qp % Mp) (by rfl) (by rfl) (by kernel_rfl) (by rfl) (fun w h => n_sqrt4_f w _ _ _ (hwb_2.num (h.blk 0 (by rfl)) (fv_rng _) (by omega)) (fun e => hsq ((sq5 _).1 e))) ?_; intro g6 cap_3 cs_3 hwb_3
  refine L_val (.tuple #[.slice (some ⟨g6, 0, none⟩) 24 cap_3, .bool false]) (by rfl) (by rfl) (gives_value _ fun _ => by rfl) ?_
  refine L_val (.slice (some ⟨g6, 0, none⟩) 24 cap_3) (by rfl) (by rfl) (gives_value _ fun _ => by kernel_rfl) ?_
  refine L_val (.bool false) (by rfl) (by rfl) (gives_value _ fun _ => by kernel_rfl) ?_
  refine L_val (.slice (some ⟨g6, 0, none⟩) 24 cap_3) (by rfl) (by rfl) (gives_value _ fun _ => by rfl) ?_
  refine L_val (.bool false) (by rfl) (by rfl) (gives_value _ fun _ => by rfl) ?_
  refine L_end ?_
  intro w5 hw5
  refine seq_plain hw5 [0, 1, 2, 3, 4, 5, 6, 7] (by rfl) ?_
  refine L_val (.agg (c2 (k0))) (by rfl) (by rfl) (gives_load g4 0 30 (c2 (k0)) (c2 (k0)) _ (by rfl) (fun _ h => h.blk 2 (by rfl)) (Sl.refl _) Tryd.underlying30 (by rfl) (hi_2 _)) ?_
  refine L_val (.tuple #[.agg (c2 (0 : F2)), .bool false]) (by rfl) (by rfl) (gives_call (vl := [.agg (c2 (k0))]) (by kernel_rfl) (by rfl) (fun w h => q_sqrt_no _ w (hG.keep h.below) (hQ.keep h.below) hsq)) ?_
  refine L_val (.tuple #[.agg (c2 (0 : F2)), .bool false]) (by rfl) (by rfl) (gives_value _ fun _ => by rfl) ?_
  refine L_val (.agg (c2 (0 : F2))) (by rfl) (by rfl) (gives_value _ fun _ => by kernel_rfl) ?_
  refine L_val (.bool false) (by rfl) (by rfl) (gives_value _ fun _ => by kernel_rfl) ?_
  refine L_alloc _ (by rfl) (by rfl) z_2 (c2 (0 : F2)) rfl ?_; intro g7
  refine L_store (t := 30) 0 g7 (c2 (0 : F2)) (c2 (0 : F2)) (by rfl) (by rfl) (by rfl) (by rfl) (by rfl) (hi_2 _) ((c2_size _).trans (c2_size _).symm) (c2_one _) ?_
  simp only [List.set_cons_zero, List.set_cons_succ]
  refine L_val (.bool false) (by rfl) (by rfl) (gives_value _ fun _ => by rfl) ?_
  refine L_end ?_
  intro w6 hw6
  refine wp_seq ?_
  refine seq_flow (by kernel_rfl) hw6 [] [(g7, 30, (c2 (0 : F2))), (g6, 61, cs_3), (g5, 61, cs_2), (g4, 30, (c2 (k0))), (g3, 46, #[.slice (some ⟨g1, 0, none⟩) 24 cap_1, .slice (some ⟨g2, 0, none⟩) 24 cap_1b]), (g1, 61, cs_1), (g2, 61, cs_1b)] 21 (by rfl) ?_
  refine flow_take (i := 0) (.bool false) (by rfl) (by kernel_rfl) (by kernel_rfl) (by kernel_rfl) (by rfl) (by kernel_rfl) (List.Sublist.refl _) (gives_value _ fun _ => by rfl) ?_
  refine flow_take (i := 1) (.bool false) (by rfl) (by kernel_rfl) (by kernel_rfl) (by kernel_rfl) (by rfl) (by kernel_rfl) (List.Sublist.refl _) (gives_value _ fun _ => by rfl) ?_
  refine flow_take (i := 2) (.bool false) (by rfl) (by kernel_rfl) (by kernel_rfl) (by kernel_rfl) (by rfl) (by kernel_rfl) (List.Sublist.refl _) (gives_value _ fun _ => by rfl) ?_
  refine flow_take (i := 3) (.bool false) (by rfl) (by kernel_rfl) (by kernel_rfl) (by kernel_rfl) (by rfl) (by kernel_rfl) (List.Sublist.refl _) (gives_value _ fun _ => by rfl) ?_
  refine flow_take_g (i := 4) (dj := 38) (.bool false) (by rfl) (by kernel_rfl) (by kernel_rfl) (by kernel_rfl) (by rfl) (by kernel_rfl) (List.Sublist.refl _) (by rfl) (by rfl) (by rfl) (gives_value _ fun _ => by rfl) ?_
  refine flow_take_g (i := 5) (dj := 38) (.bool false) (by rfl) (by kernel_rfl) (by kernel_rfl) (by kernel_rfl) (by rfl) (by kernel_rfl) (List.Sublist.refl _) (by rfl) (by rfl) (by rfl) (gives_value _ fun _ => by rfl) ?_
  refine flow_skip (i := 6) (dj := 40) (by rfl) (by kernel_rfl) (by kernel_rfl) (by kernel_rfl) (by rfl) (by kernel_rfl) (List.Sublist.refl _) (by rfl) (by rfl) (by rfl) ?_
  refine flow_skip (i := 7) (dj := 40) (by rfl) (by kernel_rfl) (by kernel_rfl) (by kernel_rfl) (by rfl) (by kernel_rfl) (List.Sublist.refl _) (by rfl) (by rfl) (by rfl) ?_
  refine flow_skip (i := 8) (dj := 40) (by rfl) (by kernel_rfl) (by kernel_rfl) (by kernel_rfl) (by rfl) (by kernel_rfl) (List.Sublist.refl _) (by rfl) (by rfl) (by rfl) ?_
  refine flow_skip (i := 9) (dj := 40) (by rfl) (by kernel_rfl) (by kernel_rfl) (by kernel_rfl) (by rfl) (by kernel_rfl) (List.Sublist.refl _) (by rfl) (by rfl) (by rfl) ?_
  refine flow_take_g (i := 10) (dj := 38) (.bool false) (by rfl) (by kernel_rfl) (by kernel_rfl) (by kernel_rfl) (by rfl) (by kernel_rfl) (List.Sublist.refl _) (by rfl) (by rfl) (by rfl) (gives_value _ fun _ => by rfl) ?_
  refine flow_take (i := 11) (.bool false) (by rfl) (by kernel_rfl) (by kernel_rfl) (by kernel_rfl) (by rfl) (by kernel_rfl) (List.Sublist.refl _) (gives_value _ fun _ => by rfl) ?_
  refine flow_take (i := 12) (.bool false) (by rfl) (by kernel_rfl) (by kernel_rfl) (by kernel_rfl) (by rfl) (by kernel_rfl) (List.Sublist.refl _) (gives_value _ fun _ => by rfl) ?_
  refine flow_take_g (i := 13) (dj := 47) (.bool false) (by rfl) (by kernel_rfl) (by kernel_rfl) (by kernel_rfl) (by rfl) (by kernel_rfl) (List.Sublist.refl _) (by rfl) (by rfl) (by rfl) (gives_value _ fun _ => by rfl) ?_
  refine flow_take_g (i := 14) (dj := 47) (.bool true) (by rfl) (by kernel_rfl) (by kernel_rfl) (by kernel_rfl) (by rfl) (by kernel_rfl) (List.Sublist.refl _) (by rfl) (by rfl) (by rfl) (gives_value _ fun _ => by rfl) ?_
  refine flow_take_g (i := 15) (dj := 47) (.bool true) (by rfl) (by kernel_rfl) (by kernel_rfl) (by kernel_rfl) (by rfl) (by kernel_rfl) (List.Sublist.refl _) (by rfl) (by rfl) (by rfl) (gives_value _ fun _ => by rfl) ?_
  refine flow_take_g (i := 16) (dj := 50) (.agg (c2 (0 : F2))) (by rfl) (by kernel_rfl) (by kernel_rfl) (by kernel_rfl) (by rfl) (by kernel_rfl) (List.Sublist.refl _) (by rfl) (by rfl) (by rfl) (gives_load g7 0 30 (c2 (0 : F2)) (c2 (0 : F2)) _ (by rfl) (fun _ h => h.blk 0 (by rfl)) (Sl.refl _) Tryd.underlying30 (by rfl) (hi_2 _)) ?_
  refine flow_one 17 (by kernel_rfl) ?_
  refine F_val (vl := [.agg (c2 (0 : F2))]) (.bool true) (by rfl) (by rfl) (Want.some (dj := 50) (by rfl) (by rfl) (by rfl) (by rfl)) (by kernel_rfl) (by rfl) (List.Sublist.refl _) (fun w h => q_zero_t w (hG.keep h.below) rfl) ?_
  refine flow_take_g (i := 18) (dj := 50) (.bool false) (by rfl) (by kernel_rfl) (by kernel_rfl) (by kernel_rfl) (by rfl) (by kernel_rfl) (List.Sublist.refl _) (by rfl) (by rfl) (by rfl) (gives_value _ fun _ => by rfl) ?_
  refine flow_take_g (i := 19) (dj := 47) (.bool false) (by rfl) (by kernel_rfl) (by kernel_rfl) (by kernel_rfl) (by rfl) (by kernel_rfl) (List.Sublist.refl _) (by rfl) (by rfl) (by rfl) (gives_value _ fun _ => by rfl) ?_
  refine flow_take (i := 20) (.bool false) (by rfl) (by kernel_rfl) (by kernel_rfl) (by kernel_rfl) (by rfl) (by kernel_rfl) (List.Sublist.refl _) (gives_value _ fun _ => by rfl) ?_
  refine flow_done (by kernel_rfl) ?_
  intro w7 hw7
  refine wp_cond_false (fr_at _ _ (by rfl) _) ?_
  refine wp_skip ?_
  change Code.wp _ _ _ _ _
  refine seq_plain hw7 [0, 1, 2, 3, 4, 5, 6] (by rfl) ?_
  refine L_val (.pointer (some ⟨g3, 0, none⟩)) (by rfl) (by rfl) (gives_value _ fun _ => by kernel_rfl) ?_
  refine L_val (.slice (some ⟨g1, 0, none⟩) 24 cap_1) (by rfl) (by rfl) (gives_loadS g3 0 #[.slice (some ⟨g1, 0, none⟩) 24 cap_1, .slice (some ⟨g2, 0, none⟩) 24 cap_1b] (.slice (some ⟨g1, 0, none⟩) 24 cap_1) (by rfl) (fun _ h => h.blk 4 (by rfl)) (by rfl) und_u32s) ?_
  refine L_val (.pointer (some ⟨g1, 0 + (0), none⟩)) (by rfl) (by rfl) (gives_index g1 0 (24) (cap_1) (0) (0) (by rfl) (by rfl) und_u32s u32_sz (by omega) (by omega)) ?_
  refine L_val (.int .u32 (((k0).a.val : Int) % 65536)) (by rfl) (by rfl) (gives_load1 g1 (0 + (0)) _ cs_1 (.int .u32 (((k0).a.val : Int) % 65536)) (by rfl) (fun _ h => h.blk 5 (by rfl)) (word0 hwb_1) und_u32) ?_
  refine L_val (.int .u32 ((((k0).a.val : Int) % 65536) % 2)) (by rfl) (by rfl) (gives_and (k := .u32) (((k0).a.val : Int) % 65536) 1 ((((k0).a.val : Int) % 65536) % 2) (by rfl) (by rfl) (and_one32 _ (by omega) (by omega))) ?_
  refine L_val (.bool (decide ((((k0).a.val : Int) % 65536) % 2 = 1))) (by rfl) (by rfl) (gives_ieq (k := .u32) ((((k0).a.val : Int) % 65536) % 2) (1) (decide ((((k0).a.val : Int) % 65536) % 2 = 1)) (by rfl) (by rfl) rfl) ?_
  refine L_val (.bool (decide ((((k0).a.val : Int) % 65536) % 2 = 1))) (by rfl) (by rfl) (gives_value _ fun _ => by rfl) ?_
  refine L_end ?_
  intro w8 hw8
  refine wp_seq ?_
  refine seq_plain hw8 [0, 1, 2] (by rfl) ?_
  refine L_val (.pointer (some ⟨g3, 0, none⟩)) (by rfl) (by rfl) (gives_value _ fun _ => by kernel_rfl) ?_
  refine L_val (.slice (some ⟨g1, 0, none⟩) 24 cap_1) (by rfl) (by rfl) (gives_loadS g3 0 #[.slice (some ⟨g1, 0, none⟩) 24 cap_1, .slice (some ⟨g2, 0, none⟩) 24 cap_1b] (.slice (some ⟨g1, 0, none⟩) 24 cap_1) (by rfl) (fun _ h => h.blk 4 (by rfl)) (by rfl) und_u32s) ?_
  refine L_val (.bool true) (by rfl) (by rfl) (gives_call (vl := [.slice (some ⟨g1, 0, none⟩) 24 cap_1, .slice none 0 0]) (by kernel_rfl) (by rfl) (fun w h => n_same0 w _ _ _ _ (hwb_1.num (h.blk 5 (by rfl)) (fv_rng _) (by omega)) true (decide_eq_true hza))) ?_
  refine L_end ?_
  intro w9 hw9
  refine wp_cond_true (fr_at _ _ (by rfl) _) ?_
  refine one_plain hw9 [0, 1, 2, 3, 4, 5, 6] (by rfl) ?_
  refine L_val (.pointer (some ⟨g3, 1, none⟩)) (by rfl) (by rfl) (gives_value _ fun _ => by kernel_rfl) ?_
  refine L_val (.slice (some ⟨g2, 0, none⟩) 24 cap_1b) (by rfl) (by rfl) (gives_loadS g3 1 #[.slice (some ⟨g1, 0, none⟩) 24 cap_1, .slice (some ⟨g2, 0, none⟩) 24 cap_1b] (.slice (some ⟨g2, 0, none⟩) 24 cap_1b) (by rfl) (fun _ h => h.blk 4 (by rfl)) (by rfl) und_u32s) ?_
  refine L_val (.pointer (some ⟨g2, 0 + (0), none⟩)) (by rfl) (by rfl) (gives_index g2 0 (24) (cap_1b) (0) (0) (by rfl) (by rfl) und_u32s u32_sz (by omega) (by omega)) ?_
  refine L_val (.int .u32 (((k0).b.val : Int) % 65536)) (by rfl) (by rfl) (gives_load1 g2 (0 + (0)) _ cs_1b (.int .u32 (((k0).b.val : Int) % 65536)) (by rfl) (fun _ h => h.blk 6 (by rfl)) (word0 hwb_1b) und_u32) ?_
  refine L_val (.int .u32 ((((k0).b.val : Int) % 65536) % 2)) (by rfl) (by rfl) (gives_and (k := .u32) (((k0).b.val : Int) % 65536) 1 ((((k0).b.val : Int) % 65536) % 2) (by rfl) (by rfl) (and_one32 _ (by omega) (by omega))) ?_
  refine L_val (.bool (decide ((((k0).b.val : Int) % 65536) % 2 = 1))) (by rfl) (by rfl) (gives_ieq (k := .u32) ((((k0).b.val : Int) % 65536) % 2) (1) (decide ((((k0).b.val : Int) % 65536) % 2 = 1)) (by rfl) (by rfl) rfl) ?_
  refine L_val (.bool (decide ((((k0).b.val : Int) % 65536) % 2 = 1))) (by rfl) (by rfl) (gives_value _ fun _ => by rfl) ?_
  refine L_end ?_
  intro w10 hw10
  change Code.wp _ _ _ _ _
  refine seq_plain hw10 [0, 1, 2, 3] (by rfl) ?_
  refine L_val (.pointer (some ⟨g3, 1, none⟩)) (by rfl) (by rfl) (gives_value _ fun _ => by kernel_rfl) ?_
  refine L_val (.slice (some ⟨g2, 0, none⟩) 24 cap_1b) (by rfl) (by rfl) (gives_loadS g3 1 #[.slice (some ⟨g1, 0, none⟩) 24 cap_1, .slice (some ⟨g2, 0, none⟩) 24 cap_1b] (.slice (some ⟨g2, 0, none⟩) 24 cap_1b) (by rfl) (fun _ h => h.blk 4 (by rfl)) (by rfl) und_u32s) ?_
  refine L_val (.bool (decide (Mp < ((k0).b.val : Int) + ((k0).b.val : Int)))) (by rfl) (by rfl) (gives_call (vl := [.slice (some ⟨g2, 0, none⟩) 24 cap_1b]) (by kernel_rfl) (by rfl) (fun w h => n_large4 w _ _ _ (hwb_1b.num (h.blk 6 (by rfl)) (fv_rng _) (by omega)) (by omega))) ?_
  refine L_val (.bool (decide (Mp < ((k0).b.val : Int) + ((k0).b.val : Int)))) (by rfl) (by rfl) (gives_value _ fun _ => by rfl) ?_
  refine L_end ?_
  intro w11 hw11
  refine wp_seq ?_
  refine seq_plain hw11 [0, 1, 2] (by rfl) ?_
  refine L_val (.pointer (some ⟨g3, 1, none⟩)) (by rfl) (by rfl) (gives_value _ fun _ => by kernel_rfl) ?_
  refine L_val (.slice (some ⟨g2, 0, none⟩) 24 cap_1b) (by rfl) (by rfl) (gives_loadS g3 1 #[.slice (some ⟨g1, 0, none⟩) 24 cap_1, .slice (some ⟨g2, 0, none⟩) 24 cap_1b] (.slice (some ⟨g2, 0, none⟩) 24 cap_1b) (by rfl) (fun _ h => h.blk 4 (by rfl)) (by rfl) und_u32s) ?_
  refine L_val (.bool false) (by rfl) (by rfl) (gives_call (vl := [.slice (some ⟨g2, 0, none⟩) 24 cap_1b, .slice none 0 0]) (by kernel_rfl) (by rfl) (fun w h => n_same0 w _ _ _ _ (hwb_1b.num (h.blk 6 (by rfl)) (fv_rng _) (by omega)) false (decide_eq_false hzb))) ?_
  refine L_end ?_
  intro w12 hw12
  refine wp_cond_false (fr_at _ _ (by rfl) _) ?_
  refine wp_skip ?_
  change Code.wp _ _ _ _ _
  refine seq_plain hw12 [0, 1, 2, 3, 4, 5, 6, 7, 8, 9, 10] (by rfl) ?_
  refine L_val (.agg (c2 (k0))) (by rfl) (by rfl) (gives_load g4 0 30 (c2 (k0)) (c2 (k0)) _ (by rfl) (fun _ h => h.blk 3 (by rfl)) (Sl.refl _) Tryd.underlying30 (by rfl) (hi_2 _)) ?_
  refine L_val (.bool (F2.odd (k0))) (by rfl) (by rfl) (gives_call (vl := [.agg (c2 (k0))]) (by kernel_rfl) (by rfl) (fun w h => q_odd _ w (hG.keep h.below))) ?_
  refine L_val (.bool (decide ((((k0).b.val : Int) % 65536) % 2 = 1))) (by rfl) (by rfl) (gives_value _ fun _ => by rfl) ?_
  refine L_val (.bool true) (by rfl) (by rfl) (gives_eqbb _ _ (by rfl) (by rfl) (by rfl) (odd5_z _ hza)) ?_
  refine L_val (.bool true) (by rfl) (by rfl) (gives_value _ fun _ => by rfl) ?_
  refine L_val_g (dj := 84) (.agg (c2 (k0))) (by rfl) (by rfl) (by rfl) (by rfl) (by rfl) (gives_load g4 0 30 (c2 (k0)) (c2 (k0)) _ (by rfl) (fun _ h => h.blk 3 (by rfl)) (Sl.refl _) Tryd.underlying30 (by rfl) (hi_2 _)) ?_
  refine L_val_g (dj := 84) (.bool (F2.large (k0))) (by rfl) (by rfl) (by rfl) (by rfl) (by rfl) (gives_call (vl := [.agg (c2 (k0))]) (by kernel_rfl) (by rfl) (fun w h => q_large _ w (hG.keep h.below) (hU.keep h.below))) ?_
  refine L_val_g (dj := 84) (.bool (decide (Mp < ((k0).b.val : Int) + ((k0).b.val : Int)))) (by rfl) (by rfl) (by rfl) (by rfl) (by rfl) (gives_value _ fun _ => by rfl) ?_
  refine L_val_g (dj := 84) (.bool true) (by rfl) (by rfl) (by rfl) (by rfl) (by rfl) (gives_eqbb _ _ (by rfl) (by rfl) (by rfl) (large5_n _ hzb)) ?_
  refine L_val (.bool true) (by rfl) (by rfl) (gives_value _ fun _ => by rfl) ?_
  refine L_val (.bool true) (by rfl) (by rfl) (gives_value _ fun _ => by rfl) ?_
  refine L_end ?_
  intro w13 hw13
  refine wp_ret ?_
  change bodyPost _ _ _ Exit.ret _ _
  refine (ret_tmp (by rfl) (by rfl) (by rfl) ⟨rfl, hw13.below⟩)
set_option maxRecDepth 100000 in
set_option maxHeartbeats 4000000 in
theorem roots5_001 (A0 : Option Addr) (L0 C0 : Nat) (bs0 : List Int) (A1 : Option Addr) (L1 C1 : Nat) (bs1 : List Int) (v : World) (hG : Glo v) (hQ : GQp v) (hU : GUp v) (hr0 : Reads v v.heap.size A0 L0 (bs0.map (Value.int .u8))) (ho0 : Oct bs0) (hr1 : Reads v v.heap.size A1 L1 (bs1.map (Value.int .u8))) (ho1 : Oct bs1) (hs0 : L0 ≤ 64) (hs1 : L1 ≤ 64) (k0 : F2) (hk0 : k0 = (⟨Fp.n (num bs0), Fp.n (num bs1)⟩ : F2)) (hsq : ¬ F2.sq k0) (hza : ¬ k0.a = 0) (hzb : k0.b = 0) : Rets 5 #[.slice A0 L0 C0, .slice A1 L1 C1] v (.bool true) := by
  have hn0 : bs0.length = L0 := by simpa using hr0.1
  have hn1 : bs1.length = L1 := by simpa using hr1.1
  refine calls_fr2 Tryd.func5 rfl (by rfl : _ = 90) (by rfl) ?_
  have hw := Hbl.nil v
  refine seq_plain hw [0] (by rfl) ?_
  refine L_val (.bool false) (by rfl) (by rfl) (gives_value _ fun _ => by rfl) ?_
  refine L_end ?_
  intro w1 hw1
  refine wp_seq ?_
  refine seq_plain hw1 [0, 1] (by rfl) ?_
  refine L_val (.bool true) (by rfl) (by rfl) (gives_call (vl := []) (by kernel_rfl) (by rfl) (fun w h => q_head w (hG.keep h.below))) ?_
  refine L_val (.bool false) (by rfl) (by rfl) (gives_value _ fun _ => by rfl) ?_
  refine L_end ?_
  intro w2 hw2
  refine wp_cond_false (fr_at _ _ (by rfl) _) ?_
  refine wp_skip ?_
  change Code.wp _ _ _ _ _
  refine wp_seq ?_
  refine seq_plain hw2 [0, 1, 2] (by rfl) ?_
  refine L_val (.slice A0 L0 C0) (by rfl) (by rfl) (gives_value _ fun _ => by rfl) ?_
  refine L_val (.slice A1 L1 C1) (by rfl) (by rfl) (gives_value _ fun _ => by rfl) ?_
  refine L_val (.bool false) (by rfl) (by rfl) (gives_call (vl := [.slice A0 L0 C0, .slice A1 L1 C1, .slice none 0 0, .slice none 0 0]) (by kernel_rfl) (by rfl) (fun w h => long_no _ _ _ _ _ _ none 0 0 none 0 0 w (by omega) (by omega) (by omega) (by omega))) ?_
  refine L_end ?_
  intro w3 hw3
  refine wp_cond_false (fr_at _ _ (by rfl) _) ?_
  refine wp_skip ?_
  change Code.wp _ _ _ _ _
  refine seq_plain hw3 [0, 1, 2, 3, 4, 5, 6, 7, 8, 9] (by rfl) ?_
  refine L_val (.slice A0 L0 C0) (by rfl) (by rfl) (gives_value _ fun _ => by rfl) ?_
  refine L_val (.slice A1 L1 C1) (by rfl) (by rfl) (gives_value _ fun _ => by rfl) ?_
  refine L_freshY (vl := [.slice A0 L0 C0, .slice A1 L1 C1]) 61 61 (fun g cap g2 cap2 => .tuple #[.agg #[.slice (some ⟨g, 0, none⟩) 24 cap, .slice (some ⟨g2, 0, none⟩) 24 cap2], .agg (c2 (k0))]) (fun cap cs cap2 cs2 => WB cs cap 24 ((k0).a.val : Int) ∧ WB cs2 cap2 24 ((k0).b.val : Int)) (by rfl) (by rfl) Want.none (by kernel_rfl) (by rfl)  (fun w h => by rw [hk0]; exact l5_number A0 L0 C0 bs0 A1 L1 C1 bs1 w (hG.keep h.below) ((hr0.below h.below).more h.below.size) ho0 ((hr1.below h.below).more h.below.size) ho1 (by omega) (by omega)) ?_; intro g1 cap_1 cs_1 g2 cap_1b cs_1b hq_1; obtain ⟨hwb_1, hwb_1b⟩ := hq_1
  refine L_val (.tuple #[.agg #[.slice (some ⟨g1, 0, none⟩) 24 cap_1, .slice (some ⟨g2, 0, none⟩) 24 cap_1b], .agg (c2 (k0))]) (by rfl) (by rfl) (gives_value _ fun _ => by rfl) ?_
  refine L_val (.agg #[.slice (some ⟨g1, 0, none⟩) 24 cap_1, .slice (some ⟨g2, 0, none⟩) 24 cap_1b]) (by rfl) (by rfl) (gives_value _ fun _ => by kernel_rfl) ?_
  refine L_val (.agg (c2 (k0))) (by rfl) (by rfl) (gives_value _ fun _ => by kernel_rfl) ?_
  refine L_alloc _ (by rfl) (by rfl) z_N #[.slice none 0 0, .slice none 0 0] rfl ?_; intro g3
  refine L_alloc _ (by rfl) (by rfl) z_2 (c2 (0 : F2)) rfl ?_; intro g4
  refine L_store (t := 46) 1 g3 #[.slice none 0 0, .slice none 0 0] #[.slice (some ⟨g1, 0, none⟩) 24 cap_1, .slice (some ⟨g2, 0, none⟩) 24 cap_1b] (by rfl) (by rfl) (by rfl) (by rfl) (by rfl) (hi_NN _ _) (by rfl) (one_N (by rfl) (by rfl)) ?_
  simp only [List.set_cons_zero, List.set_cons_succ]
  refine L_store (t := 30) 0 g4 (c2 (0 : F2)) (c2 (k0)) (by rfl) (by rfl) (by rfl) (by rfl) (by rfl) (hi_2 _) ((c2_size _).trans (c2_size _).symm) (c2_one _) ?_
  simp only [List.set_cons_zero, List.set_cons_succ]
  refine L_end ?_
  intro w4 hw4
  refine seq_plain hw4 [0, 1, 2, 3, 4, 5, 6, 7] (by rfl) ?_
  refine L_val (.agg #[.slice (some ⟨g1, 0, none⟩) 24 cap_1, .slice (some ⟨g2, 0, none⟩) 24 cap_1b]) (by rfl) (by rfl) (gives_load g3 0 46 #[.slice (some ⟨g1, 0, none⟩) 24 cap_1, .slice (some ⟨g2, 0, none⟩) 24 cap_1b] #[.slice (some ⟨g1, 0, none⟩) 24 cap_1, .slice (some ⟨g2, 0, none⟩) 24 cap_1b] _ (by rfl) (fun _ h => h.blk 1 (by rfl)) (Sl.refl _) Tryd.underlying46 (by rfl) (hi_NN _ _)) ?_
  refine L_freshW (vl := [.agg #[.slice (some ⟨g1, 0, none⟩) 24 cap_1, .slice (some ⟨g2, 0, none⟩) 24 cap_1b]]) (24) (((F2.norm (k0)).val : Int)) (by rfl) (by rfl) (by kernel_rfl) (by rfl) (fun w h => l5_norm (k0) _ _ _ _ _ _ w (hwb_1.num (h.blk 2 (by rfl)) (fv_rng _) (by omega)) (hwb_1b.num (h.blk 3 (by rfl)) (fv_rng _) (by omega)) (by omega) (by omega)) ?_; intro g5 cap_2 cs_2 hwb_2
  refine L_freshU (vl := [.slice (some ⟨g5, 0, none⟩) (24) cap_2]) (fun g cap => .tuple #[.slice (some ⟨g, 0, none⟩) 24 cap, .bool false]) (24) ((((F2.norm (k0)).val : Int)) ^ Qp % Mp) (by rfl) (by rfl) (by kernel_rfl) (by rfl) (fun w h => n_sqrt4_f w _ _ _ (hwb_2.num (h.blk 0 (by rfl)) (fv_rng _) (by omega)) (fun e => hsq ((sq5 _).1 e))) ?_; intro g6 cap_3 cs_3 hwb_3
  refine L_val (.tuple #[.slice (some ⟨g6, 0, none⟩) 24 cap_3, .bool false]) (by rfl) (by rfl) (gives_value _ fun _ => by rfl) ?_
  refine L_val (.slice (some ⟨g6, 0, none⟩) 24 cap_3) (by rfl) (by rfl) (gives_value _ fun _ => by kernel_rfl) ?_
  refine L_val (.bool false) (by rfl) (by rfl) (gives_value _ fun _ => by kernel_rfl) ?_
  refine L_val (.slice (some ⟨g6, 0, none⟩) 24 cap_3) (by rfl) (by rfl) (gives_value _ fun _ => by rfl) ?_
  refine L_val (.bool false) (by rfl) (by rfl) (gives_value _ fun _ => by rfl) ?_
  refine L_end ?_
  intro w5 hw5
  refine seq_plain hw5 [0, 1, 2, 3, 4, 5, 6, 7] (by rfl) ?_
  refine L_val (.agg (c2 (k0))) (by rfl) (by rfl) (gives_load g4 0 30 (c2 (k0)) (c2 (k0)) _ (by rfl) (fun _ h => h.blk 2 (by rfl)) (Sl.refl _) Tryd.underlying30 (by rfl) (hi_2 _)) ?_
  refine L_val (.tuple #[.agg (c2 (0 : F2)), .bool false]) (by rfl) (by rfl) (gives_call (vl := [.agg (c2 (k0))]) (by kernel_rfl) (by rfl) (fun w h => q_sqrt_no _ w (hG.keep h.below) (hQ.keep h.below) hsq)) ?_
  refine L_val (.tuple #[.agg (c2 (0 : F2)), .bool false]) (by rfl) (by rfl) (gives_value _ fun _ => by rfl) ?_
  refine L_val (.agg (c2 (0 : F2))) (by rfl) (by rfl) (gives_value _ fun _ => by kernel_rfl) ?_
  refine L_val (.bool false) (by rfl) (by rfl) (gives_value _ fun _ => by kernel_rfl) ?_
  refine L_alloc _ (by rfl) (by rfl) z_2 (c2 (0 : F2)) rfl ?_; intro g7
  refine L_store (t := 30) 0 g7 (c2 (0 : F2)) (c2 (0 : F2)) (by rfl) (by rfl) (by rfl) (by rfl) (by rfl) (hi_2 _) ((c2_size _).trans (c2_size _).symm) (c2_one _) ?_
  simp only [List.set_cons_zero, List.set_cons_succ]
  refine L_val (.bool false) (by rfl) (by rfl) (gives_value _ fun _ => by rfl) ?_
  refine L_end ?_
  intro w6 hw6
  refine wp_seq ?_
  refine seq_flow (by kernel_rfl) hw6 [] [(g7, 30, (c2 (0 : F2))), (g6, 61, cs_3), (g5, 61, cs_2), (g4, 30, (c2 (k0))), (g3, 46, #[.slice (some ⟨g1, 0, none⟩) 24 cap_1, .slice (some ⟨g2, 0, none⟩) 24 cap_1b]), (g1, 61, cs_1), (g2, 61, cs_1b)] 21 (by rfl) ?_
  refine flow_take (i := 0) (.bool false) (by rfl) (by kernel_rfl) (by kernel_rfl) (by kernel_rfl) (by rfl) (by kernel_rfl) (List.Sublist.refl _) (gives_value _ fun _ => by rfl) ?_
  refine flow_take (i := 1) (.bool false) (by rfl) (by kernel_rfl) (by kernel_rfl) (by kernel_rfl) (by rfl) (by kernel_rfl) (List.Sublist.refl _) (gives_value _ fun _ => by rfl) ?_
  refine flow_take (i := 2) (.bool false) (by rfl) (by kernel_rfl) (by kernel_rfl) (by kernel_rfl) (by rfl) (by kernel_rfl) (List.Sublist.refl _) (gives_value _ fun _ => by rfl) ?_
  refine flow_take (i := 3) (.bool false) (by rfl) (by kernel_rfl) (by kernel_rfl) (by kernel_rfl) (by rfl) (by kernel_rfl) (List.Sublist.refl _) (gives_value _ fun _ => by rfl) ?_
  refine flow_take_g (i := 4) (dj := 38) (.bool false) (by rfl) (by kernel_rfl) (by kernel_rfl) (by kernel_rfl) (by rfl) (by kernel_rfl) (List.Sublist.refl _) (by rfl) (by rfl) (by rfl) (gives_value _ fun _ => by rfl) ?_
  refine flow_take_g (i := 5) (dj := 38) (.bool false) (by rfl) (by kernel_rfl) (by kernel_rfl) (by kernel_rfl) (by rfl) (by kernel_rfl) (List.Sublist.refl _) (by rfl) (by rfl) (by rfl) (gives_value _ fun _ => by rfl) ?_
  refine flow_skip (i := 6) (dj := 40) (by rfl) (by kernel_rfl) (by kernel_rfl) (by kernel_rfl) (by rfl) (by kernel_rfl) (List.Sublist.refl _) (by rfl) (by rfl) (by rfl) ?_
  refine flow_skip (i := 7) (dj := 40) (by rfl) (by kernel_rfl) (by kernel_rfl) (by kernel_rfl) (by rfl) (by kernel_rfl) (List.Sublist.refl _) (by rfl) (by rfl) (by rfl) ?_
  refine flow_skip (i := 8) (dj := 40) (by rfl) (by kernel_rfl) (by kernel_rfl) (by kernel_rfl) (by rfl) (by kernel_rfl) (List.Sublist.refl _) (by rfl) (by rfl) (by rfl) ?_
  refine flow_skip (i := 9) (dj := 40) (by rfl) (by kernel_rfl) (by kernel_rfl) (by kernel_rfl) (by rfl) (by kernel_rfl) (List.Sublist.refl _) (by rfl) (by rfl) (by rfl) ?_
  refine flow_take_g (i := 10) (dj := 38) (.bool false) (by rfl) (by kernel_rfl) (by kernel_rfl) (by kernel_rfl) (by rfl) (by kernel_rfl) (List.Sublist.refl _) (by rfl) (by rfl) (by rfl) (gives_value _ fun _ => by rfl) ?_
  refine flow_take (i := 11) (.bool false) (by rfl) (by kernel_rfl) (by kernel_rfl) (by kernel_rfl) (by rfl) (by kernel_rfl) (List.Sublist.refl _) (gives_value _ fun _ => by rfl) ?_
  refine flow_take (i := 12) (.bool false) (by rfl) (by kernel_rfl) (by kernel_rfl) (by kernel_rfl) (by rfl) (by kernel_rfl) (List.Sublist.refl _) (gives_value _ fun _ => by rfl) ?_
  refine flow_take_g (i := 13) (dj := 47) (.bool false) (by rfl) (by kernel_rfl) (by kernel_rfl) (by kernel_rfl) (by rfl) (by kernel_rfl) (List.Sublist.refl _) (by rfl) (by rfl) (by rfl) (gives_value _ fun _ => by rfl) ?_
  refine flow_take_g (i := 14) (dj := 47) (.bool true) (by rfl) (by kernel_rfl) (by kernel_rfl) (by kernel_rfl) (by rfl) (by kernel_rfl) (List.Sublist.refl _) (by rfl) (by rfl) (by rfl) (gives_value _ fun _ => by rfl) ?_
  refine flow_take_g (i := 15) (dj := 47) (.bool true) (by rfl) (by kernel_rfl) (by kernel_rfl) (by kernel_rfl) (by rfl) (by kernel_rfl) (List.Sublist.refl _) (by rfl) (by rfl) (by rfl) (gives_value _ fun _ => by rfl) ?_
  refine flow_take_g (i := 16) (dj := 50) (.agg (c2 (0 : F2))) (by rfl) (by kernel_rfl) (by kernel_rfl) (by kernel_rfl) (by rfl) (by kernel_rfl) (List.Sublist.refl _) (by rfl) (by rfl) (by rfl) (gives_load g7 0 30 (c2 (0 : F2)) (c2 (0 : F2)) _ (by rfl) (fun _ h => h.blk 0 (by rfl)) (Sl.refl _) Tryd.underlying30 (by rfl) (hi_2 _)) ?_
  refine flow_one 17 (by kernel_rfl) ?_
  refine F_val (vl := [.agg (c2 (0 : F2))]) (.bool true) (by rfl) (by rfl) (Want.some (dj := 50) (by rfl) (by rfl) (by rfl) (by rfl)) (by kernel_rfl) (by rfl) (List.Sublist.refl _) (fun w h => q_zero_t w (hG.keep h.below) rfl) ?_
  refine flow_take_g (i := 18) (dj := 50) (.bool false) (by rfl) (by kernel_rfl) (by kernel_rfl) (by kernel_rfl) (by rfl) (by kernel_rfl) (List.Sublist.refl _) (by rfl) (by rfl) (by rfl) (gives_value _ fun _ => by rfl) ?_
  refine flow_take_g (i := 19) (dj := 47) (.bool false) (by rfl) (by kernel_rfl) (by kernel_rfl) (by kernel_rfl) (by rfl) (by kernel_rfl) (List.Sublist.refl _) (by rfl) (by rfl) (by rfl) (gives_value _ fun _ => by rfl) ?_
  refine flow_take (i := 20) (.bool false) (by rfl) (by kernel_rfl) (by kernel_rfl) (by kernel_rfl) (by rfl) (by kernel_rfl) (List.Sublist.refl _) (gives_value _ fun _ => by rfl) ?_
  refine flow_done (by kernel_rfl) ?_
  intro w7 hw7
  refine wp_cond_false (fr_at _ _ (by rfl) _) ?_
  refine wp_skip ?_
  change Code.wp _ _ _ _ _
  refine seq_plain hw7 [0, 1, 2, 3, 4, 5, 6] (by rfl) ?_
  refine L_val (.pointer (some ⟨g3, 0, none⟩)) (by rfl) (by rfl) (gives_value _ fun _ => by kernel_rfl) ?_
  refine L_val (.slice (some ⟨g1, 0, none⟩) 24 cap_1) (by rfl) (by rfl) (gives_loadS g3 0 #[.slice (some ⟨g1, 0, none⟩) 24 cap_1, .slice (some ⟨g2, 0, none⟩) 24 cap_1b] (.slice (some ⟨g1, 0, none⟩) 24 cap_1) (by rfl) (fun _ h => h.blk 4 (by rfl)) (by rfl) und_u32s) ?_
  refine L_val (.pointer (some ⟨g1, 0 + (0), none⟩)) (by rfl) (by rfl) (gives_index g1 0 (24) (cap_1) (0) (0) (by rfl) (by rfl) und_u32s u32_sz (by omega) (by omega)) ?_
  refine L_val (.int .u32 (((k0).a.val : Int) % 65536)) (by rfl) (by rfl) (gives_load1 g1 (0 + (0)) _ cs_1 (.int .u32 (((k0).a.val : Int) % 65536)) (by rfl) (fun _ h => h.blk 5 (by rfl)) (word0 hwb_1) und_u32) ?_
  refine L_val (.int .u32 ((((k0).a.val : Int) % 65536) % 2)) (by rfl) (by rfl) (gives_and (k := .u32) (((k0).a.val : Int) % 65536) 1 ((((k0).a.val : Int) % 65536) % 2) (by rfl) (by rfl) (and_one32 _ (by omega) (by omega))) ?_
  refine L_val (.bool (decide ((((k0).a.val : Int) % 65536) % 2 = 1))) (by rfl) (by rfl) (gives_ieq (k := .u32) ((((k0).a.val : Int) % 65536) % 2) (1) (decide ((((k0).a.val : Int) % 65536) % 2 = 1)) (by rfl) (by rfl) rfl) ?_
  refine L_val (.bool (decide ((((k0).a.val : Int) % 65536) % 2 = 1))) (by rfl) (by rfl) (gives_value _ fun _ => by rfl) ?_
  refine L_end ?_
  intro w8 hw8
  refine wp_seq ?_
  refine seq_plain hw8 [0, 1, 2] (by rfl) ?_
  refine L_val (.pointer (some ⟨g3, 0, none⟩)) (by rfl) (by rfl) (gives_value _ fun _ => by kernel_rfl) ?_
  refine L_val (.slice (some ⟨g1, 0, none⟩) 24 cap_1) (by rfl) (by rfl) (gives_loadS g3 0 #[.slice (some ⟨g1, 0, none⟩) 24 cap_1, .slice (some ⟨g2, 0, none⟩) 24 cap_1b] (.slice (some ⟨g1, 0, none⟩) 24 cap_1) (by rfl) (fun _ h => h.blk 4 (by rfl)) (by rfl) und_u32s) ?_
  refine L_val (.bool false) (by rfl) (by rfl) (gives_call (vl := [.slice (some ⟨g1, 0, none⟩) 24 cap_1, .slice none 0 0]) (by kernel_rfl) (by rfl) (fun w h => n_same0 w _ _ _ _ (hwb_1.num (h.blk 5 (by rfl)) (fv_rng _) (by omega)) false (decide_eq_false hza))) ?_
  refine L_end ?_
  intro w9 hw9
  refine wp_cond_false (fr_at _ _ (by rfl) _) ?_
  refine wp_skip ?_
  change Code.wp _ _ _ _ _
  refine seq_plain hw9 [0, 1, 2, 3] (by rfl) ?_
  refine L_val (.pointer (some ⟨g3, 1, none⟩)) (by rfl) (by rfl) (gives_value _ fun _ => by kernel_rfl) ?_
  refine L_val (.slice (some ⟨g2, 0, none⟩) 24 cap_1b) (by rfl) (by rfl) (gives_loadS g3 1 #[.slice (some ⟨g1, 0, none⟩) 24 cap_1, .slice (some ⟨g2, 0, none⟩) 24 cap_1b] (.slice (some ⟨g2, 0, none⟩) 24 cap_1b) (by rfl) (fun _ h => h.blk 4 (by rfl)) (by rfl) und_u32s) ?_
  refine L_val (.bool (decide (Mp < ((k0).b.val : Int) + ((k0).b.val : Int)))) (by rfl) (by rfl) (gives_call (vl := [.slice (some ⟨g2, 0, none⟩) 24 cap_1b]) (by kernel_rfl) (by rfl) (fun w h => n_large4 w _ _ _ (hwb_1b.num (h.blk 6 (by rfl)) (fv_rng _) (by omega)) (by omega))) ?_
  refine L_val (.bool (decide (Mp < ((k0).b.val : Int) + ((k0).b.val : Int)))) (by rfl) (by rfl) (gives_value _ fun _ => by rfl) ?_
  refine L_end ?_
  intro w10 hw10
  refine wp_seq ?_
  refine seq_plain hw10 [0, 1, 2] (by rfl) ?_
  refine L_val (.pointer (some ⟨g3, 1, none⟩)) (by rfl) (by rfl) (gives_value _ fun _ => by kernel_rfl) ?_
  refine L_val (.slice (some ⟨g2, 0, none⟩) 24 cap_1b) (by rfl) (by rfl) (gives_loadS g3 1 #[.slice (some ⟨g1, 0, none⟩) 24 cap_1, .slice (some ⟨g2, 0, none⟩) 24 cap_1b] (.slice (some ⟨g2, 0, none⟩) 24 cap_1b) (by rfl) (fun _ h => h.blk 4 (by rfl)) (by rfl) und_u32s) ?_
  refine L_val (.bool true) (by rfl) (by rfl) (gives_call (vl := [.slice (some ⟨g2, 0, none⟩) 24 cap_1b, .slice none 0 0]) (by kernel_rfl) (by rfl) (fun w h => n_same0 w _ _ _ _ (hwb_1b.num (h.blk 6 (by rfl)) (fv_rng _) (by omega)) true (decide_eq_true hzb))) ?_
  refine L_end ?_
  intro w11 hw11
  refine wp_cond_true (fr_at _ _ (by rfl) _) ?_
  refine one_plain hw11 [0, 1, 2, 3] (by rfl) ?_
  refine L_val (.pointer (some ⟨g3, 0, none⟩)) (by rfl) (by rfl) (gives_value _ fun _ => by kernel_rfl) ?_
  refine L_val (.slice (some ⟨g1, 0, none⟩) 24 cap_1) (by rfl) (by rfl) (gives_loadS g3 0 #[.slice (some ⟨g1, 0, none⟩) 24 cap_1, .slice (some ⟨g2, 0, none⟩) 24 cap_1b] (.slice (some ⟨g1, 0, none⟩) 24 cap_1) (by rfl) (fun _ h => h.blk 4 (by rfl)) (by rfl) und_u32s) ?_
  refine L_val (.bool (decide (Mp < ((k0).a.val : Int) + ((k0).a.val : Int)))) (by rfl) (by rfl) (gives_call (vl := [.slice (some ⟨g1, 0, none⟩) 24 cap_1]) (by kernel_rfl) (by rfl) (fun w h => n_large4 w _ _ _ (hwb_1.num (h.blk 5 (by rfl)) (fv_rng _) (by omega)) (by omega))) ?_
  refine L_val (.bool (decide (Mp < ((k0).a.val : Int) + ((k0).a.val : Int)))) (by rfl) (by rfl) (gives_value _ fun _ => by rfl) ?_
  refine L_end ?_
  intro w12 hw12
  change Code.wp _ _ _ _ _
  refine seq_plain hw12 [0, 1, 2, 3, 4, 5, 6, 7, 8, 9, 10] (by rfl) ?_
  refine L_val (.agg (c2 (k0))) (by rfl) (by rfl) (gives_load g4 0 30 (c2 (k0)) (c2 (k0)) _ (by rfl) (fun _ h => h.blk 3 (by rfl)) (Sl.refl _) Tryd.underlying30 (by rfl) (hi_2 _)) ?_
  refine L_val (.bool (F2.odd (k0))) (by rfl) (by rfl) (gives_call (vl := [.agg (c2 (k0))]) (by kernel_rfl) (by rfl) (fun w h => q_odd _ w (hG.keep h.below))) ?_
  refine L_val (.bool (decide ((((k0).a.val : Int) % 65536) % 2 = 1))) (by rfl) (by rfl) (gives_value _ fun _ => by rfl) ?_
  refine L_val (.bool true) (by rfl) (by rfl) (gives_eqbb _ _ (by rfl) (by rfl) (by rfl) (odd5_n _ hza)) ?_
  refine L_val (.bool true) (by rfl) (by rfl) (gives_value _ fun _ => by rfl) ?_
  refine L_val_g (dj := 84) (.agg (c2 (k0))) (by rfl) (by rfl) (by rfl) (by rfl) (by rfl) (gives_load g4 0 30 (c2 (k0)) (c2 (k0)) _ (by rfl) (fun _ h => h.blk 3 (by rfl)) (Sl.refl _) Tryd.underlying30 (by rfl) (hi_2 _)) ?_
  refine L_val_g (dj := 84) (.bool (F2.large (k0))) (by rfl) (by rfl) (by rfl) (by rfl) (by rfl) (gives_call (vl := [.agg (c2 (k0))]) (by kernel_rfl) (by rfl) (fun w h => q_large _ w (hG.keep h.below) (hU.keep h.below))) ?_
  refine L_val_g (dj := 84) (.bool (decide (Mp < ((k0).a.val : Int) + ((k0).a.val : Int)))) (by rfl) (by rfl) (by rfl) (by rfl) (by rfl) (gives_value _ fun _ => by rfl) ?_
  refine L_val_g (dj := 84) (.bool true) (by rfl) (by rfl) (by rfl) (by rfl) (by rfl) (gives_eqbb _ _ (by rfl) (by rfl) (by rfl) (large5_z _ hzb)) ?_
  refine L_val (.bool true) (by rfl) (by rfl) (gives_value _ fun _ => by rfl) ?_
  refine L_val (.bool true) (by rfl) (by rfl) (gives_value _ fun _ => by rfl) ?_
  refine L_end ?_
  intro w13 hw13
  refine wp_ret ?_
  change bodyPost _ _ _ Exit.ret _ _
  refine (ret_tmp (by rfl) (by rfl) (by rfl) ⟨rfl, hw13.below⟩)
set_option maxRecDepth 100000 in
set_option maxHeartbeats 4000000 in
theorem roots5_000 (A0 : Option Addr) (L0 C0 : Nat) (bs0 : List Int) (A1 : Option Addr) (L1 C1 : Nat) (bs1 : List Int) (v : World) (hG : Glo v) (hQ : GQp v) (hU : GUp v) (hr0 : Reads v v.heap.size A0 L0 (bs0.map (Value.int .u8))) (ho0 : Oct bs0) (hr1 : Reads v v.heap.size A1 L1 (bs1.map (Value.int .u8))) (ho1 : Oct bs1) (hs0 : L0 ≤ 64) (hs1 : L1 ≤ 64) (k0 : F2) (hk0 : k0 = (⟨Fp.n (num bs0), Fp.n (num bs1)⟩ : F2)) (hsq : ¬ F2.sq k0) (hza : ¬ k0.a = 0) (hzb : ¬ k0.b = 0) : Rets 5 #[.slice A0 L0 C0, .slice A1 L1 C1] v (.bool true) := by
  have hn0 : bs0.length = L0 := by simpa using hr0.1
  have hn1 : bs1.length = L1 := by simpa using hr1.1
  refine calls_fr2 Tryd.func5 rfl (by rfl : _ = 90) (by rfl) ?_
  have hw := Hbl.nil v
  refine seq_plain hw [0] (by rfl) ?_
  refine L_val (.bool false) (by rfl) (by rfl) (gives_value _ fun _ => by rfl) ?_
  refine L_end ?_
  intro w1 hw1
  refine wp_seq ?_
  refine seq_plain hw1 [0, 1] (by rfl) ?_
  refine L_val (.bool true) (by rfl) (by rfl) (gives_call (vl := []) (by kernel_rfl) (by rfl) (fun w h => q_head w (hG.keep h.below))) ?_
  refine L_val (.bool false) (by rfl) (by rfl) (gives_value _ fun _ => by rfl) ?_
  refine L_end ?_
  intro w2 hw2
  refine wp_cond_false (fr_at _ _ (by rfl) _) ?_
  refine wp_skip ?_
  change Code.wp _ _ _ _ _
  refine wp_seq ?_
  refine seq_plain hw2 [0, 1, 2] (by rfl) ?_
  refine L_val (.slice A0 L0 C0) (by rfl) (by rfl) (gives_value _ fun _ => by rfl) ?_
  refine L_val (.slice A1 L1 C1) (by rfl) (by rfl) (gives_value _ fun _ => by rfl) ?_
  refine L_val (.bool false) (by rfl) (by rfl) (gives_call (vl := [.slice A0 L0 C0, .slice A1 L1 C1, .slice none 0 0, .slice none 0 0]) (by kernel_rfl) (by rfl) (fun w h => long_no _ _ _ _ _ _ none 0 0 none 0 0 w (by omega) (by omega) (by omega) (by omega))) ?_
  refine L_end ?_
  intro w3 hw3
  refine wp_cond_false (fr_at _ _ (by rfl) _) ?_
  refine wp_skip ?_
  change Code.wp _ _ _ _ _
  refine seq_plain hw3 [0, 1, 2, 3, 4, 5, 6, 7, 8, 9] (by rfl) ?_
  refine L_val (.slice A0 L0 C0) (by rfl) (by rfl) (gives_value _ fun _ => by rfl) ?_
  refine L_val (.slice A1 L1 C1) (by rfl) (by rfl) (gives_value _ fun _ => by rfl) ?_
  refine L_freshY (vl := [.slice A0 L0 C0, .slice A1 L1 C1]) 61 61 (fun g cap g2 cap2 => .tuple #[.agg #[.slice (some ⟨g, 0, none⟩) 24 cap, .slice (some ⟨g2, 0, none⟩) 24 cap2], .agg (c2 (k0))]) (fun cap cs cap2 cs2 => WB cs cap 24 ((k0).a.val : Int) ∧ WB cs2 cap2 24 ((k0).b.val : Int)) (by rfl) (by rfl) Want.none (by kernel_rfl) (by rfl)  (fun w h => by rw [hk0]; exact l5_number A0 L0 C0 bs0 A1 L1 C1 bs1 w (hG.keep h.below) ((hr0.below h.below).more h.below.size) ho0 ((hr1.below h.below).more h.below.size) ho1 (by omega) (by omega)) ?_; intro g1 cap_1 cs_1 g2 cap_1b cs_1b hq_1; obtain ⟨hwb_1, hwb_1b⟩ := hq_1
  refine L_val (.tuple #[.agg #[.slice (some ⟨g1, 0, none⟩) 24 cap_1, .slice (some ⟨g2, 0, none⟩) 24 cap_1b], .agg (c2 (k0))]) (by rfl) (by rfl) (gives_value _ fun _ => by rfl) ?_
  refine L_val (.agg #[.slice (some ⟨g1, 0, none⟩) 24 cap_1, .slice (some ⟨g2, 0, none⟩) 24 cap_1b]) (by rfl) (by rfl) (gives_value _ fun _ => by kernel_rfl) ?_
  refine L_val (.agg (c2 (k0))) (by rfl) (by rfl) (gives_value _ fun _ => by kernel_rfl) ?_
  refine L_alloc _ (by rfl) (by rfl) z_N #[.slice none 0 0, .slice none 0 0] rfl ?_; intro g3
  refine L_alloc _ (by rfl) (by rfl) z_2 (c2 (0 : F2)) rfl ?_; intro g4
  refine L_store (t := 46) 1 g3 #[.slice none 0 0, .slice none 0 0] #[.slice (some ⟨g1, 0, none⟩) 24 cap_1, .slice (some ⟨g2, 0, none⟩) 24 cap_1b] (by rfl) (by rfl) (by rfl) (by rfl) (by rfl) (hi_NN _ _) (by rfl) (one_N (by rfl) (by rfl)) ?_
  simp only [List.set_cons_zero, List.set_cons_succ]
  refine L_store (t := 30) 0 g4 (c2 (0 : F2)) (c2 (k0)) (by rfl) (by rfl) (by rfl) (by rfl) (by rfl) (hi_2 _) ((c2_size _).trans (c2_size _).symm) (c2_one _) ?_
  simp only [List.set_cons_zero, List.set_cons_succ]
  refine L_end ?_
  intro w4 hw4
  refine seq_plain hw4 [0, 1, 2, 3, 4, 5, 6, 7] (by rfl) ?_
  refine L_val (.agg #[.slice (some ⟨g1, 0, none⟩) 24 cap_1, .slice (some ⟨g2, 0, none⟩) 24 cap_1b]) (by rfl) (by rfl) (gives_load g3 0 46 #[.slice (some ⟨g1, 0, none⟩) 24 cap_1, .slice (some ⟨g2, 0, none⟩) 24 cap_1b] #[.slice (some ⟨g1, 0, none⟩) 24 cap_1, .slice (some ⟨g2, 0, none⟩) 24 cap_1b] _ (by rfl) (fun _ h => h.blk 1 (by rfl)) (Sl.refl _) Tryd.underlying46 (by rfl) (hi_NN _ _)) ?_
  refine L_freshW (vl := [.agg #[.slice (some ⟨g1, 0, none⟩) 24 cap_1, .slice (some ⟨g2, 0, none⟩) 24 cap_1b]]) (24) (((F2.norm (k0)).val : Int)) (by rfl) (by rfl) (by kernel_rfl) (by rfl) (fun w h => l5_norm (k0) _ _ _ _ _ _ w (hwb_1.num (h.blk 2 (by rfl)) (fv_rng _) (by omega)) (hwb_1b.num (h.blk 3 (by rfl)) (fv_rng _) (by omega)) (by omega) (by omega)) ?_; intro g5 cap_2 cs_2 hwb_2
  refine L_freshU (vl := [.slice (some ⟨g5, 0, none⟩) (24) cap_2]) (fun g cap => .tuple #[.slice (some ⟨g, 0, none⟩) 24 cap, .bool false]) (24) ((((F2.norm (k0)).val : Int)) ^ Qp % Mp) (by rfl) (by rfl) (by kernel_rfl) (by rfl) (fun w h => n_sqrt4_f w _ _ _ (hwb_2.num (h.blk 0 (by rfl)) (fv_rng _) (by omega)) (fun e => hsq ((sq5 _).1 e))) ?_; intro g6 cap_3 cs_3 hwb_3
  refine L_val (.tuple #[.slice (some ⟨g6, 0, none⟩) 24 cap_3, .bool false]) (by rfl) (by rfl) (gives_value _ fun _ => by rfl) ?_
  refine L_val (.slice (some ⟨g6, 0, none⟩) 24 cap_3) (by rfl) (by rfl) (gives_value _ fun _ => by kernel_rfl) ?_
  refine L_val (.bool false) (by rfl) (by rfl) (gives_value _ fun _ => by kernel_rfl) ?_
  refine L_val (.slice (some ⟨g6, 0, none⟩) 24 cap_3) (by rfl) (by rfl) (gives_value _ fun _ => by rfl) ?_
  refine L_val (.bool false) (by rfl) (by rfl) (gives_value _ fun _ => by rfl) ?_
  refine L_end ?_
  intro w5 hw5
  refine seq_plain hw5 [0, 1, 2, 3, 4, 5, 6, 7] (by rfl) ?_
  refine L_val (.agg (c2 (k0))) (by rfl) (by rfl) (gives_load g4 0 30 (c2 (k0)) (c2 (k0)) _ (by rfl) (fun _ h => h.blk 2 (by rfl)) (Sl.refl _) Tryd.underlying30 (by rfl) (hi_2 _)) ?_
  refine L_val (.tuple #[.agg (c2 (0 : F2)), .bool false]) (by rfl) (by rfl) (gives_call (vl := [.agg (c2 (k0))]) (by kernel_rfl) (by rfl) (fun w h => q_sqrt_no _ w (hG.keep h.below) (hQ.keep h.below) hsq)) ?_
  refine L_val (.tuple #[.agg (c2 (0 : F2)), .bool false]) (by rfl) (by rfl) (gives_value _ fun _ => by rfl) ?_
  refine L_val (.agg (c2 (0 : F2))) (by rfl) (by rfl) (gives_value _ fun _ => by kernel_rfl) ?_
  refine L_val (.bool false) (by rfl) (by rfl) (gives_value _ fun _ => by kernel_rfl) ?_
  refine L_alloc _ (by rfl) (by rfl) z_2 (c2 (0 : F2)) rfl ?_; intro g7
  refine L_store (t := 30) 0 g7 (c2 (0 : F2)) (c2 (0 : F2)) (by rfl) (by rfl) (by rfl) (by rfl) (by rfl) (hi_2 _) ((c2_size _).trans (c2_size _).symm) (c2_one _) ?_
  simp only [List.set_cons_zero, List.set_cons_succ]
  refine L_val (.bool false) (by rfl) (by rfl) (gives_value _ fun _ => by rfl) ?_
  refine L_end ?_
  intro w6 hw6
  refine wp_seq ?_
  refine seq_flow (by kernel_rfl) hw6 [] [(g7, 30, (c2 (0 : F2))), (g6, 61, cs_3), (g5, 61, cs_2), (g4, 30, (c2 (k0))), (g3, 46, #[.slice (some ⟨g1, 0, none⟩) 24 cap_1, .slice (some ⟨g2, 0, none⟩) 24 cap_1b]), (g1, 61, cs_1), (g2, 61, cs_1b)] 21 (by rfl) ?_
  refine flow_take (i := 0) (.bool false) (by rfl) (by kernel_rfl) (by kernel_rfl) (by kernel_rfl) (by rfl) (by kernel_rfl) (List.Sublist.refl _) (gives_value _ fun _ => by rfl) ?_
  refine flow_take (i := 1) (.bool false) (by rfl) (by kernel_rfl) (by kernel_rfl) (by kernel_rfl) (by rfl) (by kernel_rfl) (List.Sublist.refl _) (gives_value _ fun _ => by rfl) ?_
  refine flow_take (i := 2) (.bool false) (by rfl) (by kernel_rfl) (by kernel_rfl) (by kernel_rfl) (by rfl) (by kernel_rfl) (List.Sublist.refl _) (gives_value _ fun _ => by rfl) ?_
  refine flow_take (i := 3) (.bool false) (by rfl) (by kernel_rfl) (by kernel_rfl) (by kernel_rfl) (by rfl) (by kernel_rfl) (List.Sublist.refl _) (gives_value _ fun _ => by rfl) ?_
  refine flow_take_g (i := 4) (dj := 38) (.bool false) (by rfl) (by kernel_rfl) (by kernel_rfl) (by kernel_rfl) (by rfl) (by kernel_rfl) (List.Sublist.refl _) (by rfl) (by rfl) (by rfl) (gives_value _ fun _ => by rfl) ?_
  refine flow_take_g (i := 5) (dj := 38) (.bool false) (by rfl) (by kernel_rfl) (by kernel_rfl) (by kernel_rfl) (by rfl) (by kernel_rfl) (List.Sublist.refl _) (by rfl) (by rfl) (by rfl) (gives_value _ fun _ => by rfl) ?_
  refine flow_skip (i := 6) (dj := 40) (by rfl) (by kernel_rfl) (by kernel_rfl) (by kernel_rfl) (by rfl) (by kernel_rfl) (List.Sublist.refl _) (by rfl) (by rfl) (by rfl) ?_
  refine flow_skip (i := 7) (dj := 40) (by rfl) (by kernel_rfl) (by kernel_rfl) (by kernel_rfl) (by rfl) (by kernel_rfl) (List.Sublist.refl _) (by rfl) (by rfl) (by rfl) ?_
  refine flow_skip (i := 8) (dj := 40) (by rfl) (by kernel_rfl) (by kernel_rfl) (by kernel_rfl) (by rfl) (by kernel_rfl) (List.Sublist.refl _) (by rfl) (by rfl) (by rfl) ?_
  refine flow_skip (i := 9) (dj := 40) (by rfl) (by kernel_rfl) (by kernel_rfl) (by kernel_rfl) (by rfl) (by kernel_rfl) (List.Sublist.refl _) (by rfl) (by rfl) (by rfl) ?_
  refine flow_take_g (i := 10) (dj := 38) (.bool false) (by rfl) (by kernel_rfl) (by kernel_rfl) (by kernel_rfl) (by rfl) (by kernel_rfl) (List.Sublist.refl _) (by rfl) (by rfl) (by rfl) (gives_value _ fun _ => by rfl) ?_
  refine flow_take (i := 11) (.bool false) (by rfl) (by kernel_rfl) (by kernel_rfl) (by kernel_rfl) (by rfl) (by kernel_rfl) (List.Sublist.refl _) (gives_value _ fun _ => by rfl) ?_
  refine flow_take (i := 12) (.bool false) (by rfl) (by kernel_rfl) (by kernel_rfl) (by kernel_rfl) (by rfl) (by kernel_rfl) (List.Sublist.refl _) (gives_value _ fun _ => by rfl) ?_
  refine flow_take_g (i := 13) (dj := 47) (.bool false) (by rfl) (by kernel_rfl) (by kernel_rfl) (by kernel_rfl) (by rfl) (by kernel_rfl) (List.Sublist.refl _) (by rfl) (by rfl) (by rfl) (gives_value _ fun _ => by rfl) ?_
  refine flow_take_g (i := 14) (dj := 47) (.bool true) (by rfl) (by kernel_rfl) (by kernel_rfl) (by kernel_rfl) (by rfl) (by kernel_rfl) (List.Sublist.refl _) (by rfl) (by rfl) (by rfl) (gives_value _ fun _ => by rfl) ?_
  refine flow_take_g (i := 15) (dj := 47) (.bool true) (by rfl) (by kernel_rfl) (by kernel_rfl) (by kernel_rfl) (by rfl) (by kernel_rfl) (List.Sublist.refl _) (by rfl) (by rfl) (by rfl) (gives_value _ fun _ => by rfl) ?_
  refine flow_take_g (i := 16) (dj := 50) (.agg (c2 (0 : F2))) (by rfl) (by kernel_rfl) (by kernel_rfl) (by kernel_rfl) (by rfl) (by kernel_rfl) (List.Sublist.refl _) (by rfl) (by rfl) (by rfl) (gives_load g7 0 30 (c2 (0 : F2)) (c2 (0 : F2)) _ (by rfl) (fun _ h => h.blk 0 (by rfl)) (Sl.refl _) Tryd.underlying30 (by rfl) (hi_2 _)) ?_
  refine flow_one 17 (by kernel_rfl) ?_
  refine F_val (vl := [.agg (c2 (0 : F2))]) (.bool true) (by rfl) (by rfl) (Want.some (dj := 50) (by rfl) (by rfl) (by rfl) (by rfl)) (by kernel_rfl) (by rfl) (List.Sublist.refl _) (fun w h => q_zero_t w (hG.keep h.below) rfl) ?_
  refine flow_take_g (i := 18) (dj := 50) (.bool false) (by rfl) (by kernel_rfl) (by kernel_rfl) (by kernel_rfl) (by rfl) (by kernel_rfl) (List.Sublist.refl _) (by rfl) (by rfl) (by rfl) (gives_value _ fun _ => by rfl) ?_
  refine flow_take_g (i := 19) (dj := 47) (.bool false) (by rfl) (by kernel_rfl) (by kernel_rfl) (by kernel_rfl) (by rfl) (by kernel_rfl) (List.Sublist.refl _) (by rfl) (by rfl) (by rfl) (gives_value _ fun _ => by rfl) ?_
  refine flow_take (i := 20) (.bool false) (by rfl) (by kernel_rfl) (by kernel_rfl) (by kernel_rfl) (by rfl) (by kernel_rfl) (List.Sublist.refl _) (gives_value _ fun _ => by rfl) ?_
  refine flow_done (by kernel_rfl) ?_
  intro w7 hw7
  refine wp_cond_false (fr_at _ _ (by rfl) _) ?_
  refine wp_skip ?_
  change Code.wp _ _ _ _ _
  refine seq_plain hw7 [0, 1, 2, 3, 4, 5, 6] (by rfl) ?_
  refine L_val (.pointer (some ⟨g3, 0, none⟩)) (by rfl) (by rfl) (gives_value _ fun _ => by kernel_rfl) ?_
  refine L_val (.slice (some ⟨g1, 0, none⟩) 24 cap_1) (by rfl) (by rfl) (gives_loadS g3 0 #[.slice (some ⟨g1, 0, none⟩) 24 cap_1, .slice (some ⟨g2, 0, none⟩) 24 cap_1b] (.slice (some ⟨g1, 0, none⟩) 24 cap_1) (by rfl) (fun _ h => h.blk 4 (by rfl)) (by rfl) und_u32s) ?_
  refine L_val (.pointer (some ⟨g1, 0 + (0), none⟩)) (by rfl) (by rfl) (gives_index g1 0 (24) (cap_1) (0) (0) (by rfl) (by rfl) und_u32s u32_sz (by omega) (by omega)) ?_
  refine L_val (.int .u32 (((k0).a.val : Int) % 65536)) (by rfl) (by rfl) (gives_load1 g1 (0 + (0)) _ cs_1 (.int .u32 (((k0).a.val : Int) % 65536)) (by rfl) (fun _ h => h.blk 5 (by rfl)) (word0 hwb_1) und_u32) ?_
  refine L_val (.int .u32 ((((k0).a.val : Int) % 65536) % 2)) (by rfl) (by rfl) (gives_and (k := .u32) (((k0).a.val : Int) % 65536) 1 ((((k0).a.val : Int) % 65536) % 2) (by rfl) (by rfl) (and_one32 _ (by omega) (by omega))) ?_
  refine L_val (.bool (decide ((((k0).a.val : Int) % 65536) % 2 = 1))) (by rfl) (by rfl) (gives_ieq (k := .u32) ((((k0).a.val : Int) % 65536) % 2) (1) (decide ((((k0).a.val : Int) % 65536) % 2 = 1)) (by rfl) (by rfl) rfl) ?_
  refine L_val (.bool (decide ((((k0).a.val : Int) % 65536) % 2 = 1))) (by rfl) (by rfl) (gives_value _ fun _ => by rfl) ?_
  refine L_end ?_
  intro w8 hw8
  refine wp_seq ?_
  refine seq_plain hw8 [0, 1, 2] (by rfl) ?_
  refine L_val (.pointer (some ⟨g3, 0, none⟩)) (by rfl) (by rfl) (gives_value _ fun _ => by kernel_rfl) ?_
  refine L_val (.slice (some ⟨g1, 0, none⟩) 24 cap_1) (by rfl) (by rfl) (gives_loadS g3 0 #[.slice (some ⟨g1, 0, none⟩) 24 cap_1, .slice (some ⟨g2, 0, none⟩) 24 cap_1b] (.slice (some ⟨g1, 0, none⟩) 24 cap_1) (by rfl) (fun _ h => h.blk 4 (by rfl)) (by rfl) und_u32s) ?_
  refine L_val (.bool false) (by rfl) (by rfl) (gives_call (vl := [.slice (some ⟨g1, 0, none⟩) 24 cap_1, .slice none 0 0]) (by kernel_rfl) (by rfl) (fun w h => n_same0 w _ _ _ _ (hwb_1.num (h.blk 5 (by rfl)) (fv_rng _) (by omega)) false (decide_eq_false hza))) ?_
  refine L_end ?_
  intro w9 hw9
  refine wp_cond_false (fr_at _ _ (by rfl) _) ?_
  refine wp_skip ?_
  change Code.wp _ _ _ _ _
  refine seq_plain hw9 [0, 1, 2, 3] (by rfl) ?_
  refine L_val (.pointer (some ⟨g3, 1, none⟩)) (by rfl) (by rfl) (gives_value _ fun _ => by kernel_rfl) ?_
  refine L_val (.slice (some ⟨g2, 0, none⟩) 24 cap_1b) (by rfl) (by rfl) (gives_loadS g3 1 #[.slice (some ⟨g1, 0, none⟩) 24 cap_1, .slice (some ⟨g2, 0, none⟩) 24 cap_1b] (.slice (some ⟨g2, 0, none⟩) 24 cap_1b) (by rfl) (fun _ h => h.blk 4 (by rfl)) (by rfl) und_u32s) ?_
  refine L_val (.bool (decide (Mp < ((k0).b.val : Int) + ((k0).b.val : Int)))) (by rfl) (by rfl) (gives_call (vl := [.slice (some ⟨g2, 0, none⟩) 24 cap_1b]) (by kernel_rfl) (by rfl) (fun w h => n_large4 w _ _ _ (hwb_1b.num (h.blk 6 (by rfl)) (fv_rng _) (by omega)) (by omega))) ?_
  refine L_val (.bool (decide (Mp < ((k0).b.val : Int) + ((k0).b.val : Int)))) (by rfl) (by rfl) (gives_value _ fun _ => by rfl) ?_
  refine L_end ?_
  intro w10 hw10
  refine wp_seq ?_
  refine seq_plain hw10 [0, 1, 2] (by rfl) ?_
  refine L_val (.pointer (some ⟨g3, 1, none⟩)) (by rfl) (by rfl) (gives_value _ fun _ => by kernel_rfl) ?_
  refine L_val (.slice (some ⟨g2, 0, none⟩) 24 cap_1b) (by rfl) (by rfl) (gives_loadS g3 1 #[.slice (some ⟨g1, 0, none⟩) 24 cap_1, .slice (some ⟨g2, 0, none⟩) 24 cap_1b] (.slice (some ⟨g2, 0, none⟩) 24 cap_1b) (by rfl) (fun _ h => h.blk 4 (by rfl)) (by rfl) und_u32s) ?_
  refine L_val (.bool false) (by rfl) (by rfl) (gives_call (vl := [.slice (some ⟨g2, 0, none⟩) 24 cap_1b, .slice none 0 0]) (by kernel_rfl) (by rfl) (fun w h => n_same0 w _ _ _ _ (hwb_1b.num (h.blk 6 (by rfl)) (fv_rng _) (by omega)) false (decide_eq_false hzb))) ?_
  refine L_end ?_
  intro w11 hw11
  refine wp_cond_false (fr_at _ _ (by rfl) _) ?_
  refine wp_skip ?_
  change Code.wp _ _ _ _ _
  refine seq_plain hw11 [0, 1, 2, 3, 4, 5, 6, 7, 8, 9, 10] (by rfl) ?_
  refine L_val (.agg (c2 (k0))) (by rfl) (by rfl) (gives_load g4 0 30 (c2 (k0)) (c2 (k0)) _ (by rfl) (fun _ h => h.blk 3 (by rfl)) (Sl.refl _) Tryd.underlying30 (by rfl) (hi_2 _)) ?_
  refine L_val (.bool (F2.odd (k0))) (by rfl) (by rfl) (gives_call (vl := [.agg (c2 (k0))]) (by kernel_rfl) (by rfl) (fun w h => q_odd _ w (hG.keep h.below))) ?_
  refine L_val (.bool (decide ((((k0).a.val : Int) % 65536) % 2 = 1))) (by rfl) (by rfl) (gives_value _ fun _ => by rfl) ?_
  refine L_val (.bool true) (by rfl) (by rfl) (gives_eqbb _ _ (by rfl) (by rfl) (by rfl) (odd5_n _ hza)) ?_
  refine L_val (.bool true) (by rfl) (by rfl) (gives_value _ fun _ => by rfl) ?_
  refine L_val_g (dj := 84) (.agg (c2 (k0))) (by rfl) (by rfl) (by rfl) (by rfl) (by rfl) (gives_load g4 0 30 (c2 (k0)) (c2 (k0)) _ (by rfl) (fun _ h => h.blk 3 (by rfl)) (Sl.refl _) Tryd.underlying30 (by rfl) (hi_2 _)) ?_
  refine L_val_g (dj := 84) (.bool (F2.large (k0))) (by rfl) (by rfl) (by rfl) (by rfl) (by rfl) (gives_call (vl := [.agg (c2 (k0))]) (by kernel_rfl) (by rfl) (fun w h => q_large _ w (hG.keep h.below) (hU.keep h.below))) ?_
  refine L_val_g (dj := 84) (.bool (decide (Mp < ((k0).b.val : Int) + ((k0).b.val : Int)))) (by rfl) (by rfl) (by rfl) (by rfl) (by rfl) (gives_value _ fun _ => by rfl) ?_
  refine L_val_g (dj := 84) (.bool true) (by rfl) (by rfl) (by rfl) (by rfl) (by rfl) (gives_eqbb _ _ (by rfl) (by rfl) (by rfl) (large5_n _ hzb)) ?_
  refine L_val (.bool true) (by rfl) (by rfl) (gives_value _ fun _ => by rfl) ?_
  refine L_val (.bool true) (by rfl) (by rfl) (gives_value _ fun _ => by rfl) ?_
  refine L_end ?_
  intro w12 hw12
  refine wp_ret ?_
  change bodyPost _ _ _ Exit.ret _ _
  refine (ret_tmp (by rfl) (by rfl) (by rfl) ⟨rfl, hw12.below⟩)
theorem roots5_any (A0 : Option Addr) (L0 C0 : Nat) (bs0 : List Int) (A1 : Option Addr) (L1 C1 : Nat) (bs1 : List Int) (v : World) (hG : Glo v) (hQ : GQp v) (hU : GUp v) (hr0 : Reads v v.heap.size A0 L0 (bs0.map (Value.int .u8))) (ho0 : Oct bs0) (hr1 : Reads v v.heap.size A1 L1 (bs1.map (Value.int .u8))) (ho1 : Oct bs1) : Rets 5 #[.slice A0 L0 C0, .slice A1 L1 C1] v (.bool true) := by
  by_cases hlong : 64 < L0 ∨ 64 < L1
  · exact roots5_long A0 L0 C0 bs0 A1 L1 C1 bs1 v hG hQ hU hr0 ho0 hr1 ho1 hlong
  · obtain ⟨k0, hk0⟩ : ∃ k : F2, k = (⟨Fp.n (num bs0), Fp.n (num bs1)⟩ : F2) := ⟨_, rfl⟩
    rcases Classical.em (F2.sq k0) with hsq | hsq <;> rcases Classical.em (k0.a = 0) with hza | hza <;> rcases Classical.em (k0.b = 0) with hzb | hzb
    · exact roots5_111 A0 L0 C0 bs0 A1 L1 C1 bs1 v hG hQ hU hr0 ho0 hr1 ho1 (by omega) (by omega) k0 hk0 hsq hza hzb
    · exact roots5_110 A0 L0 C0 bs0 A1 L1 C1 bs1 v hG hQ hU hr0 ho0 hr1 ho1 (by omega) (by omega) k0 hk0 hsq hza hzb
    · exact roots5_101 A0 L0 C0 bs0 A1 L1 C1 bs1 v hG hQ hU hr0 ho0 hr1 ho1 (by omega) (by omega) k0 hk0 hsq hza hzb
    · exact roots5_100 A0 L0 C0 bs0 A1 L1 C1 bs1 v hG hQ hU hr0 ho0 hr1 ho1 (by omega) (by omega) k0 hk0 hsq hza hzb
    · exact roots5_011 A0 L0 C0 bs0 A1 L1 C1 bs1 v hG hQ hU hr0 ho0 hr1 ho1 (by omega) (by omega) k0 hk0 hsq hza hzb
    · exact roots5_010 A0 L0 C0 bs0 A1 L1 C1 bs1 v hG hQ hU hr0 ho0 hr1 ho1 (by omega) (by omega) k0 hk0 hsq hza hzb
    · exact roots5_001 A0 L0 C0 bs0 A1 L1 C1 bs1 v hG hQ hU hr0 ho0 hr1 ho1 (by omega) (by omega) k0 hk0 hsq hza hzb
    · exact roots5_000 A0 L0 C0 bs0 A1 L1 C1 bs1 v hG hQ hU hr0 ho0 hr1 ho1 (by omega) (by omega) k0 hk0 hsq hza hzb

end Go.Proofs.YthfdohhglnhonaaDoor
