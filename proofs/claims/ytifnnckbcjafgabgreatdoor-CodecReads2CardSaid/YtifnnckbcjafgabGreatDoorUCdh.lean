import Derived.Test.YtifnnckbcjafgabGreatDoorUCdg2
import Derived.Test.YtifnnckbcjafgabGreatDoorUTw
namespace Go.Proofs.YtifnnckbcjafgabGreatDoor
set_option linter.unusedSimpArgs false
set_option linter.unusedVariables false
open Go.RowKit
def or8 (a b : Int) : Int := ((a.toNat ||| b.toNat : Nat) : Int)
theorem or8_ok {a b : Int} (h : 0 ≤ a ∧ a < 256) (k : 0 ≤ b ∧ b < 256) : IntKind.u8.wrap (((a % 2 ^ IntKind.u8.bits).toNat ||| (b % 2 ^ IntKind.u8.bits).toNat : Nat) : Int) = or8 a b := by
 have e : (2 : Int) ^ IntKind.u8.bits = 256 := by decide
 have e1 : (a % 2 ^ IntKind.u8.bits).toNat = a.toNat := by rw [e]; omega
 have e2 : (b % 2 ^ IntKind.u8.bits).toNat = b.toNat := by rw [e]; omega
 have hl : a.toNat ||| b.toNat < 2 ^ 8 := Nat.or_lt_two_pow (by omega) (by omega)
 have h2 : 2 ^ 8 = 256 := rfl
 rw [e1, e2]
 simp [IntKind.wrap, IntKind.bits, IntKind.signed, or8]
 omega
theorem oct_app {a b : List Int} (h : Oct a) (k : Oct b) : Oct (a ++ b) := fun x hx => (List.mem_append.1 hx).elim (h x) (k x)
theorem ag_len {n : Nat} (l : List Int) (h : l.length = n) : (ag8 l).size = n := by rw [ag8_size, h]
theorem hi_ag48 (l : List Int) (h : l.length = 48) : (Tryz.prog.info? 66).map (·.size) = some (ag8 l).size := by rw [ag_len l h]; kernel_rfl
theorem hi_ag96 (l : List Int) (h : l.length = 96) : (Tryz.prog.info? 68).map (·.size) = some (ag8 l).size := by rw [ag_len l h]; kernel_rfl
theorem ag_val (l : List Int) (i : Nat) (v : Int) (h : i < l.length) (e : gt l i = v) : (ag8 l)[i]? = some (Value.int .u8 v) := by rw [ag8_at l i h, e]
def sh1 (p : Pt Fp) : List Int := (lo ((p).x.val : Int) 48).set 0 (or8 (gt (lo ((p).x.val : Int) 48) 0) (if p = 0 then 192 else if lg1 (p).y = true then 160 else 128))
def sh2 (p : Pt F2) : List Int := (lo ((p).x.b.val : Int) 48 ++ lo ((p).x.a.val : Int) 48).set 0 (or8 (gt (lo ((p).x.b.val : Int) 48 ++ lo ((p).x.a.val : Int) 48) 0) (if p = 0 then 192 else if lg2 (p).y = true then 160 else 128))
theorem sh1_len (p : Pt Fp) : (sh1 p).length = 48 := by simp [sh1, lo_len]
theorem sh2_len (p : Pt F2) : (sh2 p).length = 96 := by simp [sh2, lo_len]
attribute [local irreducible] wpL wpF fr Code.wp bodyPost
set_option maxRecDepth 100000 in
set_option maxHeartbeats 4000000 in
theorem cd_G1 (p : Pt Fp) (v : World) (hG : Glo v) (hU : GUp v) : Rets 43 #[.agg (cg1 p)] v (.agg (ag8 (sh1 p))) := by
 refine calls_fr1 Tryz.func43 rfl (by rfl : _ = 19) (by rfl) ?_
 have hw := Hbl.nil v
 refine seq_plain hw [0, 1] (by rfl) ?_
 refine L_box (.agg (cg1 (p))) (by rfl) (by rfl) (by rfl) (cg1 (p)) (by rfl) ?_; intro g1
 refine L_alloc _ (by rfl) (by rfl) z_b48 (b48c (0 : Int)) rfl ?_; intro g2
 refine L_end ?_
 intro w1 hw1
 refine seq_plain hw1 [0, 1, 2, 3, 4] (by rfl) ?_
 refine L_val (.pointer (some ⟨g1, 0, none⟩)) (by rfl) (by rfl) gk ?_
 refine L_val (.agg (pc ((p).x))) (by rfl) (by rfl) (gives_load g1 0 31 (cg1 (p)) (pc ((p).x)) _ (by rfl) (fun _ h => h.blk 1 (by rfl)) (sl_g1x (p) _ _ (Sl.refl _)) Tryz.underlying29 (by rfl) (hi_1 _)) ?_
 refine L_val (.agg (ag8 (lo ((p).x.val : Int) 48))) (by rfl) (by rfl) (gives_call (vl := [.agg (pc ((p).x))]) (by kernel_rfl) (by rfl) (fun w h => v_bytes _ w (hG.keep h.below))) ?_
 refine L_alloc _ (by rfl) (by rfl) z_b48 (b48c (0 : Int)) rfl ?_; intro g3
 refine L_store (t := 66) 0 g3 (b48c (0 : Int)) (ag8 (lo ((p).x.val : Int) 48)) (by rfl) (by rfl) (by rfl) (by rfl) (by rfl) (hi_ag48 _ (by simp [lo_len])) ((ag_len _ (by simp [lo_len])).trans (b48c_size _).symm) (ag8_one _) ?_
 simp only [List.set_cons_zero, List.set_cons_succ]
 refine L_end ?_
 intro w2 hw2
 by_cases hf0 : p = 0
 ·
  by_cases hf1 : lg1 (p).y = true
  ·
   refine seq_flow (by kernel_rfl) hw2 [11] [(g3, 66, (ag8 (lo ((p).x.val : Int) 48))), (g2, 66, (b48c (0 : Int))), (g1, 31, (cg1 (p)))] 12 (by rfl) ?_
   refine fT (i := 0) (u := (.pointer (some ⟨g3, 0 + (0), none⟩))) (g := gk) (h := ?_)
   refine fT (i := 1) (u := (.int .u8 (gt (lo ((p).x.val : Int) 48) 0))) (g := (gives_load1 g3 (0 + (0)) _ (ag8 (lo ((p).x.val : Int) 48)) (.int .u8 (gt (lo ((p).x.val : Int) 48) 0)) (by rfl) (fun _ h => h.blk 0 (by rfl)) (ag8_at _ _ (by simp [lo_len])) und_u8')) (h := ?_)
   refine fT (i := 2) (g := (gL g1 31 (cg1 (p)) 2 Tryz.underlying31 (hi_g1 _))) (h := ?_)
   refine fT (i := 3) (u := (.agg (cg1 (0 : Pt Fp)))) (g := (gb_g1 [] trivial (by rfl) (cg1 (0 : Pt Fp)) (by rfl))) (h := ?_)
   refine fT (i := 4) (u := (.bool true)) (g := (gives_eql (cg1 (p)) (cg1 (0 : Pt Fp)) true (by rfl) (by rfl) (by kernel_rfl) (fun w => eq_g1_t (d := 9996) w hf0))) (h := ?_)
   refine fT (i := 5) (u := (.pointer (some ⟨g1, 6, none⟩))) (g := gk) (h := ?_)
   refine fT (i := 6) (g := (gives_load g1 6 31 (cg1 (p)) (pc ((p).y)) _ (by rfl) (fun _ h => h.blk 2 (by rfl)) (sl_g1y (p) _ _ 6 (Sl.refl _) (by rfl)) Tryz.underlying29 (by rfl) (hi_1 _))) (h := ?_)
   refine fT (i := 7) (g := (gives_call (vl := [.agg (pc ((p).y))]) (by kernel_rfl) (by rfl) (fun w h => lr1_t _ w (hG.keep h.below) (hU.keep h.below) hf1))) (h := ?_)
   refine fT (i := 8) (g := (gives_call (vl := [.bool true, .bool true]) (by kernel_rfl) (by rfl) (fun w h => cd_short_tt w))) (h := ?_)
   refine fT (i := 9) (u := (.int .u8 (or8 (gt (lo ((p).x.val : Int) 48) 0) 192))) (g := (gives_or (k := .u8) (gt (lo ((p).x.val : Int) 48) 0) (192) (or8 (gt (lo ((p).x.val : Int) 48) 0) 192) (by rfl) (by rfl) (or8_ok (gt_oct (lo_oct _ _) _) (by decide)))) (h := ?_)
   refine fT (i := 10) (u := (.pointer (some ⟨g3, 0 + (0), none⟩))) (g := gk) (h := ?_)
   refine flow_one 11 (by kernel_rfl) ?_
   refine F_store1 0 g3 (0 + (0)) _ (ag8 (lo ((p).x.val : Int) 48)) (.int .u8 (or8 (gt (lo ((p).x.val : Int) 48) 0) 192)) (by rfl) (by rfl) (by rfl) (by rfl) rfl (by rfl) u8_sz (by rw [ag_len _ (by simp [lo_len] : _ = 48)]; decide) (.inl (by decide)) ?_
   simp only [List.set_cons_zero, List.set_cons_succ]
   rw [show (ag8 (lo ((p).x.val : Int) 48)).setIfInBounds (0 + (0)) (.int .u8 (or8 (gt (lo ((p).x.val : Int) 48) 0) 192)) = ag8 ((lo ((p).x.val : Int) 48).set 0 (or8 (gt (lo ((p).x.val : Int) 48) 0) 192)) from ag8_set _ _ _]
   refine flow_done (by kernel_rfl) ?_
   intro w3 hw3
   refine seq_plain hw3 [0, 1] (by rfl) ?_
   refine L_val (.agg (ag8 ((lo ((p).x.val : Int) 48).set 0 (or8 (gt (lo ((p).x.val : Int) 48) 0) 192)))) (by rfl) (by rfl) (gL g3 66 (ag8 ((lo ((p).x.val : Int) 48).set 0 (or8 (gt (lo ((p).x.val : Int) 48) 0) 192))) 0 Tryz.underlying66 (hi_ag48 _ (by simp [lo_len]))) ?_
   refine L_store (t := 66) 1 g2 (b48c (0 : Int)) (ag8 ((lo ((p).x.val : Int) 48).set 0 (or8 (gt (lo ((p).x.val : Int) 48) 0) 192))) (by rfl) (by rfl) (by rfl) (by rfl) (by rfl) (hi_ag48 _ (by simp [lo_len])) ((ag_len _ (by simp [lo_len])).trans (b48c_size _).symm) (ag8_one _) ?_
   simp only [List.set_cons_zero, List.set_cons_succ]
   refine L_end ?_
   intro w4 hw4
   refine wp_ret ?_
   change bodyPost _ _ _ Exit.ret _ _
   refine (ret_cell (by rfl) (by rfl) (by rfl) (hw4.blk 1 (by rfl)) Tryz.underlying66 (by rfl) (hi_ag48 _ (by simp [lo_len])) ⟨?_, hw4.below⟩)
   exact congrArg (fun l => Ending.returned (.agg (ag8 l))) (by simp only [sh1, if_pos hf0, if_pos hf1])
  ·
   refine seq_flow (by kernel_rfl) hw2 [11] [(g3, 66, (ag8 (lo ((p).x.val : Int) 48))), (g2, 66, (b48c (0 : Int))), (g1, 31, (cg1 (p)))] 12 (by rfl) ?_
   refine fT (i := 0) (u := (.pointer (some ⟨g3, 0 + (0), none⟩))) (g := gk) (h := ?_)
   refine fT (i := 1) (u := (.int .u8 (gt (lo ((p).x.val : Int) 48) 0))) (g := (gives_load1 g3 (0 + (0)) _ (ag8 (lo ((p).x.val : Int) 48)) (.int .u8 (gt (lo ((p).x.val : Int) 48) 0)) (by rfl) (fun _ h => h.blk 0 (by rfl)) (ag8_at _ _ (by simp [lo_len])) und_u8')) (h := ?_)
   refine fT (i := 2) (g := (gL g1 31 (cg1 (p)) 2 Tryz.underlying31 (hi_g1 _))) (h := ?_)
   refine fT (i := 3) (u := (.agg (cg1 (0 : Pt Fp)))) (g := (gb_g1 [] trivial (by rfl) (cg1 (0 : Pt Fp)) (by rfl))) (h := ?_)
   refine fT (i := 4) (u := (.bool true)) (g := (gives_eql (cg1 (p)) (cg1 (0 : Pt Fp)) true (by rfl) (by rfl) (by kernel_rfl) (fun w => eq_g1_t (d := 9996) w hf0))) (h := ?_)
   refine fT (i := 5) (u := (.pointer (some ⟨g1, 6, none⟩))) (g := gk) (h := ?_)
   refine fT (i := 6) (g := (gives_load g1 6 31 (cg1 (p)) (pc ((p).y)) _ (by rfl) (fun _ h => h.blk 2 (by rfl)) (sl_g1y (p) _ _ 6 (Sl.refl _) (by rfl)) Tryz.underlying29 (by rfl) (hi_1 _))) (h := ?_)
   refine fT (i := 7) (g := (gives_call (vl := [.agg (pc ((p).y))]) (by kernel_rfl) (by rfl) (fun w h => lr1_f _ w (hG.keep h.below) (hU.keep h.below) (Bool.eq_false_iff.2 hf1)))) (h := ?_)
   refine fT (i := 8) (g := (gives_call (vl := [.bool true, .bool false]) (by kernel_rfl) (by rfl) (fun w h => cd_short_tf w))) (h := ?_)
   refine fT (i := 9) (u := (.int .u8 (or8 (gt (lo ((p).x.val : Int) 48) 0) 192))) (g := (gives_or (k := .u8) (gt (lo ((p).x.val : Int) 48) 0) (192) (or8 (gt (lo ((p).x.val : Int) 48) 0) 192) (by rfl) (by rfl) (or8_ok (gt_oct (lo_oct _ _) _) (by decide)))) (h := ?_)
   refine fT (i := 10) (u := (.pointer (some ⟨g3, 0 + (0), none⟩))) (g := gk) (h := ?_)
   refine flow_one 11 (by kernel_rfl) ?_
   refine F_store1 0 g3 (0 + (0)) _ (ag8 (lo ((p).x.val : Int) 48)) (.int .u8 (or8 (gt (lo ((p).x.val : Int) 48) 0) 192)) (by rfl) (by rfl) (by rfl) (by rfl) rfl (by rfl) u8_sz (by rw [ag_len _ (by simp [lo_len] : _ = 48)]; decide) (.inl (by decide)) ?_
   simp only [List.set_cons_zero, List.set_cons_succ]
   rw [show (ag8 (lo ((p).x.val : Int) 48)).setIfInBounds (0 + (0)) (.int .u8 (or8 (gt (lo ((p).x.val : Int) 48) 0) 192)) = ag8 ((lo ((p).x.val : Int) 48).set 0 (or8 (gt (lo ((p).x.val : Int) 48) 0) 192)) from ag8_set _ _ _]
   refine flow_done (by kernel_rfl) ?_
   intro w3 hw3
   refine seq_plain hw3 [0, 1] (by rfl) ?_
   refine L_val (.agg (ag8 ((lo ((p).x.val : Int) 48).set 0 (or8 (gt (lo ((p).x.val : Int) 48) 0) 192)))) (by rfl) (by rfl) (gL g3 66 (ag8 ((lo ((p).x.val : Int) 48).set 0 (or8 (gt (lo ((p).x.val : Int) 48) 0) 192))) 0 Tryz.underlying66 (hi_ag48 _ (by simp [lo_len]))) ?_
   refine L_store (t := 66) 1 g2 (b48c (0 : Int)) (ag8 ((lo ((p).x.val : Int) 48).set 0 (or8 (gt (lo ((p).x.val : Int) 48) 0) 192))) (by rfl) (by rfl) (by rfl) (by rfl) (by rfl) (hi_ag48 _ (by simp [lo_len])) ((ag_len _ (by simp [lo_len])).trans (b48c_size _).symm) (ag8_one _) ?_
   simp only [List.set_cons_zero, List.set_cons_succ]
   refine L_end ?_
   intro w4 hw4
   refine wp_ret ?_
   change bodyPost _ _ _ Exit.ret _ _
   refine (ret_cell (by rfl) (by rfl) (by rfl) (hw4.blk 1 (by rfl)) Tryz.underlying66 (by rfl) (hi_ag48 _ (by simp [lo_len])) ⟨?_, hw4.below⟩)
   exact congrArg (fun l => Ending.returned (.agg (ag8 l))) (by simp only [sh1, if_pos hf0, if_neg hf1])
 ·
  by_cases hf1 : lg1 (p).y = true
  ·
   refine seq_flow (by kernel_rfl) hw2 [11] [(g3, 66, (ag8 (lo ((p).x.val : Int) 48))), (g2, 66, (b48c (0 : Int))), (g1, 31, (cg1 (p)))] 12 (by rfl) ?_
   refine fT (i := 0) (u := (.pointer (some ⟨g3, 0 + (0), none⟩))) (g := gk) (h := ?_)
   refine fT (i := 1) (u := (.int .u8 (gt (lo ((p).x.val : Int) 48) 0))) (g := (gives_load1 g3 (0 + (0)) _ (ag8 (lo ((p).x.val : Int) 48)) (.int .u8 (gt (lo ((p).x.val : Int) 48) 0)) (by rfl) (fun _ h => h.blk 0 (by rfl)) (ag8_at _ _ (by simp [lo_len])) und_u8')) (h := ?_)
   refine fT (i := 2) (g := (gL g1 31 (cg1 (p)) 2 Tryz.underlying31 (hi_g1 _))) (h := ?_)
   refine fT (i := 3) (u := (.agg (cg1 (0 : Pt Fp)))) (g := (gb_g1 [] trivial (by rfl) (cg1 (0 : Pt Fp)) (by rfl))) (h := ?_)
   refine fT (i := 4) (u := (.bool false)) (g := (gives_eql (cg1 (p)) (cg1 (0 : Pt Fp)) false (by rfl) (by rfl) (by kernel_rfl) (fun w => eq_g1_f (d := 9996) w hf0))) (h := ?_)
   refine fT (i := 5) (u := (.pointer (some ⟨g1, 6, none⟩))) (g := gk) (h := ?_)
   refine fT (i := 6) (g := (gives_load g1 6 31 (cg1 (p)) (pc ((p).y)) _ (by rfl) (fun _ h => h.blk 2 (by rfl)) (sl_g1y (p) _ _ 6 (Sl.refl _) (by rfl)) Tryz.underlying29 (by rfl) (hi_1 _))) (h := ?_)
   refine fT (i := 7) (g := (gives_call (vl := [.agg (pc ((p).y))]) (by kernel_rfl) (by rfl) (fun w h => lr1_t _ w (hG.keep h.below) (hU.keep h.below) hf1))) (h := ?_)
   refine fT (i := 8) (g := (gives_call (vl := [.bool false, .bool true]) (by kernel_rfl) (by rfl) (fun w h => cd_short_ft w))) (h := ?_)
   refine fT (i := 9) (u := (.int .u8 (or8 (gt (lo ((p).x.val : Int) 48) 0) 160))) (g := (gives_or (k := .u8) (gt (lo ((p).x.val : Int) 48) 0) (160) (or8 (gt (lo ((p).x.val : Int) 48) 0) 160) (by rfl) (by rfl) (or8_ok (gt_oct (lo_oct _ _) _) (by decide)))) (h := ?_)
   refine fT (i := 10) (u := (.pointer (some ⟨g3, 0 + (0), none⟩))) (g := gk) (h := ?_)
   refine flow_one 11 (by kernel_rfl) ?_
   refine F_store1 0 g3 (0 + (0)) _ (ag8 (lo ((p).x.val : Int) 48)) (.int .u8 (or8 (gt (lo ((p).x.val : Int) 48) 0) 160)) (by rfl) (by rfl) (by rfl) (by rfl) rfl (by rfl) u8_sz (by rw [ag_len _ (by simp [lo_len] : _ = 48)]; decide) (.inl (by decide)) ?_
   simp only [List.set_cons_zero, List.set_cons_succ]
   rw [show (ag8 (lo ((p).x.val : Int) 48)).setIfInBounds (0 + (0)) (.int .u8 (or8 (gt (lo ((p).x.val : Int) 48) 0) 160)) = ag8 ((lo ((p).x.val : Int) 48).set 0 (or8 (gt (lo ((p).x.val : Int) 48) 0) 160)) from ag8_set _ _ _]
   refine flow_done (by kernel_rfl) ?_
   intro w3 hw3
   refine seq_plain hw3 [0, 1] (by rfl) ?_
   refine L_val (.agg (ag8 ((lo ((p).x.val : Int) 48).set 0 (or8 (gt (lo ((p).x.val : Int) 48) 0) 160)))) (by rfl) (by rfl) (gL g3 66 (ag8 ((lo ((p).x.val : Int) 48).set 0 (or8 (gt (lo ((p).x.val : Int) 48) 0) 160))) 0 Tryz.underlying66 (hi_ag48 _ (by simp [lo_len]))) ?_
   refine L_store (t := 66) 1 g2 (b48c (0 : Int)) (ag8 ((lo ((p).x.val : Int) 48).set 0 (or8 (gt (lo ((p).x.val : Int) 48) 0) 160))) (by rfl) (by rfl) (by rfl) (by rfl) (by rfl) (hi_ag48 _ (by simp [lo_len])) ((ag_len _ (by simp [lo_len])).trans (b48c_size _).symm) (ag8_one _) ?_
   simp only [List.set_cons_zero, List.set_cons_succ]
   refine L_end ?_
   intro w4 hw4
   refine wp_ret ?_
   change bodyPost _ _ _ Exit.ret _ _
   refine (ret_cell (by rfl) (by rfl) (by rfl) (hw4.blk 1 (by rfl)) Tryz.underlying66 (by rfl) (hi_ag48 _ (by simp [lo_len])) ⟨?_, hw4.below⟩)
   exact congrArg (fun l => Ending.returned (.agg (ag8 l))) (by simp only [sh1, if_neg hf0, if_pos hf1])
  ·
   refine seq_flow (by kernel_rfl) hw2 [11] [(g3, 66, (ag8 (lo ((p).x.val : Int) 48))), (g2, 66, (b48c (0 : Int))), (g1, 31, (cg1 (p)))] 12 (by rfl) ?_
   refine fT (i := 0) (u := (.pointer (some ⟨g3, 0 + (0), none⟩))) (g := gk) (h := ?_)
   refine fT (i := 1) (u := (.int .u8 (gt (lo ((p).x.val : Int) 48) 0))) (g := (gives_load1 g3 (0 + (0)) _ (ag8 (lo ((p).x.val : Int) 48)) (.int .u8 (gt (lo ((p).x.val : Int) 48) 0)) (by rfl) (fun _ h => h.blk 0 (by rfl)) (ag8_at _ _ (by simp [lo_len])) und_u8')) (h := ?_)
   refine fT (i := 2) (g := (gL g1 31 (cg1 (p)) 2 Tryz.underlying31 (hi_g1 _))) (h := ?_)
   refine fT (i := 3) (u := (.agg (cg1 (0 : Pt Fp)))) (g := (gb_g1 [] trivial (by rfl) (cg1 (0 : Pt Fp)) (by rfl))) (h := ?_)
   refine fT (i := 4) (u := (.bool false)) (g := (gives_eql (cg1 (p)) (cg1 (0 : Pt Fp)) false (by rfl) (by rfl) (by kernel_rfl) (fun w => eq_g1_f (d := 9996) w hf0))) (h := ?_)
   refine fT (i := 5) (u := (.pointer (some ⟨g1, 6, none⟩))) (g := gk) (h := ?_)
   refine fT (i := 6) (g := (gives_load g1 6 31 (cg1 (p)) (pc ((p).y)) _ (by rfl) (fun _ h => h.blk 2 (by rfl)) (sl_g1y (p) _ _ 6 (Sl.refl _) (by rfl)) Tryz.underlying29 (by rfl) (hi_1 _))) (h := ?_)
   refine fT (i := 7) (g := (gives_call (vl := [.agg (pc ((p).y))]) (by kernel_rfl) (by rfl) (fun w h => lr1_f _ w (hG.keep h.below) (hU.keep h.below) (Bool.eq_false_iff.2 hf1)))) (h := ?_)
   refine fT (i := 8) (g := (gives_call (vl := [.bool false, .bool false]) (by kernel_rfl) (by rfl) (fun w h => cd_short_ff w))) (h := ?_)
   refine fT (i := 9) (u := (.int .u8 (or8 (gt (lo ((p).x.val : Int) 48) 0) 128))) (g := (gives_or (k := .u8) (gt (lo ((p).x.val : Int) 48) 0) (128) (or8 (gt (lo ((p).x.val : Int) 48) 0) 128) (by rfl) (by rfl) (or8_ok (gt_oct (lo_oct _ _) _) (by decide)))) (h := ?_)
   refine fT (i := 10) (u := (.pointer (some ⟨g3, 0 + (0), none⟩))) (g := gk) (h := ?_)
   refine flow_one 11 (by kernel_rfl) ?_
   refine F_store1 0 g3 (0 + (0)) _ (ag8 (lo ((p).x.val : Int) 48)) (.int .u8 (or8 (gt (lo ((p).x.val : Int) 48) 0) 128)) (by rfl) (by rfl) (by rfl) (by rfl) rfl (by rfl) u8_sz (by rw [ag_len _ (by simp [lo_len] : _ = 48)]; decide) (.inl (by decide)) ?_
   simp only [List.set_cons_zero, List.set_cons_succ]
   rw [show (ag8 (lo ((p).x.val : Int) 48)).setIfInBounds (0 + (0)) (.int .u8 (or8 (gt (lo ((p).x.val : Int) 48) 0) 128)) = ag8 ((lo ((p).x.val : Int) 48).set 0 (or8 (gt (lo ((p).x.val : Int) 48) 0) 128)) from ag8_set _ _ _]
   refine flow_done (by kernel_rfl) ?_
   intro w3 hw3
   refine seq_plain hw3 [0, 1] (by rfl) ?_
   refine L_val (.agg (ag8 ((lo ((p).x.val : Int) 48).set 0 (or8 (gt (lo ((p).x.val : Int) 48) 0) 128)))) (by rfl) (by rfl) (gL g3 66 (ag8 ((lo ((p).x.val : Int) 48).set 0 (or8 (gt (lo ((p).x.val : Int) 48) 0) 128))) 0 Tryz.underlying66 (hi_ag48 _ (by simp [lo_len]))) ?_
   refine L_store (t := 66) 1 g2 (b48c (0 : Int)) (ag8 ((lo ((p).x.val : Int) 48).set 0 (or8 (gt (lo ((p).x.val : Int) 48) 0) 128))) (by rfl) (by rfl) (by rfl) (by rfl) (by rfl) (hi_ag48 _ (by simp [lo_len])) ((ag_len _ (by simp [lo_len])).trans (b48c_size _).symm) (ag8_one _) ?_
   simp only [List.set_cons_zero, List.set_cons_succ]
   refine L_end ?_
   intro w4 hw4
   refine wp_ret ?_
   change bodyPost _ _ _ Exit.ret _ _
   refine (ret_cell (by rfl) (by rfl) (by rfl) (hw4.blk 1 (by rfl)) Tryz.underlying66 (by rfl) (hi_ag48 _ (by simp [lo_len])) ⟨?_, hw4.below⟩)
   exact congrArg (fun l => Ending.returned (.agg (ag8 l))) (by simp only [sh1, if_neg hf0, if_neg hf1])
set_option maxRecDepth 100000 in
set_option maxHeartbeats 4000000 in
theorem cd_G2 (p : Pt F2) (v : World) (hG : Glo v) (hU : GUp v) : Rets 45 #[.agg (cg2 p)] v (.agg (ag8 (sh2 p))) := by
 refine calls_fr1 Tryz.func45 rfl (by rfl : _ = 19) (by rfl) ?_
 have hw := Hbl.nil v
 refine seq_plain hw [0, 1] (by rfl) ?_
 refine L_box (.agg (cg2 (p))) (by rfl) (by rfl) (by rfl) (cg2 (p)) (by rfl) ?_; intro g1
 refine L_alloc _ (by rfl) (by rfl) z_b96 (b96c (0 : F2)) rfl ?_; intro g2
 refine L_end ?_
 intro w1 hw1
 refine seq_plain hw1 [0, 1, 2, 3, 4] (by rfl) ?_
 refine L_val (.pointer (some ⟨g1, 0, none⟩)) (by rfl) (by rfl) gk ?_
 refine L_val (.agg (c2 ((p).x))) (by rfl) (by rfl) (gives_load g1 0 48 (cg2 (p)) (c2 ((p).x)) _ (by rfl) (fun _ h => h.blk 1 (by rfl)) (sl_g2x (p) _ _ (Sl.refl _)) Tryz.underlying46 (by rfl) (hi_2 _)) ?_
 refine L_val (.agg (ag8 (lo ((p).x.b.val : Int) 48 ++ lo ((p).x.a.val : Int) 48))) (by rfl) (by rfl) (gives_call (vl := [.agg (c2 ((p).x))]) (by kernel_rfl) (by rfl) (fun w h => q_bytes _ w (hG.keep h.below))) ?_
 refine L_alloc _ (by rfl) (by rfl) z_b96 (b96c (0 : F2)) rfl ?_; intro g3
 refine L_store (t := 68) 0 g3 (b96c (0 : F2)) (ag8 (lo ((p).x.b.val : Int) 48 ++ lo ((p).x.a.val : Int) 48)) (by rfl) (by rfl) (by rfl) (by rfl) (by rfl) (hi_ag96 _ (by simp [lo_len])) ((ag_len _ (by simp [lo_len])).trans (b96c_size _).symm) (ag8_one _) ?_
 simp only [List.set_cons_zero, List.set_cons_succ]
 refine L_end ?_
 intro w2 hw2
 by_cases hf0 : p = 0
 ·
  by_cases hf1 : lg2 (p).y = true
  ·
   refine seq_flow (by kernel_rfl) hw2 [11] [(g3, 68, (ag8 (lo ((p).x.b.val : Int) 48 ++ lo ((p).x.a.val : Int) 48))), (g2, 68, (b96c (0 : F2))), (g1, 48, (cg2 (p)))] 12 (by rfl) ?_
   refine fT (i := 0) (u := (.pointer (some ⟨g3, 0 + (0), none⟩))) (g := gk) (h := ?_)
   refine fT (i := 1) (u := (.int .u8 (gt (lo ((p).x.b.val : Int) 48 ++ lo ((p).x.a.val : Int) 48) 0))) (g := (gives_load1 g3 (0 + (0)) _ (ag8 (lo ((p).x.b.val : Int) 48 ++ lo ((p).x.a.val : Int) 48)) (.int .u8 (gt (lo ((p).x.b.val : Int) 48 ++ lo ((p).x.a.val : Int) 48) 0)) (by rfl) (fun _ h => h.blk 0 (by rfl)) (ag8_at _ _ (by simp [lo_len])) und_u8')) (h := ?_)
   refine fT (i := 2) (g := (gL g1 48 (cg2 (p)) 2 Tryz.underlying48 (hi_g2 _))) (h := ?_)
   refine fT (i := 3) (u := (.agg (cg2 (0 : Pt F2)))) (g := (gb_g2 [] trivial (by rfl) (cg2 (0 : Pt F2)) (by rfl))) (h := ?_)
   refine fT (i := 4) (u := (.bool true)) (g := (gives_eql (cg2 (p)) (cg2 (0 : Pt F2)) true (by rfl) (by rfl) (by kernel_rfl) (fun w => eq_g2_t (d := 9995) w hf0))) (h := ?_)
   refine fT (i := 5) (u := (.pointer (some ⟨g1, 12, none⟩))) (g := gk) (h := ?_)
   refine fT (i := 6) (g := (gives_load g1 12 48 (cg2 (p)) (c2 ((p).y)) _ (by rfl) (fun _ h => h.blk 2 (by rfl)) (sl_g2y (p) _ _ 12 (Sl.refl _) (by rfl)) Tryz.underlying46 (by rfl) (hi_2 _))) (h := ?_)
   refine fT (i := 7) (g := (gives_call (vl := [.agg (c2 ((p).y))]) (by kernel_rfl) (by rfl) (fun w h => lr2_t _ w (hG.keep h.below) (hU.keep h.below) hf1))) (h := ?_)
   refine fT (i := 8) (g := (gives_call (vl := [.bool true, .bool true]) (by kernel_rfl) (by rfl) (fun w h => cd_short_tt w))) (h := ?_)
   refine fT (i := 9) (u := (.int .u8 (or8 (gt (lo ((p).x.b.val : Int) 48 ++ lo ((p).x.a.val : Int) 48) 0) 192))) (g := (gives_or (k := .u8) (gt (lo ((p).x.b.val : Int) 48 ++ lo ((p).x.a.val : Int) 48) 0) (192) (or8 (gt (lo ((p).x.b.val : Int) 48 ++ lo ((p).x.a.val : Int) 48) 0) 192) (by rfl) (by rfl) (or8_ok (gt_oct (oct_app (lo_oct _ _) (lo_oct _ _)) _) (by decide)))) (h := ?_)
   refine fT (i := 10) (u := (.pointer (some ⟨g3, 0 + (0), none⟩))) (g := gk) (h := ?_)
   refine flow_one 11 (by kernel_rfl) ?_
   refine F_store1 0 g3 (0 + (0)) _ (ag8 (lo ((p).x.b.val : Int) 48 ++ lo ((p).x.a.val : Int) 48)) (.int .u8 (or8 (gt (lo ((p).x.b.val : Int) 48 ++ lo ((p).x.a.val : Int) 48) 0) 192)) (by rfl) (by rfl) (by rfl) (by rfl) rfl (by rfl) u8_sz (by rw [ag_len _ (by simp [lo_len] : _ = 96)]; decide) (.inl (by decide)) ?_
   simp only [List.set_cons_zero, List.set_cons_succ]
   rw [show (ag8 (lo ((p).x.b.val : Int) 48 ++ lo ((p).x.a.val : Int) 48)).setIfInBounds (0 + (0)) (.int .u8 (or8 (gt (lo ((p).x.b.val : Int) 48 ++ lo ((p).x.a.val : Int) 48) 0) 192)) = ag8 ((lo ((p).x.b.val : Int) 48 ++ lo ((p).x.a.val : Int) 48).set 0 (or8 (gt (lo ((p).x.b.val : Int) 48 ++ lo ((p).x.a.val : Int) 48) 0) 192)) from ag8_set _ _ _]
   refine flow_done (by kernel_rfl) ?_
   intro w3 hw3
   refine seq_plain hw3 [0, 1] (by rfl) ?_
   refine L_val (.agg (ag8 ((lo ((p).x.b.val : Int) 48 ++ lo ((p).x.a.val : Int) 48).set 0 (or8 (gt (lo ((p).x.b.val : Int) 48 ++ lo ((p).x.a.val : Int) 48) 0) 192)))) (by rfl) (by rfl) (gL g3 68 (ag8 ((lo ((p).x.b.val : Int) 48 ++ lo ((p).x.a.val : Int) 48).set 0 (or8 (gt (lo ((p).x.b.val : Int) 48 ++ lo ((p).x.a.val : Int) 48) 0) 192))) 0 Tryz.underlying68 (hi_ag96 _ (by simp [lo_len]))) ?_
   refine L_store (t := 68) 1 g2 (b96c (0 : F2)) (ag8 ((lo ((p).x.b.val : Int) 48 ++ lo ((p).x.a.val : Int) 48).set 0 (or8 (gt (lo ((p).x.b.val : Int) 48 ++ lo ((p).x.a.val : Int) 48) 0) 192))) (by rfl) (by rfl) (by rfl) (by rfl) (by rfl) (hi_ag96 _ (by simp [lo_len])) ((ag_len _ (by simp [lo_len])).trans (b96c_size _).symm) (ag8_one _) ?_
   simp only [List.set_cons_zero, List.set_cons_succ]
   refine L_end ?_
   intro w4 hw4
   refine wp_ret ?_
   change bodyPost _ _ _ Exit.ret _ _
   refine (ret_cell (by rfl) (by rfl) (by rfl) (hw4.blk 1 (by rfl)) Tryz.underlying68 (by rfl) (hi_ag96 _ (by simp [lo_len])) ⟨?_, hw4.below⟩)
   exact congrArg (fun l => Ending.returned (.agg (ag8 l))) (by simp only [sh2, if_pos hf0, if_pos hf1])
  ·
   refine seq_flow (by kernel_rfl) hw2 [11] [(g3, 68, (ag8 (lo ((p).x.b.val : Int) 48 ++ lo ((p).x.a.val : Int) 48))), (g2, 68, (b96c (0 : F2))), (g1, 48, (cg2 (p)))] 12 (by rfl) ?_
   refine fT (i := 0) (u := (.pointer (some ⟨g3, 0 + (0), none⟩))) (g := gk) (h := ?_)
   refine fT (i := 1) (u := (.int .u8 (gt (lo ((p).x.b.val : Int) 48 ++ lo ((p).x.a.val : Int) 48) 0))) (g := (gives_load1 g3 (0 + (0)) _ (ag8 (lo ((p).x.b.val : Int) 48 ++ lo ((p).x.a.val : Int) 48)) (.int .u8 (gt (lo ((p).x.b.val : Int) 48 ++ lo ((p).x.a.val : Int) 48) 0)) (by rfl) (fun _ h => h.blk 0 (by rfl)) (ag8_at _ _ (by simp [lo_len])) und_u8')) (h := ?_)
   refine fT (i := 2) (g := (gL g1 48 (cg2 (p)) 2 Tryz.underlying48 (hi_g2 _))) (h := ?_)
   refine fT (i := 3) (u := (.agg (cg2 (0 : Pt F2)))) (g := (gb_g2 [] trivial (by rfl) (cg2 (0 : Pt F2)) (by rfl))) (h := ?_)
   refine fT (i := 4) (u := (.bool true)) (g := (gives_eql (cg2 (p)) (cg2 (0 : Pt F2)) true (by rfl) (by rfl) (by kernel_rfl) (fun w => eq_g2_t (d := 9995) w hf0))) (h := ?_)
   refine fT (i := 5) (u := (.pointer (some ⟨g1, 12, none⟩))) (g := gk) (h := ?_)
   refine fT (i := 6) (g := (gives_load g1 12 48 (cg2 (p)) (c2 ((p).y)) _ (by rfl) (fun _ h => h.blk 2 (by rfl)) (sl_g2y (p) _ _ 12 (Sl.refl _) (by rfl)) Tryz.underlying46 (by rfl) (hi_2 _))) (h := ?_)
   refine fT (i := 7) (g := (gives_call (vl := [.agg (c2 ((p).y))]) (by kernel_rfl) (by rfl) (fun w h => lr2_f _ w (hG.keep h.below) (hU.keep h.below) (Bool.eq_false_iff.2 hf1)))) (h := ?_)
   refine fT (i := 8) (g := (gives_call (vl := [.bool true, .bool false]) (by kernel_rfl) (by rfl) (fun w h => cd_short_tf w))) (h := ?_)
   refine fT (i := 9) (u := (.int .u8 (or8 (gt (lo ((p).x.b.val : Int) 48 ++ lo ((p).x.a.val : Int) 48) 0) 192))) (g := (gives_or (k := .u8) (gt (lo ((p).x.b.val : Int) 48 ++ lo ((p).x.a.val : Int) 48) 0) (192) (or8 (gt (lo ((p).x.b.val : Int) 48 ++ lo ((p).x.a.val : Int) 48) 0) 192) (by rfl) (by rfl) (or8_ok (gt_oct (oct_app (lo_oct _ _) (lo_oct _ _)) _) (by decide)))) (h := ?_)
   refine fT (i := 10) (u := (.pointer (some ⟨g3, 0 + (0), none⟩))) (g := gk) (h := ?_)
   refine flow_one 11 (by kernel_rfl) ?_
   refine F_store1 0 g3 (0 + (0)) _ (ag8 (lo ((p).x.b.val : Int) 48 ++ lo ((p).x.a.val : Int) 48)) (.int .u8 (or8 (gt (lo ((p).x.b.val : Int) 48 ++ lo ((p).x.a.val : Int) 48) 0) 192)) (by rfl) (by rfl) (by rfl) (by rfl) rfl (by rfl) u8_sz (by rw [ag_len _ (by simp [lo_len] : _ = 96)]; decide) (.inl (by decide)) ?_
   simp only [List.set_cons_zero, List.set_cons_succ]
   rw [show (ag8 (lo ((p).x.b.val : Int) 48 ++ lo ((p).x.a.val : Int) 48)).setIfInBounds (0 + (0)) (.int .u8 (or8 (gt (lo ((p).x.b.val : Int) 48 ++ lo ((p).x.a.val : Int) 48) 0) 192)) = ag8 ((lo ((p).x.b.val : Int) 48 ++ lo ((p).x.a.val : Int) 48).set 0 (or8 (gt (lo ((p).x.b.val : Int) 48 ++ lo ((p).x.a.val : Int) 48) 0) 192)) from ag8_set _ _ _]
   refine flow_done (by kernel_rfl) ?_
   intro w3 hw3
   refine seq_plain hw3 [0, 1] (by rfl) ?_
   refine L_val (.agg (ag8 ((lo ((p).x.b.val : Int) 48 ++ lo ((p).x.a.val : Int) 48).set 0 (or8 (gt (lo ((p).x.b.val : Int) 48 ++ lo ((p).x.a.val : Int) 48) 0) 192)))) (by rfl) (by rfl) (gL g3 68 (ag8 ((lo ((p).x.b.val : Int) 48 ++ lo ((p).x.a.val : Int) 48).set 0 (or8 (gt (lo ((p).x.b.val : Int) 48 ++ lo ((p).x.a.val : Int) 48) 0) 192))) 0 Tryz.underlying68 (hi_ag96 _ (by simp [lo_len]))) ?_
   refine L_store (t := 68) 1 g2 (b96c (0 : F2)) (ag8 ((lo ((p).x.b.val : Int) 48 ++ lo ((p).x.a.val : Int) 48).set 0 (or8 (gt (lo ((p).x.b.val : Int) 48 ++ lo ((p).x.a.val : Int) 48) 0) 192))) (by rfl) (by rfl) (by rfl) (by rfl) (by rfl) (hi_ag96 _ (by simp [lo_len])) ((ag_len _ (by simp [lo_len])).trans (b96c_size _).symm) (ag8_one _) ?_
   simp only [List.set_cons_zero, List.set_cons_succ]
   refine L_end ?_
   intro w4 hw4
   refine wp_ret ?_
   change bodyPost _ _ _ Exit.ret _ _
   refine (ret_cell (by rfl) (by rfl) (by rfl) (hw4.blk 1 (by rfl)) Tryz.underlying68 (by rfl) (hi_ag96 _ (by simp [lo_len])) ⟨?_, hw4.below⟩)
   exact congrArg (fun l => Ending.returned (.agg (ag8 l))) (by simp only [sh2, if_pos hf0, if_neg hf1])
 ·
  by_cases hf1 : lg2 (p).y = true
  ·
   refine seq_flow (by kernel_rfl) hw2 [11] [(g3, 68, (ag8 (lo ((p).x.b.val : Int) 48 ++ lo ((p).x.a.val : Int) 48))), (g2, 68, (b96c (0 : F2))), (g1, 48, (cg2 (p)))] 12 (by rfl) ?_
   refine fT (i := 0) (u := (.pointer (some ⟨g3, 0 + (0), none⟩))) (g := gk) (h := ?_)
   refine fT (i := 1) (u := (.int .u8 (gt (lo ((p).x.b.val : Int) 48 ++ lo ((p).x.a.val : Int) 48) 0))) (g := (gives_load1 g3 (0 + (0)) _ (ag8 (lo ((p).x.b.val : Int) 48 ++ lo ((p).x.a.val : Int) 48)) (.int .u8 (gt (lo ((p).x.b.val : Int) 48 ++ lo ((p).x.a.val : Int) 48) 0)) (by rfl) (fun _ h => h.blk 0 (by rfl)) (ag8_at _ _ (by simp [lo_len])) und_u8')) (h := ?_)
   refine fT (i := 2) (g := (gL g1 48 (cg2 (p)) 2 Tryz.underlying48 (hi_g2 _))) (h := ?_)
   refine fT (i := 3) (u := (.agg (cg2 (0 : Pt F2)))) (g := (gb_g2 [] trivial (by rfl) (cg2 (0 : Pt F2)) (by rfl))) (h := ?_)
   refine fT (i := 4) (u := (.bool false)) (g := (gives_eql (cg2 (p)) (cg2 (0 : Pt F2)) false (by rfl) (by rfl) (by kernel_rfl) (fun w => eq_g2_f (d := 9995) w hf0))) (h := ?_)
   refine fT (i := 5) (u := (.pointer (some ⟨g1, 12, none⟩))) (g := gk) (h := ?_)
   refine fT (i := 6) (g := (gives_load g1 12 48 (cg2 (p)) (c2 ((p).y)) _ (by rfl) (fun _ h => h.blk 2 (by rfl)) (sl_g2y (p) _ _ 12 (Sl.refl _) (by rfl)) Tryz.underlying46 (by rfl) (hi_2 _))) (h := ?_)
   refine fT (i := 7) (g := (gives_call (vl := [.agg (c2 ((p).y))]) (by kernel_rfl) (by rfl) (fun w h => lr2_t _ w (hG.keep h.below) (hU.keep h.below) hf1))) (h := ?_)
   refine fT (i := 8) (g := (gives_call (vl := [.bool false, .bool true]) (by kernel_rfl) (by rfl) (fun w h => cd_short_ft w))) (h := ?_)
   refine fT (i := 9) (u := (.int .u8 (or8 (gt (lo ((p).x.b.val : Int) 48 ++ lo ((p).x.a.val : Int) 48) 0) 160))) (g := (gives_or (k := .u8) (gt (lo ((p).x.b.val : Int) 48 ++ lo ((p).x.a.val : Int) 48) 0) (160) (or8 (gt (lo ((p).x.b.val : Int) 48 ++ lo ((p).x.a.val : Int) 48) 0) 160) (by rfl) (by rfl) (or8_ok (gt_oct (oct_app (lo_oct _ _) (lo_oct _ _)) _) (by decide)))) (h := ?_)
   refine fT (i := 10) (u := (.pointer (some ⟨g3, 0 + (0), none⟩))) (g := gk) (h := ?_)
   refine flow_one 11 (by kernel_rfl) ?_
   refine F_store1 0 g3 (0 + (0)) _ (ag8 (lo ((p).x.b.val : Int) 48 ++ lo ((p).x.a.val : Int) 48)) (.int .u8 (or8 (gt (lo ((p).x.b.val : Int) 48 ++ lo ((p).x.a.val : Int) 48) 0) 160)) (by rfl) (by rfl) (by rfl) (by rfl) rfl (by rfl) u8_sz (by rw [ag_len _ (by simp [lo_len] : _ = 96)]; decide) (.inl (by decide)) ?_
   simp only [List.set_cons_zero, List.set_cons_succ]
   rw [show (ag8 (lo ((p).x.b.val : Int) 48 ++ lo ((p).x.a.val : Int) 48)).setIfInBounds (0 + (0)) (.int .u8 (or8 (gt (lo ((p).x.b.val : Int) 48 ++ lo ((p).x.a.val : Int) 48) 0) 160)) = ag8 ((lo ((p).x.b.val : Int) 48 ++ lo ((p).x.a.val : Int) 48).set 0 (or8 (gt (lo ((p).x.b.val : Int) 48 ++ lo ((p).x.a.val : Int) 48) 0) 160)) from ag8_set _ _ _]
   refine flow_done (by kernel_rfl) ?_
   intro w3 hw3
   refine seq_plain hw3 [0, 1] (by rfl) ?_
   refine L_val (.agg (ag8 ((lo ((p).x.b.val : Int) 48 ++ lo ((p).x.a.val : Int) 48).set 0 (or8 (gt (lo ((p).x.b.val : Int) 48 ++ lo ((p).x.a.val : Int) 48) 0) 160)))) (by rfl) (by rfl) (gL g3 68 (ag8 ((lo ((p).x.b.val : Int) 48 ++ lo ((p).x.a.val : Int) 48).set 0 (or8 (gt (lo ((p).x.b.val : Int) 48 ++ lo ((p).x.a.val : Int) 48) 0) 160))) 0 Tryz.underlying68 (hi_ag96 _ (by simp [lo_len]))) ?_
   refine L_store (t := 68) 1 g2 (b96c (0 : F2)) (ag8 ((lo ((p).x.b.val : Int) 48 ++ lo ((p).x.a.val : Int) 48).set 0 (or8 (gt (lo ((p).x.b.val : Int) 48 ++ lo ((p).x.a.val : Int) 48) 0) 160))) (by rfl) (by rfl) (by rfl) (by rfl) (by rfl) (hi_ag96 _ (by simp [lo_len])) ((ag_len _ (by simp [lo_len])).trans (b96c_size _).symm) (ag8_one _) ?_
   simp only [List.set_cons_zero, List.set_cons_succ]
   refine L_end ?_
   intro w4 hw4
   refine wp_ret ?_
   change bodyPost _ _ _ Exit.ret _ _
   refine (ret_cell (by rfl) (by rfl) (by rfl) (hw4.blk 1 (by rfl)) Tryz.underlying68 (by rfl) (hi_ag96 _ (by simp [lo_len])) ⟨?_, hw4.below⟩)
   exact congrArg (fun l => Ending.returned (.agg (ag8 l))) (by simp only [sh2, if_neg hf0, if_pos hf1])
  ·
   refine seq_flow (by kernel_rfl) hw2 [11] [(g3, 68, (ag8 (lo ((p).x.b.val : Int) 48 ++ lo ((p).x.a.val : Int) 48))), (g2, 68, (b96c (0 : F2))), (g1, 48, (cg2 (p)))] 12 (by rfl) ?_
   refine fT (i := 0) (u := (.pointer (some ⟨g3, 0 + (0), none⟩))) (g := gk) (h := ?_)
   refine fT (i := 1) (u := (.int .u8 (gt (lo ((p).x.b.val : Int) 48 ++ lo ((p).x.a.val : Int) 48) 0))) (g := (gives_load1 g3 (0 + (0)) _ (ag8 (lo ((p).x.b.val : Int) 48 ++ lo ((p).x.a.val : Int) 48)) (.int .u8 (gt (lo ((p).x.b.val : Int) 48 ++ lo ((p).x.a.val : Int) 48) 0)) (by rfl) (fun _ h => h.blk 0 (by rfl)) (ag8_at _ _ (by simp [lo_len])) und_u8')) (h := ?_)
   refine fT (i := 2) (g := (gL g1 48 (cg2 (p)) 2 Tryz.underlying48 (hi_g2 _))) (h := ?_)
   refine fT (i := 3) (u := (.agg (cg2 (0 : Pt F2)))) (g := (gb_g2 [] trivial (by rfl) (cg2 (0 : Pt F2)) (by rfl))) (h := ?_)
   refine fT (i := 4) (u := (.bool false)) (g := (gives_eql (cg2 (p)) (cg2 (0 : Pt F2)) false (by rfl) (by rfl) (by kernel_rfl) (fun w => eq_g2_f (d := 9995) w hf0))) (h := ?_)
   refine fT (i := 5) (u := (.pointer (some ⟨g1, 12, none⟩))) (g := gk) (h := ?_)
   refine fT (i := 6) (g := (gives_load g1 12 48 (cg2 (p)) (c2 ((p).y)) _ (by rfl) (fun _ h => h.blk 2 (by rfl)) (sl_g2y (p) _ _ 12 (Sl.refl _) (by rfl)) Tryz.underlying46 (by rfl) (hi_2 _))) (h := ?_)
   refine fT (i := 7) (g := (gives_call (vl := [.agg (c2 ((p).y))]) (by kernel_rfl) (by rfl) (fun w h => lr2_f _ w (hG.keep h.below) (hU.keep h.below) (Bool.eq_false_iff.2 hf1)))) (h := ?_)
   refine fT (i := 8) (g := (gives_call (vl := [.bool false, .bool false]) (by kernel_rfl) (by rfl) (fun w h => cd_short_ff w))) (h := ?_)
   refine fT (i := 9) (u := (.int .u8 (or8 (gt (lo ((p).x.b.val : Int) 48 ++ lo ((p).x.a.val : Int) 48) 0) 128))) (g := (gives_or (k := .u8) (gt (lo ((p).x.b.val : Int) 48 ++ lo ((p).x.a.val : Int) 48) 0) (128) (or8 (gt (lo ((p).x.b.val : Int) 48 ++ lo ((p).x.a.val : Int) 48) 0) 128) (by rfl) (by rfl) (or8_ok (gt_oct (oct_app (lo_oct _ _) (lo_oct _ _)) _) (by decide)))) (h := ?_)
   refine fT (i := 10) (u := (.pointer (some ⟨g3, 0 + (0), none⟩))) (g := gk) (h := ?_)
   refine flow_one 11 (by kernel_rfl) ?_
   refine F_store1 0 g3 (0 + (0)) _ (ag8 (lo ((p).x.b.val : Int) 48 ++ lo ((p).x.a.val : Int) 48)) (.int .u8 (or8 (gt (lo ((p).x.b.val : Int) 48 ++ lo ((p).x.a.val : Int) 48) 0) 128)) (by rfl) (by rfl) (by rfl) (by rfl) rfl (by rfl) u8_sz (by rw [ag_len _ (by simp [lo_len] : _ = 96)]; decide) (.inl (by decide)) ?_
   simp only [List.set_cons_zero, List.set_cons_succ]
   rw [show (ag8 (lo ((p).x.b.val : Int) 48 ++ lo ((p).x.a.val : Int) 48)).setIfInBounds (0 + (0)) (.int .u8 (or8 (gt (lo ((p).x.b.val : Int) 48 ++ lo ((p).x.a.val : Int) 48) 0) 128)) = ag8 ((lo ((p).x.b.val : Int) 48 ++ lo ((p).x.a.val : Int) 48).set 0 (or8 (gt (lo ((p).x.b.val : Int) 48 ++ lo ((p).x.a.val : Int) 48) 0) 128)) from ag8_set _ _ _]
   refine flow_done (by kernel_rfl) ?_
   intro w3 hw3
   refine seq_plain hw3 [0, 1] (by rfl) ?_
   refine L_val (.agg (ag8 ((lo ((p).x.b.val : Int) 48 ++ lo ((p).x.a.val : Int) 48).set 0 (or8 (gt (lo ((p).x.b.val : Int) 48 ++ lo ((p).x.a.val : Int) 48) 0) 128)))) (by rfl) (by rfl) (gL g3 68 (ag8 ((lo ((p).x.b.val : Int) 48 ++ lo ((p).x.a.val : Int) 48).set 0 (or8 (gt (lo ((p).x.b.val : Int) 48 ++ lo ((p).x.a.val : Int) 48) 0) 128))) 0 Tryz.underlying68 (hi_ag96 _ (by simp [lo_len]))) ?_
   refine L_store (t := 68) 1 g2 (b96c (0 : F2)) (ag8 ((lo ((p).x.b.val : Int) 48 ++ lo ((p).x.a.val : Int) 48).set 0 (or8 (gt (lo ((p).x.b.val : Int) 48 ++ lo ((p).x.a.val : Int) 48) 0) 128))) (by rfl) (by rfl) (by rfl) (by rfl) (by rfl) (hi_ag96 _ (by simp [lo_len])) ((ag_len _ (by simp [lo_len])).trans (b96c_size _).symm) (ag8_one _) ?_
   simp only [List.set_cons_zero, List.set_cons_succ]
   refine L_end ?_
   intro w4 hw4
   refine wp_ret ?_
   change bodyPost _ _ _ Exit.ret _ _
   refine (ret_cell (by rfl) (by rfl) (by rfl) (hw4.blk 1 (by rfl)) Tryz.underlying68 (by rfl) (hi_ag96 _ (by simp [lo_len])) ⟨?_, hw4.below⟩)
   exact congrArg (fun l => Ending.returned (.agg (ag8 l))) (by simp only [sh2, if_neg hf0, if_neg hf1])
set_option maxRecDepth 100000 in
set_option maxHeartbeats 4000000 in
theorem cd_head  (v : World) (hG : Glo v) (hU : GUp v) : Rets 13 #[] v (.bool true) := by
 obtain ⟨k0, hk0⟩ : ∃ k : Pt Fp, k = gen1 := ⟨_, rfl⟩
 obtain ⟨k1, hk1⟩ : ∃ k : Pt F2, k = gen2 := ⟨_, rfl⟩
 refine calls_fr0 Tryz.func13 rfl (by rfl : _ = 38) ?_
 have hw := Hbl.nil v
 refine seq_plain hw [0] (by rfl) ?_
 refine lv (.bool false) (h := ?_)
 refine L_end ?_
 intro w1 hw1
 refine seq_plain hw1 [0, 1, 2, 3] (by rfl) ?_
 refine L_val (.agg (cg1 (0 : Pt Fp))) (by rfl) (by rfl) (gb_g1 [] trivial (by rfl) (cg1 (0 : Pt Fp)) (by rfl)) ?_
 refine L_val (.agg (ag8 (sh1 (0 : Pt Fp)))) (by rfl) (by rfl) (gives_call (vl := [.agg (cg1 (0 : Pt Fp))]) (by kernel_rfl) (by rfl) (fun w h => cd_G1 _ w (hG.keep h.below) (hU.keep h.below))) ?_
 refine L_alloc _ (by rfl) (by rfl) z_b48 (b48c (0 : Int)) rfl ?_; intro g1
 refine L_store (t := 66) 0 g1 (b48c (0 : Int)) (ag8 (sh1 (0 : Pt Fp))) (by rfl) (by rfl) (by rfl) (by rfl) (by rfl) (hi_ag48 _ (sh1_len (0 : Pt Fp))) ((ag_len _ (sh1_len (0 : Pt Fp))).trans (b48c_size _).symm) (ag8_one _) ?_
 simp only [List.set_cons_zero, List.set_cons_succ]
 refine L_end ?_
 intro w2 hw2
 refine seq_plain hw2 [0, 1, 2, 3] (by rfl) ?_
 refine L_val (.agg (cg1 (k0))) (by rfl) (by rfl) (gives_call (vl := []) (by kernel_rfl) (by rfl) (fun w h => by rw [hk0]; exact k1_gen w (hG.keep h.below))) ?_
 refine L_val (.agg (ag8 (sh1 (k0)))) (by rfl) (by rfl) (gives_call (vl := [.agg (cg1 (k0))]) (by kernel_rfl) (by rfl) (fun w h => cd_G1 _ w (hG.keep h.below) (hU.keep h.below))) ?_
 refine L_alloc _ (by rfl) (by rfl) z_b48 (b48c (0 : Int)) rfl ?_; intro g2
 refine L_store (t := 66) 0 g2 (b48c (0 : Int)) (ag8 (sh1 (k0))) (by rfl) (by rfl) (by rfl) (by rfl) (by rfl) (hi_ag48 _ (sh1_len (k0))) ((ag_len _ (sh1_len (k0))).trans (b48c_size _).symm) (ag8_one _) ?_
 simp only [List.set_cons_zero, List.set_cons_succ]
 refine L_end ?_
 intro w3 hw3
 refine seq_plain hw3 [0, 1, 2, 3] (by rfl) ?_
 refine L_val (.agg (cg2 (k1))) (by rfl) (by rfl) (gives_call (vl := []) (by kernel_rfl) (by rfl) (fun w h => by rw [hk1]; exact k2_gen w (hG.keep h.below))) ?_
 refine L_val (.agg (ag8 (sh2 (k1)))) (by rfl) (by rfl) (gives_call (vl := [.agg (cg2 (k1))]) (by kernel_rfl) (by rfl) (fun w h => cd_G2 _ w (hG.keep h.below) (hU.keep h.below))) ?_
 refine L_alloc _ (by rfl) (by rfl) z_b96 (b96c (0 : F2)) rfl ?_; intro g3
 refine L_store (t := 68) 0 g3 (b96c (0 : F2)) (ag8 (sh2 (k1))) (by rfl) (by rfl) (by rfl) (by rfl) (by rfl) (hi_ag96 _ (sh2_len (k1))) ((ag_len _ (sh2_len (k1))).trans (b96c_size _).symm) (ag8_one _) ?_
 simp only [List.set_cons_zero, List.set_cons_succ]
 refine L_end ?_
 intro w4 hw4
 refine seq_plain hw4 [0, 1, 2, 3, 4, 5, 6, 7, 8, 9, 10, 11, 12, 13, 14, 15, 16, 17, 18, 19, 20, 21, 22, 23, 24, 25, 26, 27, 28] (by rfl) ?_
 refine L_val (.pointer (some ⟨g1, 0 + (0), none⟩)) (by rfl) (by rfl) gk ?_
 refine L_val (.int .u8 192) (by rfl) (by rfl) (gives_load1 g1 (0 + (0)) _ (ag8 (sh1 (0 : Pt Fp))) (.int .u8 192) (by rfl) (fun _ h => h.blk 2 (by rfl)) (by exact ag_val _ _ _ (by rw [sh1_len]; decide) (by decide +kernel)) und_u8') ?_
 refine L_val (.bool true) (by rfl) (by rfl) (gives_ieq (k := .u8) (192) (192) true (by rfl) (by rfl) (by decide)) ?_
 refine lv (.bool true) (h := ?_)
 refine L_val_g (dj := 13) (.pointer (some ⟨g1, 0 + (1), none⟩)) (by rfl) (by rfl) (by rfl) (by rfl) (by rfl) gk ?_
 refine L_val_g (dj := 13) (.int .u8 0) (by rfl) (by rfl) (by rfl) (by rfl) (by rfl) (gives_load1 g1 (0 + (1)) _ (ag8 (sh1 (0 : Pt Fp))) (.int .u8 0) (by rfl) (fun _ h => h.blk 2 (by rfl)) (by exact ag_val _ _ _ (by rw [sh1_len]; decide) (by decide +kernel)) und_u8') ?_
 refine L_val_g (dj := 13) (.bool true) (by rfl) (by rfl) (by rfl) (by rfl) (by rfl) (gives_ieq (k := .u8) (0) (0) true (by rfl) (by rfl) (by decide)) ?_
 refine lv (.bool true) (h := ?_)
 refine lv (.bool true) (h := ?_)
 refine L_val_g (dj := 18) (.pointer (some ⟨g2, 0 + (0), none⟩)) (by rfl) (by rfl) (by rfl) (by rfl) (by rfl) gk ?_
 refine L_val_g (dj := 18) (.int .u8 151) (by rfl) (by rfl) (by rfl) (by rfl) (by rfl) (gives_load1 g2 (0 + (0)) _ (ag8 (sh1 (k0))) (.int .u8 151) (by rfl) (fun _ h => h.blk 1 (by rfl)) (by rw [hk0]; exact ag_val _ _ _ (by rw [sh1_len]; decide) (by decide +kernel)) und_u8') ?_
 refine L_val_g (dj := 18) (.bool true) (by rfl) (by rfl) (by rfl) (by rfl) (by rfl) (gives_ieq (k := .u8) (151) (151) true (by rfl) (by rfl) (by decide)) ?_
 refine lv (.bool true) (h := ?_)
 refine lv (.bool true) (h := ?_)
 refine L_val_g (dj := 23) (.pointer (some ⟨g2, 0 + (1), none⟩)) (by rfl) (by rfl) (by rfl) (by rfl) (by rfl) gk ?_
 refine L_val_g (dj := 23) (.int .u8 241) (by rfl) (by rfl) (by rfl) (by rfl) (by rfl) (gives_load1 g2 (0 + (1)) _ (ag8 (sh1 (k0))) (.int .u8 241) (by rfl) (fun _ h => h.blk 1 (by rfl)) (by rw [hk0]; exact ag_val _ _ _ (by rw [sh1_len]; decide) (by decide +kernel)) und_u8') ?_
 refine L_val_g (dj := 23) (.bool true) (by rfl) (by rfl) (by rfl) (by rfl) (by rfl) (gives_ieq (k := .u8) (241) (241) true (by rfl) (by rfl) (by decide)) ?_
 refine lv (.bool true) (h := ?_)
 refine lv (.bool true) (h := ?_)
 refine L_val_g (dj := 28) (.pointer (some ⟨g3, 0 + (0), none⟩)) (by rfl) (by rfl) (by rfl) (by rfl) (by rfl) gk ?_
 refine L_val_g (dj := 28) (.int .u8 147) (by rfl) (by rfl) (by rfl) (by rfl) (by rfl) (gives_load1 g3 (0 + (0)) _ (ag8 (sh2 (k1))) (.int .u8 147) (by rfl) (fun _ h => h.blk 0 (by rfl)) (by rw [hk1]; exact ag_val _ _ _ (by rw [sh2_len]; decide) (by decide +kernel)) und_u8') ?_
 refine L_val_g (dj := 28) (.bool true) (by rfl) (by rfl) (by rfl) (by rfl) (by rfl) (gives_ieq (k := .u8) (147) (147) true (by rfl) (by rfl) (by decide)) ?_
 refine lv (.bool true) (h := ?_)
 refine lv (.bool true) (h := ?_)
 refine L_val_g (dj := 33) (.pointer (some ⟨g3, 0 + (1), none⟩)) (by rfl) (by rfl) (by rfl) (by rfl) (by rfl) gk ?_
 refine L_val_g (dj := 33) (.int .u8 224) (by rfl) (by rfl) (by rfl) (by rfl) (by rfl) (gives_load1 g3 (0 + (1)) _ (ag8 (sh2 (k1))) (.int .u8 224) (by rfl) (fun _ h => h.blk 0 (by rfl)) (by rw [hk1]; exact ag_val _ _ _ (by rw [sh2_len]; decide) (by decide +kernel)) und_u8') ?_
 refine L_val_g (dj := 33) (.bool true) (by rfl) (by rfl) (by rfl) (by rfl) (by rfl) (gives_ieq (k := .u8) (224) (224) true (by rfl) (by rfl) (by decide)) ?_
 refine lv (.bool true) (h := ?_)
 refine lv (.bool true) (h := ?_)
 refine L_end ?_
 intro w5 hw5
 refine wp_ret ?_
 change bodyPost _ _ _ Exit.ret _ _
 refine (ret_tmp (by rfl) (by rfl) (by rfl) ⟨?_, hw5.below⟩)
 rfl
end Go.Proofs.YtifnnckbcjafgabGreatDoor
