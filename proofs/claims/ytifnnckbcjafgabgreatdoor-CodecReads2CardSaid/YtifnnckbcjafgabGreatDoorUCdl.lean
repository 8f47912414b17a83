import Derived.Test.YtifnnckbcjafgabGreatDoorUCdm
import Derived.Test.YtifnnckbcjafgabGreatDoorUCe
import Derived.Test.YtifnnckbcjafgabGreatDoorUCdp1
import Derived.Test.YtifnnckbcjafgabGreatDoorUCdp2
namespace Go.Proofs.YtifnnckbcjafgabGreatDoor
set_option linter.unusedSimpArgs false
set_option linter.unusedVariables false
set_option linter.unusedSectionVars false
open Go.RowKit
section
variable {P : Program} {S : World → Prop} {l : List (Nat × Value)} {dst : Option Nat} {x y : Operand} {t ty ct : TypeId} {pos : String} {after : Array Edge} {gd : Option (Nat × Bool)}
theorem gives_neqB (a b r : Bool) (hx : rho l x = .bool a) (hy : rho l y = .bool b) (ht : P.underlying t = some .bool) (h : (!(a == b)) = r) : Gives P S (.bool r) (execOp (rho l) ⟨dst, .binOp .neq t x y ct, ty, pos, after, gd⟩) := gives_value _ fun w => by
 subst h
 have h' : (Op.equal t (.bool a) (.bool b)).run P w = .ok (a == b) w := by
  unfold Op.equal
  rw [show Op.maxDepth = 9999 + 1 from rfl, run_equalIn_bool w 9999 t a b ht]
 simp only [execOp, hx, hy, eqGuard, binOp]
 simp [h']
end
theorem neqB_t {a b : Bool} (h : a = b) : (!(a == b)) = false := by subst h; cases a <;> rfl
theorem neqB_f {a b : Bool} (h : ¬ a = b) : (!(a == b)) = true := by cases a <;> cases b <;> simp_all
theorem und_bool : Tryz.prog.underlying 4 = some .bool := by kernel_rfl
section
variable {K : Type} [Add K] [Sub K] [Neg K] [Mul K] [Zero K] [One K] [DecidableEq K]
theorem add_00 : J3.add (0 : J3 K) 0 = 0 := if_pos rfl
theorem dbl_0 : (0 : J3 K).dbl = 0 := if_pos rfl
theorem few_0 : ∀ n, J3.few (0 : J3 K) n = 0
 | 0 => rfl
 | n + 1 => by
  show J3.add (J3.few (0 : J3 K) n) 0 = 0
  rw [few_0 n, add_00]
theorem sixteen_0 : (0 : J3 K).sixteen = 0 := by unfold J3.sixteen; rw [dbl_0, dbl_0, dbl_0, dbl_0]
theorem byte_0 (v : Nat) : J3.byte (0 : J3 K) 0 v = 0 := by unfold J3.byte; rw [few_0, few_0, sixteen_0, add_00, sixteen_0, add_00]
theorem times_0 (l : List Nat) : J3.times (0 : J3 K) l = 0 := by
 unfold J3.times
 induction l with
 | nil => rfl
 | cons v r ih => rw [List.foldl_cons, byte_0, ih]
theorem tsum_0 (bs : List Int) : tsum (0 : J3 K) bs = 0 := times_0 _
end
theorem nil_reads (w : World) (A : Option Addr) : Reads w w.heap.size A 0 (([] : List Int).map (Value.int .u8)) := ⟨rfl, fun h => absurd h (by omega)⟩
theorem blk_cells {w : World} {g L : Nat} {t : TypeId} {bs : List Int} (h : Blk w g t (ag8 bs)) (hl : bs.length = L) : ∀ j, j < L → w.cell? ⟨g, 0 + j, none⟩ = some (.int .u8 (gt bs j)) := fun j hj => by
 rw [h.cell, Nat.zero_add, ag8_at bs j (by omega)]
theorem seg_reads2 {w : World} {g : Nat} {t : TypeId} {bs : List Int} {L : Nat} (h : Blk w g t (ag8 (cln bs))) (hl : bs.length = L) (o m : Nat) (hm : o + m ≤ L) :
  Reads w w.heap.size (some ⟨g, 0 + o, none⟩) m ((seg bs o m).map (Value.int .u8)) := by
 refine seg_reads (t := t) (cs := ag8 bs) ?_ (by rw [show (ag8 bs).toList = bs.map (Value.int .u8) by simp [ag8]]; exact List.take_of_length_le (by simp; omega)) hl o m hm
 rw [show (ag8 bs).setIfInBounds (0 + 0) (.int .u8 (gt bs 0 % 32)) = ag8 (cln bs) from ag8_set _ _ _]
 exact h
theorem same_t (w : World) (B1 B2 : Nat) (A : Option Addr) (n c : Nat) (A2 : Option Addr) (c2 : Nat) (l : List Int) (hr1 : Reads w B1 A n (l.map (Value.int .u8))) (hr2 : Reads w B2 A2 n (l.map (Value.int .u8))) (hn : n ≤ 1000) :
  Rets 17 #[.slice A n c, .slice A2 n c2] w (.bool true) :=
 (same_any w B1 B2 A n c A2 n c2 l l hr1 hr2 (by omega) (by omega)).mono fun e w' ⟨h1, m, h2⟩ => ⟨by rw [h1, decide_eq_true rfl], by rw [h2]; exact below_drewN (Below.refl _ _) m⟩
theorem in_zero2 : gMul F2.inv (⟨(0 : F2), (0 : F2)⟩ : Pt F2) (-1) = -(⟨(0 : F2), (0 : F2)⟩ : Pt F2) := by
 unfold gMul gTimes
 rw [show J3.of (⟨(0 : F2), (0 : F2)⟩ : Pt F2) = 0 from if_pos rfl, tsum_0]
 apply Pt.same
 ·exact F2.rg.zm _
 ·show (0 : F2) * _ * _ = -0
  rw [F2.rg.zm, F2.rg.zm, F2.rg.nz]
theorem rs2_s {s : F2} {b : Bool} (h : lg2 s.rt = b) : rs2 s b = s.rt := if_pos h
theorem rs2_d {s : F2} {b : Bool} (h : ¬ lg2 s.rt = b) : rs2 s b = -s.rt := if_neg h
theorem on2_xy {x y : F2} (h : y * y = abv2 x) : OnC (F2.sm 4 4) (⟨x, y⟩ : Pt F2) := .inr h
theorem on2_rt {x : F2} (h : sq2 (abv2 x)) : OnC (F2.sm 4 4) (⟨x, (abv2 x).rt⟩ : Pt F2) := .inr (F2.rt_ok h)
theorem on2_rn {x : F2} (h : sq2 (abv2 x)) : OnC (F2.sm 4 4) (⟨x, -(abv2 x).rt⟩ : Pt F2) := .inr ((by rw [F2.rg.muln, ← F2.rg.nmul, F2.rg.nn] : -(abv2 x).rt * -(abv2 x).rt = (abv2 x).rt * (abv2 x).rt).trans (F2.rt_ok h))
theorem marks2_s_bad (b0 o0 L0 C0 : Nat) (bs0 : List Int) (v : World) (hl0 : bs0.length = L0) (ho0 : Oct bs0) (hq0 : b0 < v.heap.size) (hc0 : ∀ j, j < L0 → v.cell? ⟨b0, o0 + j, none⟩ = some (.int .u8 (gt bs0 j))) (hL : L0 = 96) (hLC : L0 ≤ C0) (hf : ¬ frm bs0 true = true) : Calls Tryz.prog 18 #[.slice (some ⟨b0, o0, none⟩) L0 C0, .int .i64 96] v fun e w' => ∃ (u : Unit) (x : Bool), e = .returned (.tuple #[.int .i64 11, .bool x]) ∧ True ∧ Below v.heap.size v w' :=
 (cd_marks_96_s b0 o0 L0 C0 bs0 v hl0 ho0 hq0 hc0 hL hLC).mono fun e w' ⟨u, x, he, _, hb⟩ => ⟨u, x, by rw [he, if_neg hf], trivial, hb⟩
theorem marks2_s_near (b0 o0 L0 C0 : Nat) (bs0 : List Int) (v : World) (hl0 : bs0.length = L0) (ho0 : Oct bs0) (hq0 : b0 < v.heap.size) (hc0 : ∀ j, j < L0 → v.cell? ⟨b0, o0 + j, none⟩ = some (.int .u8 (gt bs0 j))) (hL : L0 = 96) (hLC : L0 ≤ C0) (hf : frm bs0 true = true) (h64 : 64 * (gt bs0 0 / 64 % 2) = 0) : Rets 18 #[.slice (some ⟨b0, o0, none⟩) L0 C0, .int .i64 96] v (.tuple #[.int .i64 0, .bool false]) :=
 (cd_marks_96_s b0 o0 L0 C0 bs0 v hl0 ho0 hq0 hc0 hL hLC).mono fun e w' ⟨u, x, he, hx, hb⟩ => ⟨by rw [he, if_pos hf, hx hf, decide_eq_false (not_not_intro h64)], hb⟩
theorem marks2_s_far (b0 o0 L0 C0 : Nat) (bs0 : List Int) (v : World) (hl0 : bs0.length = L0) (ho0 : Oct bs0) (hq0 : b0 < v.heap.size) (hc0 : ∀ j, j < L0 → v.cell? ⟨b0, o0 + j, none⟩ = some (.int .u8 (gt bs0 j))) (hL : L0 = 96) (hLC : L0 ≤ C0) (hf : frm bs0 true = true) (h64 : ¬ 64 * (gt bs0 0 / 64 % 2) = 0) : Rets 18 #[.slice (some ⟨b0, o0, none⟩) L0 C0, .int .i64 96] v (.tuple #[.int .i64 0, .bool true]) :=
 (cd_marks_96_s b0 o0 L0 C0 bs0 v hl0 ho0 hq0 hc0 hL hLC).mono fun e w' ⟨u, x, he, hx, hb⟩ => ⟨by rw [he, if_pos hf, hx hf, decide_eq_true h64], hb⟩
theorem marks2_l_bad (b0 o0 L0 C0 : Nat) (bs0 : List Int) (v : World) (hl0 : bs0.length = L0) (ho0 : Oct bs0) (hq0 : b0 < v.heap.size) (hc0 : ∀ j, j < L0 → v.cell? ⟨b0, o0 + j, none⟩ = some (.int .u8 (gt bs0 j))) (hL : L0 = 192) (hLC : L0 ≤ C0) (hf : ¬ frm bs0 false = true) : Calls Tryz.prog 18 #[.slice (some ⟨b0, o0, none⟩) L0 C0, .int .i64 96] v fun e w' => ∃ (u : Unit) (x : Bool), e = .returned (.tuple #[.int .i64 11, .bool x]) ∧ True ∧ Below v.heap.size v w' :=
 (cd_marks_96_l b0 o0 L0 C0 bs0 v hl0 ho0 hq0 hc0 hL hLC).mono fun e w' ⟨u, x, he, _, hb⟩ => ⟨u, x, by rw [he, if_neg hf], trivial, hb⟩
theorem marks2_l_near (b0 o0 L0 C0 : Nat) (bs0 : List Int) (v : World) (hl0 : bs0.length = L0) (ho0 : Oct bs0) (hq0 : b0 < v.heap.size) (hc0 : ∀ j, j < L0 → v.cell? ⟨b0, o0 + j, none⟩ = some (.int .u8 (gt bs0 j))) (hL : L0 = 192) (hLC : L0 ≤ C0) (hf : frm bs0 false = true) (h64 : 64 * (gt bs0 0 / 64 % 2) = 0) : Rets 18 #[.slice (some ⟨b0, o0, none⟩) L0 C0, .int .i64 96] v (.tuple #[.int .i64 0, .bool false]) :=
 (cd_marks_96_l b0 o0 L0 C0 bs0 v hl0 ho0 hq0 hc0 hL hLC).mono fun e w' ⟨u, x, he, hx, hb⟩ => ⟨by rw [he, if_pos hf, hx hf, decide_eq_false (not_not_intro h64)], hb⟩
theorem marks2_l_far (b0 o0 L0 C0 : Nat) (bs0 : List Int) (v : World) (hl0 : bs0.length = L0) (ho0 : Oct bs0) (hq0 : b0 < v.heap.size) (hc0 : ∀ j, j < L0 → v.cell? ⟨b0, o0 + j, none⟩ = some (.int .u8 (gt bs0 j))) (hL : L0 = 192) (hLC : L0 ≤ C0) (hf : frm bs0 false = true) (h64 : ¬ 64 * (gt bs0 0 / 64 % 2) = 0) : Rets 18 #[.slice (some ⟨b0, o0, none⟩) L0 C0, .int .i64 96] v (.tuple #[.int .i64 0, .bool true]) :=
 (cd_marks_96_l b0 o0 L0 C0 bs0 v hl0 ho0 hq0 hc0 hL hLC).mono fun e w' ⟨u, x, he, hx, hb⟩ => ⟨by rw [he, if_pos hf, hx hf, decide_eq_true h64], hb⟩
attribute [local irreducible] wpL wpF fr Code.wp bodyPost
set_option maxRecDepth 100000 in
set_option maxHeartbeats 4000000 in
theorem cd_lng_t (A0 : Option Addr) (L0 C0 : Nat) (v : World) (h : 400 < L0) : Rets 14 #[.slice A0 L0 C0] v (.bool true) := by
 refine calls_fr1 Tryz.func14 rfl (by rfl : _ = 6) (by rfl) ?_
 have hw := Hbl.nil v
 refine seq_plain hw [0] (by rfl) ?_
 refine lv (.bool false) (h := ?_)
 refine L_end ?_
 intro w1 hw1
 refine seq_plain hw1 [0, 1, 2, 3] (by rfl) ?_
 refine lv (.slice A0 L0 C0) (h := ?_)
 refine L_val (.int .i64 (L0 : Int)) (by rfl) (by rfl) (gives_len _ L0 C0 und_u8s (by rfl)) ?_
 refine L_val (.bool true) (by rfl) (by rfl) (gives_gtr (k := .i64) ((L0 : Int)) (400) true (by rfl) (by rfl) (decide_eq_true (by omega))) ?_
 refine lv (.bool true) (h := ?_)
 refine L_end ?_
 intro w2 hw2
 refine wp_ret ?_
 change bodyPost _ _ _ Exit.ret _ _
 refine (ret_tmp (by rfl) (by rfl) (by rfl) ⟨rfl, hw2.below⟩)
set_option maxRecDepth 100000 in
set_option maxHeartbeats 4000000 in
theorem cd_lng_f (A0 : Option Addr) (L0 C0 : Nat) (v : World) (h : ¬ 400 < L0) : Rets 14 #[.slice A0 L0 C0] v (.bool false) := by
 refine calls_fr1 Tryz.func14 rfl (by rfl : _ = 6) (by rfl) ?_
 have hw := Hbl.nil v
 refine seq_plain hw [0] (by rfl) ?_
 refine lv (.bool false) (h := ?_)
 refine L_end ?_
 intro w1 hw1
 refine seq_plain hw1 [0, 1, 2, 3] (by rfl) ?_
 refine lv (.slice A0 L0 C0) (h := ?_)
 refine L_val (.int .i64 (L0 : Int)) (by rfl) (by rfl) (gives_len _ L0 C0 und_u8s (by rfl)) ?_
 refine L_val (.bool false) (by rfl) (by rfl) (gives_gtr (k := .i64) ((L0 : Int)) (400) false (by rfl) (by rfl) (decide_eq_false (by omega))) ?_
 refine lv (.bool false) (h := ?_)
 refine L_end ?_
 intro w2 hw2
 refine wp_ret ?_
 change bodyPost _ _ _ Exit.ret _ _
 refine (ret_tmp (by rfl) (by rfl) (by rfl) ⟨rfl, hw2.below⟩)
set_option maxRecDepth 100000 in
set_option maxHeartbeats 4000000 in
theorem cd_readg2_e (b0 o0 L0 C0 : Nat) (bs0 : List Int) (v : World) (hl0 : bs0.length = L0) (ho0 : Oct bs0) (hq0 : b0 < v.heap.size) (hc0 : ∀ j, j < L0 → v.cell? ⟨b0, o0 + j, none⟩ = some (.int .u8 (gt bs0 j))) (hr0 : Reads v v.heap.size (some ⟨b0, o0, none⟩) L0 (bs0.map (Value.int .u8))) (hLC : L0 ≤ C0) (hLm : L0 ≤ 1000) (hG : Glo v) (hR : GloR v) (hQ : GQp v) (hU : GUp v) (x y : F2) (e : Int) (hpt : pt2 (L0 : Int) bs0 = (x, y, e)) (he : e ≠ 0) : Rets 28 #[.slice (some ⟨b0, o0, none⟩) L0 C0] v (.tuple #[.agg (cg2 0), .int .i64 e]) := by
 obtain ⟨k0, hk0⟩ : ∃ k : F2, k = F2.sm 4 4 := ⟨_, rfl⟩
 refine calls_fr1 Tryz.func28 rfl (by rfl : _ = 30) (by rfl) ?_
 have hw := Hbl.nil v
 refine seq_plain hw [0, 1] (by rfl) ?_
 refine L_alloc _ (by rfl) (by rfl) z_g2 (cg2 (0 : Pt F2)) rfl ?_; intro g1
 refine lv (.int .i64 0) (h := ?_)
 refine L_end ?_
 intro w1 hw1
 refine seq_plain hw1 [0, 1, 2, 3] (by rfl) ?_
 refine L_val (.agg (c2 (k0))) (by rfl) (by rfl) (gives_call (vl := [.int .u64 4, .int .u64 4]) (by kernel_rfl) (by rfl) (fun w h => by rw [hk0]; exact q_small _ _ w (hG.keep h.below) (by omega) (by simp only [Wd]; omega) (by omega) (by simp only [Wd]; omega))) ?_
 refine L_val (.agg (grp2 (k0))) (by rfl) (by rfl) (gives_buildG2 _ (by rfl) (by rfl) (by rfl)) ?_
 refine L_alloc _ (by rfl) (by rfl) z_grp2 grp2z rfl ?_; intro g2
 refine L_store (t := 109) 0 g2 grp2z (grp2 (k0)) (by rfl) (by rfl) (by rfl) (by rfl) (by rfl) (hi_grp2 (k0)) ((grp2_size (k0)).trans grp2z_size.symm) (grp2_one (k0)) ?_
 simp only [List.set_cons_zero, List.set_cons_succ]
 refine L_end ?_
 intro w2 hw2
 refine seq_plain hw2 [0, 1, 2, 3, 4, 5, 6, 7, 8, 9, 10, 11] (by rfl) ?_
 refine L_val (.agg (grp2 (k0))) (by rfl) (by rfl) (gL g2 109 (grp2 (k0)) 0 Tryz.underlying109 (hi_grp2 (k0))) ?_
 refine lv (.slice (some ⟨b0, o0, none⟩) L0 C0) (h := ?_)
 refine L_val (.tuple #[.agg (c2 (x)), .agg (c2 (y)), .int .i64 e]) (by rfl) (by rfl) (gives_call (vl := [.agg (grp2 (k0)), .slice (some ⟨b0, o0, none⟩) L0 C0]) (by kernel_rfl) (by rfl) (fun w h => (by have hp := cd_point2 b0 o0 L0 C0 bs0 k0 hk0 w hl0 ho0 (Nat.lt_of_lt_of_le hq0 h.below.size) (fun j hj => (h.below.cell (p := ⟨b0, _, none⟩) hq0).trans (hc0 j hj)) ((hr0.below h.below).more h.below.size) hLC hLm (hG.keep h.below) (hQ.keep h.below) (hU.keep h.below); rw [hpt] at hp; exact hp))) ?_
 refine lv (.tuple #[.agg (c2 (x)), .agg (c2 (y)), .int .i64 e]) (h := ?_)
 refine L_val (.agg (c2 (x))) (by rfl) (by rfl) gk ?_
 refine L_val (.agg (c2 (y))) (by rfl) (by rfl) gk ?_
 refine L_val (.int .i64 e) (by rfl) (by rfl) gk ?_
 refine L_alloc _ (by rfl) (by rfl) z_2 (c2 (0 : F2)) rfl ?_; intro g3
 refine L_alloc _ (by rfl) (by rfl) z_2 (c2 (0 : F2)) rfl ?_; intro g4
 refine L_store (t := 46) 1 g3 _ _ (by rfl) (by rfl) (by rfl) (by rfl) (by rfl) (hi_2 _) ((c2_size _).trans (c2_size _).symm) (c2_one _) ?_
 simp only [List.set_cons_zero, List.set_cons_succ]
 refine L_store (t := 46) 0 g4 _ _ (by rfl) (by rfl) (by rfl) (by rfl) (by rfl) (hi_2 _) ((c2_size _).trans (c2_size _).symm) (c2_one _) ?_
 simp only [List.set_cons_zero, List.set_cons_succ]
 refine lv (.int .i64 e) (h := ?_)
 refine L_end ?_
 intro w3 hw3
 refine wp_seq ?_
 refine seq_plain hw3 [0, 1] (by rfl) ?_
 refine lv (.int .i64 e) (h := ?_)
 refine L_val (.bool true) (by rfl) (by rfl) (gives_ine (k := .i64) (e) (0) true (by rfl) (by rfl) (decide_eq_true (by omega))) ?_
 refine L_end ?_
 intro w4 hw4
 refine wp_cond_true (fr_at _ _ (by rfl) _) ?_
 refine seq_plain hw4 [0, 1, 2, 3] (by rfl) ?_
 refine L_val (.agg (cg2 (0 : Pt F2))) (by rfl) (by rfl) (gb_g2 [] trivial (by rfl) (cg2 (0 : Pt F2)) (by rfl)) ?_
 refine lv (.int .i64 e) (h := ?_)
 refine L_store (t := 48) 3 g1 _ _ (by rfl) (by rfl) (by rfl) (by rfl) (by rfl) (hi_g2 _) ((cg2_size _).trans (cg2_size _).symm) (cg2_one _) ?_
 simp only [List.set_cons_zero, List.set_cons_succ]
 refine lv (.int .i64 e) (h := ?_)
 refine L_end ?_
 intro w5 hw5
 refine wp_ret ?_
 change bodyPost _ _ _ Exit.ret _ _
 refine (ret_cell_tmp (by rfl) (by rfl) (by rfl) (by rfl) (hw5.blk 3 (by rfl)) Tryz.underlying48 (by rfl) (hi_g2 _) ⟨rfl, hw5.below⟩)
set_option maxRecDepth 100000 in
set_option maxHeartbeats 4000000 in
theorem cd_readg2_t (b0 o0 L0 C0 : Nat) (bs0 : List Int) (v : World) (hl0 : bs0.length = L0) (ho0 : Oct bs0) (hq0 : b0 < v.heap.size) (hc0 : ∀ j, j < L0 → v.cell? ⟨b0, o0 + j, none⟩ = some (.int .u8 (gt bs0 j))) (hr0 : Reads v v.heap.size (some ⟨b0, o0, none⟩) L0 (bs0.map (Value.int .u8))) (hLC : L0 ≤ C0) (hLm : L0 ≤ 1000) (hG : Glo v) (hR : GloR v) (hQ : GQp v) (hU : GUp v) (x y : F2) (hpt : pt2 (L0 : Int) bs0 = (x, y, 0)) (hon : OnC (F2.sm 4 4) ⟨x, y⟩) (hin : gMul F2.inv (⟨x, y⟩ : Pt F2) (-1) = -(⟨x, y⟩ : Pt F2)) : Rets 28 #[.slice (some ⟨b0, o0, none⟩) L0 C0] v (.tuple #[.agg (cg2 (⟨x, y⟩ : Pt F2)), .int .i64 0]) := by
 obtain ⟨k0, hk0⟩ : ∃ k : F2, k = F2.sm 4 4 := ⟨_, rfl⟩
 refine calls_fr1 Tryz.func28 rfl (by rfl : _ = 30) (by rfl) ?_
 have hw := Hbl.nil v
 refine seq_plain hw [0, 1] (by rfl) ?_
 refine L_alloc _ (by rfl) (by rfl) z_g2 (cg2 (0 : Pt F2)) rfl ?_; intro g1
 refine lv (.int .i64 0) (h := ?_)
 refine L_end ?_
 intro w1 hw1
 refine seq_plain hw1 [0, 1, 2, 3] (by rfl) ?_
 refine L_val (.agg (c2 (k0))) (by rfl) (by rfl) (gives_call (vl := [.int .u64 4, .int .u64 4]) (by kernel_rfl) (by rfl) (fun w h => by rw [hk0]; exact q_small _ _ w (hG.keep h.below) (by omega) (by simp only [Wd]; omega) (by omega) (by simp only [Wd]; omega))) ?_
 refine L_val (.agg (grp2 (k0))) (by rfl) (by rfl) (gives_buildG2 _ (by rfl) (by rfl) (by rfl)) ?_
 refine L_alloc _ (by rfl) (by rfl) z_grp2 grp2z rfl ?_; intro g2
 refine L_store (t := 109) 0 g2 grp2z (grp2 (k0)) (by rfl) (by rfl) (by rfl) (by rfl) (by rfl) (hi_grp2 (k0)) ((grp2_size (k0)).trans grp2z_size.symm) (grp2_one (k0)) ?_
 simp only [List.set_cons_zero, List.set_cons_succ]
 refine L_end ?_
 intro w2 hw2
 refine seq_plain hw2 [0, 1, 2, 3, 4, 5, 6, 7, 8, 9, 10, 11] (by rfl) ?_
 refine L_val (.agg (grp2 (k0))) (by rfl) (by rfl) (gL g2 109 (grp2 (k0)) 0 Tryz.underlying109 (hi_grp2 (k0))) ?_
 refine lv (.slice (some ⟨b0, o0, none⟩) L0 C0) (h := ?_)
 refine L_val (.tuple #[.agg (c2 (x)), .agg (c2 (y)), .int .i64 0]) (by rfl) (by rfl) (gives_call (vl := [.agg (grp2 (k0)), .slice (some ⟨b0, o0, none⟩) L0 C0]) (by kernel_rfl) (by rfl) (fun w h => (by have hp := cd_point2 b0 o0 L0 C0 bs0 k0 hk0 w hl0 ho0 (Nat.lt_of_lt_of_le hq0 h.below.size) (fun j hj => (h.below.cell (p := ⟨b0, _, none⟩) hq0).trans (hc0 j hj)) ((hr0.below h.below).more h.below.size) hLC hLm (hG.keep h.below) (hQ.keep h.below) (hU.keep h.below); rw [hpt] at hp; exact hp))) ?_
 refine lv (.tuple #[.agg (c2 (x)), .agg (c2 (y)), .int .i64 0]) (h := ?_)
 refine L_val (.agg (c2 (x))) (by rfl) (by rfl) gk ?_
 refine L_val (.agg (c2 (y))) (by rfl) (by rfl) gk ?_
 refine L_val (.int .i64 0) (by rfl) (by rfl) gk ?_
 refine L_alloc _ (by rfl) (by rfl) z_2 (c2 (0 : F2)) rfl ?_; intro g3
 refine L_alloc _ (by rfl) (by rfl) z_2 (c2 (0 : F2)) rfl ?_; intro g4
 refine L_store (t := 46) 1 g3 _ _ (by rfl) (by rfl) (by rfl) (by rfl) (by rfl) (hi_2 _) ((c2_size _).trans (c2_size _).symm) (c2_one _) ?_
 simp only [List.set_cons_zero, List.set_cons_succ]
 refine L_store (t := 46) 0 g4 _ _ (by rfl) (by rfl) (by rfl) (by rfl) (by rfl) (hi_2 _) ((c2_size _).trans (c2_size _).symm) (c2_one _) ?_
 simp only [List.set_cons_zero, List.set_cons_succ]
 refine lv (.int .i64 0) (h := ?_)
 refine L_end ?_
 intro w3 hw3
 refine wp_seq ?_
 refine seq_plain hw3 [0, 1] (by rfl) ?_
 refine lv (.int .i64 0) (h := ?_)
 refine L_val (.bool false) (by rfl) (by rfl) (gives_ine (k := .i64) (0) (0) false (by rfl) (by rfl) (by decide)) ?_
 refine L_end ?_
 intro w4 hw4
 refine wp_cond_false (fr_at _ _ (by rfl) _) ?_
 refine wp_skip ?_
 change Code.wp _ _ _ _ _
 refine seq_plain hw4 [0, 1, 2, 3, 4] (by rfl) ?_
 refine L_val (.agg (c2 (x))) (by rfl) (by rfl) (gL g3 46 (c2 (x)) 1 Tryz.underlying46 (hi_2 _)) ?_
 refine L_val (.agg (c2 (y))) (by rfl) (by rfl) (gL g4 46 (c2 (y)) 0 Tryz.underlying46 (hi_2 _)) ?_
 refine L_val (.agg (cg2 (⟨x, y⟩ : Pt F2))) (by rfl) (by rfl) (gb_g2 [(0, (c2 (x))), (1, (c2 (y)))] ⟨congrArg some (c2_size _).symm, congrArg some (c2_size _).symm, trivial⟩ (by rfl) (cg2 (⟨x, y⟩ : Pt F2)) (by rfl)) ?_
 refine L_alloc _ (by rfl) (by rfl) z_g2 (cg2 (0 : Pt F2)) rfl ?_; intro g5
 refine L_store (t := 48) 0 g5 _ _ (by rfl) (by rfl) (by rfl) (by rfl) (by rfl) (hi_g2 _) ((cg2_size _).trans (cg2_size _).symm) (cg2_one _) ?_
 simp only [List.set_cons_zero, List.set_cons_succ]
 refine L_end ?_
 intro w5 hw5
 refine wp_seq ?_
 refine seq_plain hw5 [0, 1, 2] (by rfl) ?_
 refine L_val (.agg (cg2 (⟨x, y⟩ : Pt F2))) (by rfl) (by rfl) (gL g5 48 (cg2 (⟨x, y⟩ : Pt F2)) 0 Tryz.underlying48 (hi_g2 _)) ?_
 refine L_val (.bool true) (by rfl) (by rfl) (gives_call (vl := [.agg (cg2 (⟨x, y⟩ : Pt F2))]) (by kernel_rfl) (by rfl) (fun w h => k2_int _ w (hG.keep h.below) (hR.keep h.below) hon hin)) ?_
 refine lv (.bool false) (h := ?_)
 refine L_end ?_
 intro w6 hw6
 refine wp_cond_false (fr_at _ _ (by rfl) _) ?_
 refine wp_skip ?_
 change Code.wp _ _ _ _ _
 refine seq_plain hw6 [0, 1, 2] (by rfl) ?_
 refine L_val (.agg (cg2 (⟨x, y⟩ : Pt F2))) (by rfl) (by rfl) (gL g5 48 (cg2 (⟨x, y⟩ : Pt F2)) 0 Tryz.underlying48 (hi_g2 _)) ?_
 refine L_store (t := 48) 4 g1 _ _ (by rfl) (by rfl) (by rfl) (by rfl) (by rfl) (hi_g2 _) ((cg2_size _).trans (cg2_size _).symm) (cg2_one _) ?_
 simp only [List.set_cons_zero, List.set_cons_succ]
 refine lv (.int .i64 0) (h := ?_)
 refine L_end ?_
 intro w7 hw7
 refine wp_ret ?_
 change bodyPost _ _ _ Exit.ret _ _
 refine (ret_cell_tmp (by rfl) (by rfl) (by rfl) (by rfl) (hw7.blk 4 (by rfl)) Tryz.underlying48 (by rfl) (hi_g2 _) ⟨rfl, hw7.below⟩)
set_option maxRecDepth 100000 in
set_option maxHeartbeats 4000000 in
theorem cd_readg2_n (b0 o0 L0 C0 : Nat) (bs0 : List Int) (v : World) (hl0 : bs0.length = L0) (ho0 : Oct bs0) (hq0 : b0 < v.heap.size) (hc0 : ∀ j, j < L0 → v.cell? ⟨b0, o0 + j, none⟩ = some (.int .u8 (gt bs0 j))) (hr0 : Reads v v.heap.size (some ⟨b0, o0, none⟩) L0 (bs0.map (Value.int .u8))) (hLC : L0 ≤ C0) (hLm : L0 ≤ 1000) (hG : Glo v) (hR : GloR v) (hQ : GQp v) (hU : GUp v) (x y : F2) (hpt : pt2 (L0 : Int) bs0 = (x, y, 0)) (hon : OnC (F2.sm 4 4) ⟨x, y⟩) (hin : ¬ gMul F2.inv (⟨x, y⟩ : Pt F2) (-1) = -(⟨x, y⟩ : Pt F2)) : Rets 28 #[.slice (some ⟨b0, o0, none⟩) L0 C0] v (.tuple #[.agg (cg2 0), .int .i64 14]) := by
 obtain ⟨k0, hk0⟩ : ∃ k : F2, k = F2.sm 4 4 := ⟨_, rfl⟩
 refine calls_fr1 Tryz.func28 rfl (by rfl : _ = 30) (by rfl) ?_
 have hw := Hbl.nil v
 refine seq_plain hw [0, 1] (by rfl) ?_
 refine L_alloc _ (by rfl) (by rfl) z_g2 (cg2 (0 : Pt F2)) rfl ?_; intro g1
 refine lv (.int .i64 0) (h := ?_)
 refine L_end ?_
 intro w1 hw1
 refine seq_plain hw1 [0, 1, 2, 3] (by rfl) ?_
 refine L_val (.agg (c2 (k0))) (by rfl) (by rfl) (gives_call (vl := [.int .u64 4, .int .u64 4]) (by kernel_rfl) (by rfl) (fun w h => by rw [hk0]; exact q_small _ _ w (hG.keep h.below) (by omega) (by simp only [Wd]; omega) (by omega) (by simp only [Wd]; omega))) ?_
 refine L_val (.agg (grp2 (k0))) (by rfl) (by rfl) (gives_buildG2 _ (by rfl) (by rfl) (by rfl)) ?_
 refine L_alloc _ (by rfl) (by rfl) z_grp2 grp2z rfl ?_; intro g2
 refine L_store (t := 109) 0 g2 grp2z (grp2 (k0)) (by rfl) (by rfl) (by rfl) (by rfl) (by rfl) (hi_grp2 (k0)) ((grp2_size (k0)).trans grp2z_size.symm) (grp2_one (k0)) ?_
 simp only [List.set_cons_zero, List.set_cons_succ]
 refine L_end ?_
 intro w2 hw2
 refine seq_plain hw2 [0, 1, 2, 3, 4, 5, 6, 7, 8, 9, 10, 11] (by rfl) ?_
 refine L_val (.agg (grp2 (k0))) (by rfl) (by rfl) (gL g2 109 (grp2 (k0)) 0 Tryz.underlying109 (hi_grp2 (k0))) ?_
 refine lv (.slice (some ⟨b0, o0, none⟩) L0 C0) (h := ?_)
 refine L_val (.tuple #[.agg (c2 (x)), .agg (c2 (y)), .int .i64 0]) (by rfl) (by rfl) (gives_call (vl := [.agg (grp2 (k0)), .slice (some ⟨b0, o0, none⟩) L0 C0]) (by kernel_rfl) (by rfl) (fun w h => (by have hp := cd_point2 b0 o0 L0 C0 bs0 k0 hk0 w hl0 ho0 (Nat.lt_of_lt_of_le hq0 h.below.size) (fun j hj => (h.below.cell (p := ⟨b0, _, none⟩) hq0).trans (hc0 j hj)) ((hr0.below h.below).more h.below.size) hLC hLm (hG.keep h.below) (hQ.keep h.below) (hU.keep h.below); rw [hpt] at hp; exact hp))) ?_
 refine lv (.tuple #[.agg (c2 (x)), .agg (c2 (y)), .int .i64 0]) (h := ?_)
 refine L_val (.agg (c2 (x))) (by rfl) (by rfl) gk ?_
 refine L_val (.agg (c2 (y))) (by rfl) (by rfl) gk ?_
 refine L_val (.int .i64 0) (by rfl) (by rfl) gk ?_
 refine L_alloc _ (by rfl) (by rfl) z_2 (c2 (0 : F2)) rfl ?_; intro g3
 refine L_alloc _ (by rfl) (by rfl) z_2 (c2 (0 : F2)) rfl ?_; intro g4
 refine L_store (t := 46) 1 g3 _ _ (by rfl) (by rfl) (by rfl) (by rfl) (by rfl) (hi_2 _) ((c2_size _).trans (c2_size _).symm) (c2_one _) ?_
 simp only [List.set_cons_zero, List.set_cons_succ]
 refine L_store (t := 46) 0 g4 _ _ (by rfl) (by rfl) (by rfl) (by rfl) (by rfl) (hi_2 _) ((c2_size _).trans (c2_size _).symm) (c2_one _) ?_
 simp only [List.set_cons_zero, List.set_cons_succ]
 refine lv (.int .i64 0) (h := ?_)
 refine L_end ?_
 intro w3 hw3
 refine wp_seq ?_
 refine seq_plain hw3 [0, 1] (by rfl) ?_
 refine lv (.int .i64 0) (h := ?_)
 refine L_val (.bool false) (by rfl) (by rfl) (gives_ine (k := .i64) (0) (0) false (by rfl) (by rfl) (by decide)) ?_
 refine L_end ?_
 intro w4 hw4
 refine wp_cond_false (fr_at _ _ (by rfl) _) ?_
 refine wp_skip ?_
 change Code.wp _ _ _ _ _
 refine seq_plain hw4 [0, 1, 2, 3, 4] (by rfl) ?_
 refine L_val (.agg (c2 (x))) (by rfl) (by rfl) (gL g3 46 (c2 (x)) 1 Tryz.underlying46 (hi_2 _)) ?_
 refine L_val (.agg (c2 (y))) (by rfl) (by rfl) (gL g4 46 (c2 (y)) 0 Tryz.underlying46 (hi_2 _)) ?_
 refine L_val (.agg (cg2 (⟨x, y⟩ : Pt F2))) (by rfl) (by rfl) (gb_g2 [(0, (c2 (x))), (1, (c2 (y)))] ⟨congrArg some (c2_size _).symm, congrArg some (c2_size _).symm, trivial⟩ (by rfl) (cg2 (⟨x, y⟩ : Pt F2)) (by rfl)) ?_
 refine L_alloc _ (by rfl) (by rfl) z_g2 (cg2 (0 : Pt F2)) rfl ?_; intro g5
 refine L_store (t := 48) 0 g5 _ _ (by rfl) (by rfl) (by rfl) (by rfl) (by rfl) (hi_g2 _) ((cg2_size _).trans (cg2_size _).symm) (cg2_one _) ?_
 simp only [List.set_cons_zero, List.set_cons_succ]
 refine L_end ?_
 intro w5 hw5
 refine wp_seq ?_
 refine seq_plain hw5 [0, 1, 2] (by rfl) ?_
 refine L_val (.agg (cg2 (⟨x, y⟩ : Pt F2))) (by rfl) (by rfl) (gL g5 48 (cg2 (⟨x, y⟩ : Pt F2)) 0 Tryz.underlying48 (hi_g2 _)) ?_
 refine L_val (.bool false) (by rfl) (by rfl) (gives_call (vl := [.agg (cg2 (⟨x, y⟩ : Pt F2))]) (by kernel_rfl) (by rfl) (fun w h => k2_inn _ w (hG.keep h.below) (hR.keep h.below) hon hin)) ?_
 refine lv (.bool true) (h := ?_)
 refine L_end ?_
 intro w6 hw6
 refine wp_cond_true (fr_at _ _ (by rfl) _) ?_
 refine seq_plain hw6 [0, 1, 2] (by rfl) ?_
 refine L_val (.agg (cg2 (0 : Pt F2))) (by rfl) (by rfl) (gb_g2 [] trivial (by rfl) (cg2 (0 : Pt F2)) (by rfl)) ?_
 refine L_store (t := 48) 4 g1 _ _ (by rfl) (by rfl) (by rfl) (by rfl) (by rfl) (hi_g2 _) ((cg2_size _).trans (cg2_size _).symm) (cg2_one _) ?_
 simp only [List.set_cons_zero, List.set_cons_succ]
 refine lv (.int .i64 14) (h := ?_)
 refine L_end ?_
 intro w7 hw7
 refine wp_ret ?_
 change bodyPost _ _ _ Exit.ret _ _
 refine (ret_cell_tmp (by rfl) (by rfl) (by rfl) (by rfl) (hw7.blk 4 (by rfl)) Tryz.underlying48 (by rfl) (hi_g2 _) ⟨rfl, hw7.below⟩)
end Go.Proofs.YtifnnckbcjafgabGreatDoor
