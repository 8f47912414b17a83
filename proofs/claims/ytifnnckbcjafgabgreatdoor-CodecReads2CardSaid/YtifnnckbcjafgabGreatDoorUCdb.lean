import Derived.Test.YtifnnckbcjafgabGreatDoorUCda
import Derived.Test.YtifnnckbcjafgabGreatDoorUCk
namespace Go.Proofs.YtifnnckbcjafgabGreatDoor
set_option linter.unusedSimpArgs false
set_option linter.unusedVariables false
open Go.RowKit
def blkB (bs : List Int) : Bool := (gt bs 0 % 32 == 0) && ((bs.drop 1).all (· == 0))
def frm (bs : List Int) (brief : Bool) : Bool :=
 if 32 * (gt bs 0 / 32) = 128 then brief else if 32 * (gt bs 0 / 32) = 160 then brief else if 32 * (gt bs 0 / 32) = 192 then brief && blkB bs
 else if 32 * (gt bs 0 / 32) = 64 then !brief && blkB bs else if 32 * (gt bs 0 / 32) = 0 then !brief else false
theorem gt_oct {bs : List Int} (h : Oct bs) (i : Nat) : 0 ≤ gt bs i ∧ gt bs i < 256 := by
 unfold gt
 rw [List.getD_eq_getElem?_getD]
 rcases Nat.lt_or_ge i bs.length with hi | hi
 ·rw [List.getElem?_eq_getElem hi]
  exact h _ (List.getElem_mem hi)
 ·rw [List.getElem?_eq_none hi]
  simp
theorem take_all {l : List Int} {k : Nat} (h : k < l.length) : (l.take (k + 1)).all (· == 0) = ((l.take k).all (· == 0) && (gt l k == 0)) := by
 rw [List.take_add_one, List.all_append, List.getElem?_eq_getElem h]
 simp [gt, List.getD_eq_getElem?_getD, List.getElem?_eq_getElem h]
theorem gt_drop (l : List Int) (i : Nat) : gt (l.drop 1) i = gt l (1 + i) := by simp [gt, List.getD_eq_getElem?_getD, Nat.add_comm]
theorem blank_step {bs : List Int} {R c : Int} {k : Nat} (hcz : c = 0 ↔ R = 0 ∧ gt bs (1 + k) = 0) (hR : R = 0 ↔ gt bs 0 % 32 = 0 ∧ ((bs.drop 1).take k).all (· == 0) = true) (hk : k < (bs.drop 1).length) :
  c = 0 ↔ gt bs 0 % 32 = 0 ∧ ((bs.drop 1).take (k + 1)).all (· == 0) = true := by
 rw [hcz, hR, take_all hk, gt_drop, Bool.and_eq_true, beq_iff_eq, and_assoc]
theorem blank_end {bs : List Int} {R : Int} {k L : Nat} (hR : R = 0 ↔ gt bs 0 % 32 = 0 ∧ ((bs.drop 1).take k).all (· == 0) = true) (hl : bs.length = L) (hk : k = L - 1) : decide (R = 0) = blkB bs := by
 rw [List.take_of_length_le (by simp; omega)] at hR
 unfold blkB
 by_cases h : R = 0
 ·obtain ⟨h1, h2⟩ := hR.1 h
  rw [decide_eq_true h, h1, h2]
  rfl
 ·rw [decide_eq_false h]
  by_cases h1 : gt bs 0 % 32 = 0
  ·have h2 : ((bs.drop 1).all (· == 0)) = false := by
    cases h3 : (bs.drop 1).all (· == 0) with
    | false => rfl
    | true => exact absurd (hR.2 ⟨h1, h3⟩) h
   rw [h2, Bool.and_false]
  ·rw [beq_false_of_ne h1, Bool.false_and]
theorem cell_at {w : World} {b i j : Nat} {u : Value} (h : w.cell? ⟨b, i, none⟩ = some u) (e : j = i) : w.cell? ⟨b, j, none⟩ = some u := e ▸ h
section
variable {P : Program} {S : World → Prop} {l : List (Nat × Value)} {dst : Option Nat} {x y : Operand} {t ty ct : TypeId} {pos : String} {after : Array Edge} {gd : Option (Nat × Bool)}
theorem gives_slice_fromB {e : TypeId} {k : IntKind} (b o m c j : Nat) (i : Int) (hx : rho l x = .slice (some ⟨b, o, none⟩) m c) (hy : rho l y = .int k i) (ht : P.underlying t = some (.slice e)) (hs : (P.info? e).map (·.size) = some 1) (h0 : i = (j : Int)) (h1 : j ≤ m) (h2 : j < c) :
  Gives P S (.slice (some ⟨b, o + j, none⟩) (m - j) (c - j)) (execOp (rho l) ⟨dst, .slice t x (some y) none none, ty, pos, after, gd⟩) := by
 have := gives_slice_from (P := P) (S := S) (dst := dst) (ty := ty) (pos := pos) (after := after) (gd := gd) (some ⟨b, o, none⟩) m c j i hx hy ht hs h0 h1 h2
 simpa [add_plain] using this
theorem gives_slice_fromQ {e : TypeId} {k : IntKind} (b o m c j : Nat) (i : Int) (q : Nat) (hx : rho l x = .slice (some ⟨b, o, none⟩) m c) (hy : rho l y = .int k i) (ht : P.underlying t = some (.slice e)) (hs : (P.info? e).map (·.size) = some 1) (h0 : i = (j : Int)) (h1 : j ≤ m) (h2 : j < c) (hq : m - j = q) :
  Gives P S (.slice (some ⟨b, o + j, none⟩) q (c - j)) (execOp (rho l) ⟨dst, .slice t x (some y) none none, ty, pos, after, gd⟩) := by
 subst hq
 exact gives_slice_fromB b o m c j i hx hy ht hs h0 h1 h2
end
attribute [local irreducible] wpL wpF fr Code.wp bodyPost
set_option maxRecDepth 100000 in
set_option maxHeartbeats 4000000 in
theorem cd_blank (b0 o0 L0 C0 : Nat) (bs0 : List Int) (v : World) (hl0 : bs0.length = L0) (ho0 : Oct bs0) (hq0 : b0 < v.heap.size) (hc0 : ∀ j, j < L0 → v.cell? ⟨b0, o0 + j, none⟩ = some (.int .u8 (gt bs0 j))) (hL : 1 < L0) (hLC : L0 ≤ C0) (hLm : L0 ≤ 1000) : Rets 129 #[.slice (some ⟨b0, o0, none⟩) L0 C0] v (.bool (blkB bs0)) := by
 refine calls_fr1 Tryz.func129 rfl (by rfl : _ = 23) (by rfl) ?_
 have hw := Hbl.nil v
 refine seq_plain hw [0] (by rfl) ?_
 refine lv (.bool false) (h := ?_)
 refine L_end ?_
 intro w1 hw1
 refine seq_plain hw1 [0, 1, 2, 3, 4] (by rfl) ?_
 refine lv (.slice (some ⟨b0, o0, none⟩) L0 C0) (h := ?_)
 refine L_val (.pointer (some ⟨b0, o0 + 0, none⟩)) (by rfl) (by rfl) (gives_index b0 (o0) L0 C0 (0) 0 (by rfl) (by rfl) und_u8s u8_sz rfl (by omega)) ?_
 refine L_val (.int .u8 (gt bs0 0)) (by rfl) (by rfl) (gives_load_old _ (.int .u8 (gt bs0 0)) (by rfl) (fun _ h => (h.below.cell (p := ⟨b0, _, none⟩) hq0).trans (hc0 0 (by omega))) und_u8') ?_
 refine L_val (.int .u8 ((gt bs0 0) % 32)) (by rfl) (by rfl) (gives_andNot (k := .u8) (gt bs0 0) 224 ((gt bs0 0) % 32) (by rfl) (by rfl) (clear_224 _ (gt_oct ho0 _).1 (gt_oct ho0 _).2)) ?_
 refine lv (.int .u8 ((gt bs0 0) % 32)) (h := ?_)
 refine L_end ?_
 intro w2 hw2
 refine wp_seq ?_
 refine seq_plain hw2 [0, 1, 2, 3] (by rfl) ?_
 refine lv (.slice (some ⟨b0, o0, none⟩) L0 C0) (h := ?_)
 refine L_val (.slice (some ⟨b0, o0 + 1, none⟩) (L0 - 1) (C0 - 1)) (by rfl) (by rfl) (gives_slice_fromB b0 (o0) L0 C0 1 1 (by rfl) (by rfl) und_u8s u8_sz (by rfl) (by omega) (by omega)) ?_
 refine L_val (.int .i64 (((L0 - 1) : Nat) : Int)) (by rfl) (by rfl) (gives_len _ (L0 - 1) (C0 - 1) und_u8s (by rfl)) ?_
 refine lv (.int .i64 0) (h := ?_)
 refine L_end ?_
 intro w3 hw3
 refine wp_block ?_
 refine loop_down (fun (r_ : Nat) a w => ∃ (k : Nat) (R : Int) (l_1 : List (Nat × Value)), L0 - 1 - k = r_ ∧ inFr 23 l_1 = true ∧ a = fr 23 ((3, .int .u8 R) :: (11, .slice (some ⟨b0, o0 + 1, none⟩) (L0 - 1) (C0 - 1)) :: (12, .int .i64 ((L0 - 1 : Nat) : Int)) :: (13, .int .i64 (k : Int)) :: l_1) ∧ (k ≤ L0 - 1) ∧ (0 ≤ R ∧ R < 256) ∧ (R = 0 ↔ gt bs0 0 % 32 = 0 ∧ ((bs0.drop 1).take k).all (· == 0) = true) ∧ Hbl v [] w) ?_ _ _ _ ⟨0, gt bs0 0 % 32, [(13, .int .i64 0), (12, .int .i64 (((L0 - 1) : Nat) : Int)), (11, .slice (some ⟨b0, o0 + 1, none⟩) (L0 - 1) (C0 - 1)), (10, .slice (some ⟨b0, o0, none⟩) L0 C0), (3, .int .u8 ((gt bs0 0) % 32)), (9, .int .u8 ((gt bs0 0) % 32)), (8, .int .u8 (gt bs0 0)), (7, .pointer (some ⟨b0, o0 + 0, none⟩)), (6, .slice (some ⟨b0, o0, none⟩) L0 C0), (2, .bool false), (0, .slice (some ⟨b0, o0, none⟩) L0 C0)], rfl, (by rfl), (Eq.trans (Eq.trans (Eq.trans (fr_dup _ _ 13 _ (by rfl) (by rfl) (by exact (congrArg (Value.int .i64) (by omega)))).symm (fr_dup _ _ 12 _ (by rfl) (by rfl) (by rfl)).symm) (fr_dup _ _ 11 _ (by rfl) (by rfl) (by rfl)).symm) (fr_dup _ _ 3 _ (by rfl) (by rfl) (by rfl)).symm), Nat.zero_le _, (by have := (gt_oct ho0 0).1; omega), (by simp), hw3⟩
 rintro r_1 a0 w0_1 ⟨k, R, l_1, hr_1, hl_1, rfl, hk, hR0, hR, hw0_1⟩
 by_cases hlt : k < L0 - 1
 ·
  obtain ⟨c, hc, hc0_, hc1_, hcz⟩ := cb_or R (gt bs0 (1 + k)) hR0.1 hR0.2 (gt_oct ho0 _).1 (gt_oct ho0 _).2
  refine seq_plain hw0_1 [0] (by rfl) ?_
  refine L_val (.bool true) (by rfl) (by exact hl_1) (gives_lss (k := .i64) ((k : Int)) (((L0 - 1 : Nat) : Int)) true (by rfl) (by rfl) (decide_eq_true (by omega))) ?_
  refine L_end ?_
  intro w4 hw4
  refine wp_seq ?_
  refine wp_cond_true (fr_at _ _ (by exact hl_1) _) ?_
  refine wp_skip ?_
  change Code.wp _ _ _ _ _
  refine wp_seq ?_
  refine wp_block ?_
  refine seq_plain hw4 [0, 1, 2] (by rfl) ?_
  refine L_val (.pointer (some ⟨b0, o0 + 1 + k, none⟩)) (by rfl) (by exact hl_1) (gives_index b0 (o0 + 1) (L0 - 1) (C0 - 1) ((k : Int)) k (by rfl) (by rfl) und_u8s u8_sz rfl (by omega)) ?_
  refine L_val (.int .u8 (gt bs0 (1 + k))) (by rfl) (by exact hl_1) (gives_load_old _ (.int .u8 (gt bs0 (1 + k))) (by rfl) (fun _ h => (h.below.cell (p := ⟨b0, _, none⟩) hq0).trans (cell_at (hc0 (1 + k) (by omega)) (by omega))) und_u8') ?_
  refine L_val (.int .u8 (gt bs0 (1 + k))) (by rfl) (by exact hl_1) gv ?_
  refine L_end ?_
  intro w5 hw5
  refine one_plain hw5 [0, 1, 2, 3] (by rfl) ?_
  refine L_val (.int .u8 R) (by rfl) (by exact hl_1) gv ?_
  refine L_val (.int .u8 (gt bs0 (1 + k))) (by rfl) (by exact hl_1) gv ?_
  refine L_val (.int .u8 c) (by rfl) (by exact hl_1) (gives_or (k := .u8) (R) (gt bs0 (1 + k)) c (by rfl) (by rfl) hc) ?_
  refine L_val (.int .u8 c) (by rfl) (by exact hl_1) gv ?_
  refine L_end ?_
  intro w6 hw6
  change Code.wp _ _ _ _ _
  refine one_plain hw6 [0, 1] (by rfl) ?_
  refine L_val (.int .i64 ((k : Int) + 1)) (by rfl) (by exact hl_1) (gives_add (k := .i64) ((k : Int)) (1) ((k : Int) + 1) (by rfl) (by rfl) (IntWalk.i64_in _ (by omega))) ?_
  refine L_val (.int .i64 ((k : Int) + 1)) (by rfl) (by exact hl_1) gv ?_
  refine L_end ?_
  intro w7 hw7
  change ∃ r' : Nat, r' < r_1 ∧ _
  refine ⟨_, ?_, k + 1, c, ((13, .int .i64 ((k : Int) + 1)) :: (20, .int .i64 ((k : Int) + 1)) :: (3, .int .u8 c) :: (19, .int .u8 c) :: (18, .int .u8 (gt bs0 (1 + k))) :: (17, .int .u8 R) :: (5, .int .u8 (gt bs0 (1 + k))) :: (16, .int .u8 (gt bs0 (1 + k))) :: (15, .pointer (some ⟨b0, o0 + 1 + k, none⟩)) :: (14, .bool true) :: (3, .int .u8 R) :: (11, .slice (some ⟨b0, o0 + 1, none⟩) (L0 - 1) (C0 - 1)) :: (12, .int .i64 ((L0 - 1 : Nat) : Int)) :: (13, .int .i64 (k : Int)) :: l_1), rfl, (by exact hl_1), (Eq.trans (Eq.trans (Eq.trans (fr_dup _ _ 13 _ (by exact hl_1) (by rfl) (by exact (congrArg (Value.int .i64) (by omega)))).symm (fr_dup _ _ 12 _ (by exact hl_1) (by rfl) (by rfl)).symm) (fr_dup _ _ 11 _ (by exact hl_1) (by rfl) (by rfl)).symm) (fr_dup _ _ 3 _ (by exact hl_1) (by rfl) (by rfl)).symm), by omega, ⟨hc0_, hc1_⟩, blank_step hcz hR (by simp; omega), hw7⟩
  omega
 ·
  refine seq_plain hw0_1 [0] (by rfl) ?_
  refine L_val (.bool false) (by rfl) (by exact hl_1) (gives_lss (k := .i64) ((k : Int)) (((L0 - 1 : Nat) : Int)) false (by rfl) (by rfl) (decide_eq_false (by omega))) ?_
  refine L_end ?_
  intro w8 hw8
  refine wp_seq ?_
  refine wp_cond_false (fr_at _ _ (by exact hl_1) _) ?_
  refine wp_exit ?_
  have hkN : k = L0 - 1 := by omega
  change Code.wp _ _ _ _ _
  change Code.wp _ _ _ _ _
  refine seq_plain hw8 [0, 1, 2] (by rfl) ?_
  refine L_val (.int .u8 R) (by rfl) (by exact hl_1) gv ?_
  refine L_val (.bool (decide (R = 0))) (by rfl) (by exact hl_1) (gives_ieq (k := .u8) (R) (0) (decide (R = 0)) (by rfl) (by rfl) rfl) ?_
  refine L_val (.bool (decide (R = 0))) (by rfl) (by exact hl_1) gv ?_
  refine L_end ?_
  intro w9 hw9
  refine wp_ret ?_
  change bodyPost _ _ _ Exit.ret _ _
  refine (ret_tmp (by rfl) (by exact hl_1) (by rfl) ⟨?_, hw9.below⟩)
  exact congrArg (fun b => Ending.returned (.bool b)) (blank_end hR hl0 hkN)
theorem cd_blank_t (b0 o0 L0 C0 : Nat) (bs0 : List Int) (v : World) (hl0 : bs0.length = L0) (ho0 : Oct bs0) (hq0 : b0 < v.heap.size) (hc0 : ∀ j, j < L0 → v.cell? ⟨b0, o0 + j, none⟩ = some (.int .u8 (gt bs0 j))) (hL : 1 < L0) (hLC : L0 ≤ C0) (hLm : L0 ≤ 1000) (h : blkB bs0 = true) : Rets 129 #[.slice (some ⟨b0, o0, none⟩) L0 C0] v (.bool true) := by
 have := cd_blank b0 o0 L0 C0 bs0 v hl0 ho0 hq0 hc0 hL hLC hLm
 rwa [h] at this
theorem cd_blank_f (b0 o0 L0 C0 : Nat) (bs0 : List Int) (v : World) (hl0 : bs0.length = L0) (ho0 : Oct bs0) (hq0 : b0 < v.heap.size) (hc0 : ∀ j, j < L0 → v.cell? ⟨b0, o0 + j, none⟩ = some (.int .u8 (gt bs0 j))) (hL : 1 < L0) (hLC : L0 ≤ C0) (hLm : L0 ≤ 1000) (h : ¬ blkB bs0 = true) : Rets 129 #[.slice (some ⟨b0, o0, none⟩) L0 C0] v (.bool false) := by
 have := cd_blank b0 o0 L0 C0 bs0 v hl0 ho0 hq0 hc0 hL hLC hLm
 rwa [Bool.eq_false_iff.2 h] at this
set_option maxRecDepth 100000 in
set_option maxHeartbeats 4000000 in
theorem cd_formed_t (b0 o0 L0 C0 : Nat) (bs0 : List Int) (v : World) (hl0 : bs0.length = L0) (ho0 : Oct bs0) (hq0 : b0 < v.heap.size) (hc0 : ∀ j, j < L0 → v.cell? ⟨b0, o0 + j, none⟩ = some (.int .u8 (gt bs0 j))) (hL : 1 < L0) (hLC : L0 ≤ C0) (hLm : L0 ≤ 1000) : Rets 108 #[.slice (some ⟨b0, o0, none⟩) L0 C0, .bool true] v (.bool (frm bs0 true)) := by
 refine calls_fr2 Tryz.func108 rfl (by rfl : _ = 32) (by rfl) ?_
 have hw := Hbl.nil v
 refine seq_plain hw [0] (by rfl) ?_
 refine lv (.bool false) (h := ?_)
 refine L_end ?_
 intro w1 hw1
 refine wp_seq ?_
 refine seq_plain hw1 [0, 1, 2, 3] (by rfl) ?_
 refine lv (.slice (some ⟨b0, o0, none⟩) L0 C0) (h := ?_)
 refine L_val (.pointer (some ⟨b0, o0 + 0, none⟩)) (by rfl) (by rfl) (gives_index b0 (o0) L0 C0 (0) 0 (by rfl) (by rfl) und_u8s u8_sz rfl (by omega)) ?_
 refine L_val (.int .u8 (gt bs0 0)) (by rfl) (by rfl) (gives_load_old _ (.int .u8 (gt bs0 0)) (by rfl) (fun _ h => (h.below.cell (p := ⟨b0, _, none⟩) hq0).trans (hc0 0 (by omega))) und_u8') ?_
 refine L_val (.int .u8 (32 * ((gt bs0 0) / 32))) (by rfl) (by rfl) (gives_and (k := .u8) (gt bs0 0) 224 (32 * ((gt bs0 0) / 32)) (by rfl) (by rfl) (and_224 _ (gt_oct ho0 _).1 (gt_oct ho0 _).2)) ?_
 refine L_end ?_
 intro w2 hw2
 refine wp_block ?_
 refine wp_seq ?_
 refine seq_plain hw2 [0, 1] (by rfl) ?_
 by_cases hf0 : (32 * ((gt bs0 0) / 32)) = 128
 ·
  refine L_val (.bool true) (by rfl) (by rfl) (gives_ieq (k := .u8) (32 * ((gt bs0 0) / 32)) (128) true (by rfl) (by rfl) (decide_eq_true (by omega))) ?_
  refine lv (.bool true) (h := ?_)
  refine L_end ?_
  intro w3 hw3
  refine wp_cond_true (fr_at _ _ (by rfl) _) ?_
  refine wp_skip ?_
  change Code.wp _ _ _ _ _
  refine wp_cond_true (fr_at _ _ (by rfl) _) ?_
  refine seq_plain hw3 [0, 1] (by rfl) ?_
  refine lv (.bool true) (h := ?_)
  refine lv (.bool true) (h := ?_)
  refine L_end ?_
  intro w4 hw4
  refine wp_ret ?_
  change bodyPost _ _ _ Exit.ret _ _
  refine (ret_tmp (by rfl) (by rfl) (by rfl) ⟨?_, hw4.below⟩)
  exact congrArg (fun b => Ending.returned (.bool b)) (by simp [frm, hf0])
 ·
  refine L_val (.bool false) (by rfl) (by rfl) (gives_ieq (k := .u8) (32 * ((gt bs0 0) / 32)) (128) false (by rfl) (by rfl) (decide_eq_false (by omega))) ?_
  refine lv (.bool false) (h := ?_)
  refine L_end ?_
  intro w3 hw3
  refine wp_cond_false (fr_at _ _ (by rfl) _) ?_
  refine one_plain hw3 [0, 1] (by rfl) ?_
  by_cases hf1 : (32 * ((gt bs0 0) / 32)) = 160
  ·
   refine L_val (.bool true) (by rfl) (by rfl) (gives_ieq (k := .u8) (32 * ((gt bs0 0) / 32)) (160) true (by rfl) (by rfl) (decide_eq_true (by omega))) ?_
   refine lv (.bool true) (h := ?_)
   refine L_end ?_
   intro w4 hw4
   change Code.wp _ _ _ _ _
   refine wp_cond_true (fr_at _ _ (by rfl) _) ?_
   refine seq_plain hw4 [0, 1] (by rfl) ?_
   refine lv (.bool true) (h := ?_)
   refine lv (.bool true) (h := ?_)
   refine L_end ?_
   intro w5 hw5
   refine wp_ret ?_
   change bodyPost _ _ _ Exit.ret _ _
   refine (ret_tmp (by rfl) (by rfl) (by rfl) ⟨?_, hw5.below⟩)
   exact congrArg (fun b => Ending.returned (.bool b)) (by simp [frm, hf0, hf1])
  ·
   refine L_val (.bool false) (by rfl) (by rfl) (gives_ieq (k := .u8) (32 * ((gt bs0 0) / 32)) (160) false (by rfl) (by rfl) (decide_eq_false (by omega))) ?_
   refine lv (.bool false) (h := ?_)
   refine L_end ?_
   intro w4 hw4
   change Code.wp _ _ _ _ _
   refine wp_cond_false (fr_at _ _ (by rfl) _) ?_
   refine seq_plain hw4 [0, 1] (by rfl) ?_
   by_cases hf2 : (32 * ((gt bs0 0) / 32)) = 192
   ·
    refine L_val (.bool true) (by rfl) (by rfl) (gives_ieq (k := .u8) (32 * ((gt bs0 0) / 32)) (192) true (by rfl) (by rfl) (decide_eq_true (by omega))) ?_
    refine lv (.bool true) (h := ?_)
    refine L_end ?_
    intro w5 hw5
    refine wp_cond_true (fr_at _ _ (by rfl) _) ?_
    refine seq_plain hw5 [0, 1, 2, 3, 4, 5] (by rfl) ?_
    refine lv (.bool true) (h := ?_)
    refine lv (.bool true) (h := ?_)
    refine L_val_g (dj := 16) (.slice (some ⟨b0, o0, none⟩) L0 C0) (by rfl) (by rfl) (by rfl) (by rfl) (by rfl) gv ?_
    by_cases hf3 : blkB bs0 = true
    ·
     refine L_val_g (dj := 16) (.bool true) (by rfl) (by rfl) (by rfl) (by rfl) (by rfl) (gives_call (vl := [.slice (some ⟨b0, o0, none⟩) L0 C0]) (by kernel_rfl) (by rfl) (fun w h => cd_blank_t _ _ _ _ _ w hl0 ho0 (Nat.lt_of_lt_of_le hq0 h.below.size) (fun j hj => (h.below.cell (p := ⟨b0, _, none⟩) hq0).trans (hc0 j hj)) hL hLC hLm hf3)) ?_
     refine lv (.bool true) (h := ?_)
     refine lv (.bool true) (h := ?_)
     refine L_end ?_
     intro w6 hw6
     refine wp_ret ?_
     change bodyPost _ _ _ Exit.ret _ _
     refine (ret_tmp (by rfl) (by rfl) (by rfl) ⟨?_, hw6.below⟩)
     exact congrArg (fun b => Ending.returned (.bool b)) (by simp [frm, hf0, hf1, hf2, hf3])
    ·
     refine L_val_g (dj := 16) (.bool false) (by rfl) (by rfl) (by rfl) (by rfl) (by rfl) (gives_call (vl := [.slice (some ⟨b0, o0, none⟩) L0 C0]) (by kernel_rfl) (by rfl) (fun w h => cd_blank_f _ _ _ _ _ w hl0 ho0 (Nat.lt_of_lt_of_le hq0 h.below.size) (fun j hj => (h.below.cell (p := ⟨b0, _, none⟩) hq0).trans (hc0 j hj)) hL hLC hLm hf3)) ?_
     refine lv (.bool false) (h := ?_)
     refine lv (.bool false) (h := ?_)
     refine L_end ?_
     intro w6 hw6
     refine wp_ret ?_
     change bodyPost _ _ _ Exit.ret _ _
     refine (ret_tmp (by rfl) (by rfl) (by rfl) ⟨?_, hw6.below⟩)
     exact congrArg (fun b => Ending.returned (.bool b)) (by simp [frm, hf0, hf1, hf2, hf3])
   ·
    refine L_val (.bool false) (by rfl) (by rfl) (gives_ieq (k := .u8) (32 * ((gt bs0 0) / 32)) (192) false (by rfl) (by rfl) (decide_eq_false (by omega))) ?_
    refine lv (.bool false) (h := ?_)
    refine L_end ?_
    intro w5 hw5
    refine wp_cond_false (fr_at _ _ (by rfl) _) ?_
    refine seq_plain hw5 [0, 1] (by rfl) ?_
    by_cases hf3 : (32 * ((gt bs0 0) / 32)) = 64
    ·
     refine L_val (.bool true) (by rfl) (by rfl) (gives_ieq (k := .u8) (32 * ((gt bs0 0) / 32)) (64) true (by rfl) (by rfl) (decide_eq_true (by omega))) ?_
     refine lv (.bool true) (h := ?_)
     refine L_end ?_
     intro w6 hw6
     refine wp_cond_true (fr_at _ _ (by rfl) _) ?_
     refine seq_plain hw6 [0, 1, 2, 3, 4, 5, 6] (by rfl) ?_
     refine lv (.bool true) (h := ?_)
     refine lv (.bool false) (h := ?_)
     refine lv (.bool false) (h := ?_)
     refine lS (dj := 24) (h := ?_)
     refine lS (dj := 24) (h := ?_)
     refine lv (.bool false) (h := ?_)
     refine lv (.bool false) (h := ?_)
     refine L_end ?_
     intro w7 hw7
     refine wp_ret ?_
     change bodyPost _ _ _ Exit.ret _ _
     refine (ret_tmp (by rfl) (by rfl) (by rfl) ⟨?_, hw7.below⟩)
     exact congrArg (fun b => Ending.returned (.bool b)) (by simp [frm, hf0, hf1, hf2, hf3])
    ·
     refine L_val (.bool false) (by rfl) (by rfl) (gives_ieq (k := .u8) (32 * ((gt bs0 0) / 32)) (64) false (by rfl) (by rfl) (decide_eq_false (by omega))) ?_
     refine lv (.bool false) (h := ?_)
     refine L_end ?_
     intro w6 hw6
     refine wp_cond_false (fr_at _ _ (by rfl) _) ?_
     refine seq_plain hw6 [0, 1] (by rfl) ?_
     by_cases hf4 : (32 * ((gt bs0 0) / 32)) = 0
     ·
      refine L_val (.bool true) (by rfl) (by rfl) (gives_ieq (k := .u8) (32 * ((gt bs0 0) / 32)) (0) true (by rfl) (by rfl) (decide_eq_true (by omega))) ?_
      refine lv (.bool true) (h := ?_)
      refine L_end ?_
      intro w7 hw7
      refine wp_cond_true (fr_at _ _ (by rfl) _) ?_
      refine seq_plain hw7 [0, 1, 2] (by rfl) ?_
      refine lv (.bool true) (h := ?_)
      refine lv (.bool false) (h := ?_)
      refine lv (.bool false) (h := ?_)
      refine L_end ?_
      intro w8 hw8
      refine wp_ret ?_
      change bodyPost _ _ _ Exit.ret _ _
      refine (ret_tmp (by rfl) (by rfl) (by rfl) ⟨?_, hw8.below⟩)
      exact congrArg (fun b => Ending.returned (.bool b)) (by simp [frm, hf0, hf1, hf2, hf3, hf4])
     ·
      refine L_val (.bool false) (by rfl) (by rfl) (gives_ieq (k := .u8) (32 * ((gt bs0 0) / 32)) (0) false (by rfl) (by rfl) (decide_eq_false (by omega))) ?_
      refine lv (.bool false) (h := ?_)
      refine L_end ?_
      intro w7 hw7
      refine wp_cond_false (fr_at _ _ (by rfl) _) ?_
      refine wp_skip ?_
      change Code.wp _ _ _ _ _
      refine seq_plain hw7 [0] (by rfl) ?_
      refine lv (.bool false) (h := ?_)
      refine L_end ?_
      intro w8 hw8
      refine wp_ret ?_
      change bodyPost _ _ _ Exit.ret _ _
      refine (ret_tmp (by rfl) (by rfl) (by rfl) ⟨?_, hw8.below⟩)
      exact congrArg (fun b => Ending.returned (.bool b)) (by simp [frm, hf0, hf1, hf2, hf3, hf4])
set_option maxRecDepth 100000 in
set_option maxHeartbeats 4000000 in
theorem cd_formed_f (b0 o0 L0 C0 : Nat) (bs0 : List Int) (v : World) (hl0 : bs0.length = L0) (ho0 : Oct bs0) (hq0 : b0 < v.heap.size) (hc0 : ∀ j, j < L0 → v.cell? ⟨b0, o0 + j, none⟩ = some (.int .u8 (gt bs0 j))) (hL : 1 < L0) (hLC : L0 ≤ C0) (hLm : L0 ≤ 1000) : Rets 108 #[.slice (some ⟨b0, o0, none⟩) L0 C0, .bool false] v (.bool (frm bs0 false)) := by
 refine calls_fr2 Tryz.func108 rfl (by rfl : _ = 32) (by rfl) ?_
 have hw := Hbl.nil v
 refine seq_plain hw [0] (by rfl) ?_
 refine lv (.bool false) (h := ?_)
 refine L_end ?_
 intro w1 hw1
 refine wp_seq ?_
 refine seq_plain hw1 [0, 1, 2, 3] (by rfl) ?_
 refine lv (.slice (some ⟨b0, o0, none⟩) L0 C0) (h := ?_)
 refine L_val (.pointer (some ⟨b0, o0 + 0, none⟩)) (by rfl) (by rfl) (gives_index b0 (o0) L0 C0 (0) 0 (by rfl) (by rfl) und_u8s u8_sz rfl (by omega)) ?_
 refine L_val (.int .u8 (gt bs0 0)) (by rfl) (by rfl) (gives_load_old _ (.int .u8 (gt bs0 0)) (by rfl) (fun _ h => (h.below.cell (p := ⟨b0, _, none⟩) hq0).trans (hc0 0 (by omega))) und_u8') ?_
 refine L_val (.int .u8 (32 * ((gt bs0 0) / 32))) (by rfl) (by rfl) (gives_and (k := .u8) (gt bs0 0) 224 (32 * ((gt bs0 0) / 32)) (by rfl) (by rfl) (and_224 _ (gt_oct ho0 _).1 (gt_oct ho0 _).2)) ?_
 refine L_end ?_
 intro w2 hw2
 refine wp_block ?_
 refine wp_seq ?_
 refine seq_plain hw2 [0, 1] (by rfl) ?_
 by_cases hf0 : (32 * ((gt bs0 0) / 32)) = 128
 ·
  refine L_val (.bool true) (by rfl) (by rfl) (gives_ieq (k := .u8) (32 * ((gt bs0 0) / 32)) (128) true (by rfl) (by rfl) (decide_eq_true (by omega))) ?_
  refine lv (.bool true) (h := ?_)
  refine L_end ?_
  intro w3 hw3
  refine wp_cond_true (fr_at _ _ (by rfl) _) ?_
  refine wp_skip ?_
  change Code.wp _ _ _ _ _
  refine wp_cond_true (fr_at _ _ (by rfl) _) ?_
  refine seq_plain hw3 [0, 1] (by rfl) ?_
  refine lv (.bool false) (h := ?_)
  refine lv (.bool false) (h := ?_)
  refine L_end ?_
  intro w4 hw4
  refine wp_ret ?_
  change bodyPost _ _ _ Exit.ret _ _
  refine (ret_tmp (by rfl) (by rfl) (by rfl) ⟨?_, hw4.below⟩)
  exact congrArg (fun b => Ending.returned (.bool b)) (by simp [frm, hf0])
 ·
  refine L_val (.bool false) (by rfl) (by rfl) (gives_ieq (k := .u8) (32 * ((gt bs0 0) / 32)) (128) false (by rfl) (by rfl) (decide_eq_false (by omega))) ?_
  refine lv (.bool false) (h := ?_)
  refine L_end ?_
  intro w3 hw3
  refine wp_cond_false (fr_at _ _ (by rfl) _) ?_
  refine one_plain hw3 [0, 1] (by rfl) ?_
  by_cases hf1 : (32 * ((gt bs0 0) / 32)) = 160
  ·
   refine L_val (.bool true) (by rfl) (by rfl) (gives_ieq (k := .u8) (32 * ((gt bs0 0) / 32)) (160) true (by rfl) (by rfl) (decide_eq_true (by omega))) ?_
   refine lv (.bool true) (h := ?_)
   refine L_end ?_
   intro w4 hw4
   change Code.wp _ _ _ _ _
   refine wp_cond_true (fr_at _ _ (by rfl) _) ?_
   refine seq_plain hw4 [0, 1] (by rfl) ?_
   refine lv (.bool false) (h := ?_)
   refine lv (.bool false) (h := ?_)
   refine L_end ?_
   intro w5 hw5
   refine wp_ret ?_
   change bodyPost _ _ _ Exit.ret _ _
   refine (ret_tmp (by rfl) (by rfl) (by rfl) ⟨?_, hw5.below⟩)
   exact congrArg (fun b => Ending.returned (.bool b)) (by simp [frm, hf0, hf1])
  ·
   refine L_val (.bool false) (by rfl) (by rfl) (gives_ieq (k := .u8) (32 * ((gt bs0 0) / 32)) (160) false (by rfl) (by rfl) (decide_eq_false (by omega))) ?_
   refine lv (.bool false) (h := ?_)
   refine L_end ?_
   intro w4 hw4
   change Code.wp _ _ _ _ _
   refine wp_cond_false (fr_at _ _ (by rfl) _) ?_
   refine seq_plain hw4 [0, 1] (by rfl) ?_
   by_cases hf2 : (32 * ((gt bs0 0) / 32)) = 192
   ·
    refine L_val (.bool true) (by rfl) (by rfl) (gives_ieq (k := .u8) (32 * ((gt bs0 0) / 32)) (192) true (by rfl) (by rfl) (decide_eq_true (by omega))) ?_
    refine lv (.bool true) (h := ?_)
    refine L_end ?_
    intro w5 hw5
    refine wp_cond_true (fr_at _ _ (by rfl) _) ?_
    refine seq_plain hw5 [0, 1, 2, 3, 4, 5] (by rfl) ?_
    refine lv (.bool false) (h := ?_)
    refine lv (.bool false) (h := ?_)
    refine lS (dj := 16) (h := ?_)
    refine lS (dj := 16) (h := ?_)
    refine lv (.bool false) (h := ?_)
    refine lv (.bool false) (h := ?_)
    refine L_end ?_
    intro w6 hw6
    refine wp_ret ?_
    change bodyPost _ _ _ Exit.ret _ _
    refine (ret_tmp (by rfl) (by rfl) (by rfl) ⟨?_, hw6.below⟩)
    exact congrArg (fun b => Ending.returned (.bool b)) (by simp [frm, hf0, hf1, hf2])
   ·
    refine L_val (.bool false) (by rfl) (by rfl) (gives_ieq (k := .u8) (32 * ((gt bs0 0) / 32)) (192) false (by rfl) (by rfl) (decide_eq_false (by omega))) ?_
    refine lv (.bool false) (h := ?_)
    refine L_end ?_
    intro w5 hw5
    refine wp_cond_false (fr_at _ _ (by rfl) _) ?_
    refine seq_plain hw5 [0, 1] (by rfl) ?_
    by_cases hf3 : (32 * ((gt bs0 0) / 32)) = 64
    ·
     refine L_val (.bool true) (by rfl) (by rfl) (gives_ieq (k := .u8) (32 * ((gt bs0 0) / 32)) (64) true (by rfl) (by rfl) (decide_eq_true (by omega))) ?_
     refine lv (.bool true) (h := ?_)
     refine L_end ?_
     intro w6 hw6
     refine wp_cond_true (fr_at _ _ (by rfl) _) ?_
     refine seq_plain hw6 [0, 1, 2, 3, 4, 5, 6] (by rfl) ?_
     refine lv (.bool false) (h := ?_)
     refine lv (.bool true) (h := ?_)
     refine lv (.bool true) (h := ?_)
     refine L_val_g (dj := 24) (.slice (some ⟨b0, o0, none⟩) L0 C0) (by rfl) (by rfl) (by rfl) (by rfl) (by rfl) gv ?_
     by_cases hf4 : blkB bs0 = true
     ·
      refine L_val_g (dj := 24) (.bool true) (by rfl) (by rfl) (by rfl) (by rfl) (by rfl) (gives_call (vl := [.slice (some ⟨b0, o0, none⟩) L0 C0]) (by kernel_rfl) (by rfl) (fun w h => cd_blank_t _ _ _ _ _ w hl0 ho0 (Nat.lt_of_lt_of_le hq0 h.below.size) (fun j hj => (h.below.cell (p := ⟨b0, _, none⟩) hq0).trans (hc0 j hj)) hL hLC hLm hf4)) ?_
      refine lv (.bool true) (h := ?_)
      refine lv (.bool true) (h := ?_)
      refine L_end ?_
      intro w7 hw7
      refine wp_ret ?_
      change bodyPost _ _ _ Exit.ret _ _
      refine (ret_tmp (by rfl) (by rfl) (by rfl) ⟨?_, hw7.below⟩)
      exact congrArg (fun b => Ending.returned (.bool b)) (by simp [frm, hf0, hf1, hf2, hf3, hf4])
     ·
      refine L_val_g (dj := 24) (.bool false) (by rfl) (by rfl) (by rfl) (by rfl) (by rfl) (gives_call (vl := [.slice (some ⟨b0, o0, none⟩) L0 C0]) (by kernel_rfl) (by rfl) (fun w h => cd_blank_f _ _ _ _ _ w hl0 ho0 (Nat.lt_of_lt_of_le hq0 h.below.size) (fun j hj => (h.below.cell (p := ⟨b0, _, none⟩) hq0).trans (hc0 j hj)) hL hLC hLm hf4)) ?_
      refine lv (.bool false) (h := ?_)
      refine lv (.bool false) (h := ?_)
      refine L_end ?_
      intro w7 hw7
      refine wp_ret ?_
      change bodyPost _ _ _ Exit.ret _ _
      refine (ret_tmp (by rfl) (by rfl) (by rfl) ⟨?_, hw7.below⟩)
      exact congrArg (fun b => Ending.returned (.bool b)) (by simp [frm, hf0, hf1, hf2, hf3, hf4])
    ·
     refine L_val (.bool false) (by rfl) (by rfl) (gives_ieq (k := .u8) (32 * ((gt bs0 0) / 32)) (64) false (by rfl) (by rfl) (decide_eq_false (by omega))) ?_
     refine lv (.bool false) (h := ?_)
     refine L_end ?_
     intro w6 hw6
     refine wp_cond_false (fr_at _ _ (by rfl) _) ?_
     refine seq_plain hw6 [0, 1] (by rfl) ?_
     by_cases hf4 : (32 * ((gt bs0 0) / 32)) = 0
     ·
      refine L_val (.bool true) (by rfl) (by rfl) (gives_ieq (k := .u8) (32 * ((gt bs0 0) / 32)) (0) true (by rfl) (by rfl) (decide_eq_true (by omega))) ?_
      refine lv (.bool true) (h := ?_)
      refine L_end ?_
      intro w7 hw7
      refine wp_cond_true (fr_at _ _ (by rfl) _) ?_
      refine seq_plain hw7 [0, 1, 2] (by rfl) ?_
      refine lv (.bool false) (h := ?_)
      refine lv (.bool true) (h := ?_)
      refine lv (.bool true) (h := ?_)
      refine L_end ?_
      intro w8 hw8
      refine wp_ret ?_
      change bodyPost _ _ _ Exit.ret _ _
      refine (ret_tmp (by rfl) (by rfl) (by rfl) ⟨?_, hw8.below⟩)
      exact congrArg (fun b => Ending.returned (.bool b)) (by simp [frm, hf0, hf1, hf2, hf3, hf4])
     ·
      refine L_val (.bool false) (by rfl) (by rfl) (gives_ieq (k := .u8) (32 * ((gt bs0 0) / 32)) (0) false (by rfl) (by rfl) (decide_eq_false (by omega))) ?_
      refine lv (.bool false) (h := ?_)
      refine L_end ?_
      intro w7 hw7
      refine wp_cond_false (fr_at _ _ (by rfl) _) ?_
      refine wp_skip ?_
      change Code.wp _ _ _ _ _
      refine seq_plain hw7 [0] (by rfl) ?_
      refine lv (.bool false) (h := ?_)
      refine L_end ?_
      intro w8 hw8
      refine wp_ret ?_
      change bodyPost _ _ _ Exit.ret _ _
      refine (ret_tmp (by rfl) (by rfl) (by rfl) ⟨?_, hw8.below⟩)
      exact congrArg (fun b => Ending.returned (.bool b)) (by simp [frm, hf0, hf1, hf2, hf3, hf4])
set_option maxRecDepth 100000 in
set_option maxHeartbeats 4000000 in
theorem cd_short_ff  (v : World) : Rets 92 #[.bool false, .bool false] v (.int .u8 128) := by
 refine calls_fr2 Tryz.func92 rfl (by rfl : _ = 9) (by rfl) ?_
 have hw := Hbl.nil v
 refine seq_plain hw [0] (by rfl) ?_
 refine lv (.int .u8 0) (h := ?_)
 refine L_end ?_
 intro w1 hw1
 refine wp_seq ?_
 refine wp_block ?_
 refine seq_plain hw1 [0, 1] (by rfl) ?_
 refine lv (.bool false) (h := ?_)
 refine lv (.bool false) (h := ?_)
 refine L_end ?_
 intro w2 hw2
 refine wp_cond_false (fr_at _ _ (by rfl) _) ?_
 refine seq_plain hw2 [0, 1] (by rfl) ?_
 refine lv (.bool false) (h := ?_)
 refine lv (.bool false) (h := ?_)
 refine L_end ?_
 intro w3 hw3
 refine wp_cond_false (fr_at _ _ (by rfl) _) ?_
 refine wp_skip ?_
 change Code.wp _ _ _ _ _
 refine seq_plain hw3 [0] (by rfl) ?_
 refine lv (.int .u8 128) (h := ?_)
 refine L_end ?_
 intro w4 hw4
 refine wp_ret ?_
 change bodyPost _ _ _ Exit.ret _ _
 refine (ret_tmp (by rfl) (by rfl) (by rfl) ⟨rfl, hw4.below⟩)
set_option maxRecDepth 100000 in
set_option maxHeartbeats 4000000 in
theorem cd_short_tf  (v : World) : Rets 92 #[.bool true, .bool false] v (.int .u8 192) := by
 refine calls_fr2 Tryz.func92 rfl (by rfl : _ = 9) (by rfl) ?_
 have hw := Hbl.nil v
 refine seq_plain hw [0] (by rfl) ?_
 refine lv (.int .u8 0) (h := ?_)
 refine L_end ?_
 intro w1 hw1
 refine wp_seq ?_
 refine wp_block ?_
 refine seq_plain hw1 [0, 1] (by rfl) ?_
 refine lv (.bool true) (h := ?_)
 refine lv (.bool true) (h := ?_)
 refine L_end ?_
 intro w2 hw2
 refine wp_cond_true (fr_at _ _ (by rfl) _) ?_
 refine seq_plain hw2 [0] (by rfl) ?_
 refine lv (.int .u8 192) (h := ?_)
 refine L_end ?_
 intro w3 hw3
 refine wp_ret ?_
 change bodyPost _ _ _ Exit.ret _ _
 refine (ret_tmp (by rfl) (by rfl) (by rfl) ⟨rfl, hw3.below⟩)
set_option maxRecDepth 100000 in
set_option maxHeartbeats 4000000 in
theorem cd_short_ft  (v : World) : Rets 92 #[.bool false, .bool true] v (.int .u8 160) := by
 refine calls_fr2 Tryz.func92 rfl (by rfl : _ = 9) (by rfl) ?_
 have hw := Hbl.nil v
 refine seq_plain hw [0] (by rfl) ?_
 refine lv (.int .u8 0) (h := ?_)
 refine L_end ?_
 intro w1 hw1
 refine wp_seq ?_
 refine wp_block ?_
 refine seq_plain hw1 [0, 1] (by rfl) ?_
 refine lv (.bool false) (h := ?_)
 refine lv (.bool false) (h := ?_)
 refine L_end ?_
 intro w2 hw2
 refine wp_cond_false (fr_at _ _ (by rfl) _) ?_
 refine seq_plain hw2 [0, 1] (by rfl) ?_
 refine lv (.bool true) (h := ?_)
 refine lv (.bool true) (h := ?_)
 refine L_end ?_
 intro w3 hw3
 refine wp_cond_true (fr_at _ _ (by rfl) _) ?_
 refine seq_plain hw3 [0] (by rfl) ?_
 refine lv (.int .u8 160) (h := ?_)
 refine L_end ?_
 intro w4 hw4
 refine wp_ret ?_
 change bodyPost _ _ _ Exit.ret _ _
 refine (ret_tmp (by rfl) (by rfl) (by rfl) ⟨rfl, hw4.below⟩)
set_option maxRecDepth 100000 in
set_option maxHeartbeats 4000000 in
theorem cd_short_tt  (v : World) : Rets 92 #[.bool true, .bool true] v (.int .u8 192) := by
 refine calls_fr2 Tryz.func92 rfl (by rfl : _ = 9) (by rfl) ?_
 have hw := Hbl.nil v
 refine seq_plain hw [0] (by rfl) ?_
 refine lv (.int .u8 0) (h := ?_)
 refine L_end ?_
 intro w1 hw1
 refine wp_seq ?_
 refine wp_block ?_
 refine seq_plain hw1 [0, 1] (by rfl) ?_
 refine lv (.bool true) (h := ?_)
 refine lv (.bool true) (h := ?_)
 refine L_end ?_
 intro w2 hw2
 refine wp_cond_true (fr_at _ _ (by rfl) _) ?_
 refine seq_plain hw2 [0] (by rfl) ?_
 refine lv (.int .u8 192) (h := ?_)
 refine L_end ?_
 intro w3 hw3
 refine wp_ret ?_
 change bodyPost _ _ _ Exit.ret _ _
 refine (ret_tmp (by rfl) (by rfl) (by rfl) ⟨rfl, hw3.below⟩)
end Go.Proofs.YtifnnckbcjafgabGreatDoor
