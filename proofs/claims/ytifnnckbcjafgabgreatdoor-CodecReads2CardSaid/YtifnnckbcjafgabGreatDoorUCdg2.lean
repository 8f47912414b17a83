import Derived.Test.YtifnnckbcjafgabGreatDoorUCdc
import Derived.Test.YtifnnckbcjafgabGreatDoorUCdp1
namespace Go.Proofs.YtifnnckbcjafgabGreatDoor
set_option linter.unusedSimpArgs false
set_option linter.unusedVariables false
open Go.RowKit
theorem me2_Sqrt (v : Value) (w : World) : (method (Tryz.prog.types.size + Made.depth) 46 v "Sqrt").run Tryz.prog w = .ok (35, v) w := by kernel_rfl
theorem me2_Large (v : Value) (w : World) : (method (Tryz.prog.types.size + Made.depth) 46 v "Large").run Tryz.prog w = .ok (36, v) w := by kernel_rfl
theorem me2_Neg (v : Value) (w : World) : (method (Tryz.prog.types.size + Made.depth) 46 v "Neg").run Tryz.prog w = .ok (37, v) w := by kernel_rfl
def grp2 (x : F2) : Array Value := #[.int .i64 96, .func (.func 29) #[] #[]] ++ c2 x
noncomputable def grp2z : Array Value := match (Tryz.prog.info? 109).map (·.zero) with | some (some (Value.agg c)) => c | _ => #[]
theorem z_grp2 : (Tryz.prog.info? 109).map (·.zero) = some (some (.agg grp2z)) := by kernel_rfl
theorem grp2z_size : grp2z.size = 2 + 12 := by kernel_rfl
theorem grp2_size (x : F2) : (grp2 x).size = 2 + 12 := by rw [grp2, Array.size_append, c2_size]; rfl
theorem hi_grp2 (x : F2) : (Tryz.prog.info? 109).map (·.size) = some (grp2 x).size := by rw [grp2_size]; kernel_rfl
theorem grp2_one (x : F2) : (grp2 x).all (·.oneCell') = true := by rw [grp2, Array.all_append, c2_one, Bool.and_true]; simp [Value.oneCell']
theorem grp2_0 (x : F2) : (grp2 x)[0]? = some (.int .i64 96) := by
 unfold grp2
 rw [Array.getElem?_append_left (by simp)]; rfl
theorem grp2_1 (x : F2) : (grp2 x)[1]? = some (.func (.func 29) #[] #[]) := by
 unfold grp2
 rw [Array.getElem?_append_left (by simp)]; rfl
theorem grp2_sl (x : F2) : Sl (grp2 x) 2 (c2 x) := fun j v h => by
 unfold grp2
 rw [Array.getElem?_append_right (by simp)]
 simpa using h
theorem fill_cells2 (place : Nat → Option (Nat × Nat)) : ∀ (ps : List (Nat × Value)) (cs : Array Value), Instr.fill place cs ps = Instr.fill place cs (ps.map fun p => (p.1, Value.agg p.2.cells))
 | [], _ => rfl
 | (i, v) :: r, cs => by
  have e : (Value.agg v.cells).cells = v.cells := rfl
  rw [List.map_cons, Instr.fill, Instr.fill]
  simp only [e]
  split
  ·rfl
  ·split
   ·rfl
   ·exact fill_cells2 place r _
theorem gives_buildG2 {S : World → Prop} {l : List (Nat × Value)} {dst : Option Nat} {a b d : Operand} {ty : TypeId} {pos : String} {after : Array Edge} {gd : Option (Nat × Bool)} (x : F2) (ha : rho l a = .int .i64 96) (hb : rho l b = .func (.func 29) #[] #[]) (hd : rho l d = .agg (c2 x)) :
  Gives Tryz.prog S (.agg (grp2 x)) (execOp (rho l) ⟨dst, .build 109 #[(0, a), (1, b), (2, d)], ty, pos, after, gd⟩) := gives_value _ fun w => by
 have hz : (Value.agg grp2z).cells = joinA [#[grp2z[0]!], #[grp2z[1]!], grp2z.extract 2 (2 + 12)] := by kernel_rfl
 have hs : [#[grp2z[0]!], #[grp2z[1]!], grp2z.extract 2 (2 + 12)].map (·.size) = [1, 1, 12] := by kernel_rfl
 have hf := fill_puts ((#[(0, 1), (1, 1), (2, 12)] : Array (Nat × Nat))[·]?) [1, 1, 12] (fun i h => by
  match i, h with
  | 0, _ => rfl
  | 1, _ => rfl
  | 2, _ => rfl) [(0, #[.int .i64 96]), (1, #[.func (.func 29) #[] #[]]), (2, c2 x)] _ hs ⟨rfl, rfl, congrArg some (c2_size x).symm, trivial⟩
 rw [← hz] at hf
 have h2 : Instr.fill ((#[(0, 1), (1, 1), (2, 12)] : Array (Nat × Nat))[·]?) (Value.agg grp2z).cells [(0, .int .i64 96), (1, .func (.func 29) #[] #[]), (2, .agg (c2 x))] = some (grp2 x) := by
  rw [fill_cells2]
  refine hf.trans ?_
  simp [putsA, joinA, grp2]
 have hrun := run_build_parts (P := Tryz.prog) 109 _ #[(0, 1), (1, 1), (2, 12)] _ Tryz.underlying109 z_grp2 (fun _ => by kernel_rfl) #[(0, .int .i64 96), (1, .func (.func 29) #[] #[]), (2, .agg (c2 x))] (grp2 x) h2 w
 simp [execOp, ha, hb, hd, hrun]
def ok2 (l : List Int) : Prop := num (l.take 48) < Mp ∧ num (l.drop 48) < Mp
instance (l : List Int) : Decidable (ok2 l) := by unfold ok2; infer_instance
def rd2 (l : List Int) : F2 := ⟨Fp.n (num (l.drop 48)), Fp.n (num (l.take 48))⟩
def sq2 (x : F2) : Prop := x.sq
noncomputable instance (x : F2) : Decidable (sq2 x) := Classical.propDecidable _
def lg2 (x : F2) : Bool := x.large
def rs2 (s : F2) (large : Bool) : F2 := if lg2 s.rt = large then s.rt else -s.rt
def abv2 (x : F2) : F2 := x * x * x + F2.sm 4 4
noncomputable def pt2 (L : Int) (bs : List Int) : F2 × F2 × Int :=
 if L = 96 then
  (if frm bs true = true then (if 64 * (gt bs 0 / 64 % 2) = 0 then (if ok2 (seg bs 0 96) then
   (if sq2 (abv2 (rd2 (seg bs 0 96))) then (rd2 (seg bs 0 96), rs2 (abv2 (rd2 (seg bs 0 96))) (decide (¬ 32 * (gt bs 0 / 32 % 2) = 0)), 0) else (rd2 (seg bs 0 96), 0, 13)) else (0, 0, 12)) else (0, 0, 0)) else (0, 0, 11))
 else if L = 192 then
  (if frm bs false = true then (if 64 * (gt bs 0 / 64 % 2) = 0 then (if ok2 (seg bs 0 96) then (if ok2 (seg bs 96 96) then
   (if rd2 (seg bs 96 96) * rd2 (seg bs 96 96) = abv2 (rd2 (seg bs 0 96)) then (rd2 (seg bs 0 96), rd2 (seg bs 96 96), 0) else (rd2 (seg bs 0 96), rd2 (seg bs 96 96), 13)) else (rd2 (seg bs 0 96), 0, 12)) else (0, 0, 12)) else (0, 0, 0)) else (0, 0, 11))
 else (0, 0, 10)
theorem rdok2 (l : List Int) (b o : Nat) (c : Nat) (w : World) (hG : Glo w) (hr : Reads w w.heap.size (some ⟨b, o, none⟩) 96 (l.map (Value.int .u8))) (ho : Oct l) (hc : 96 ≤ c) (h : ok2 l) : Rets 29 #[.slice (some ⟨b, o, none⟩) 96 c] w (.tuple #[.agg (c2 (rd2 l)), .int .i64 0]) := q_read_ok b o c l w hG hr ho hc h.1 h.2
theorem rdno2 (l : List Int) (b o : Nat) (c : Nat) (w : World) (hG : Glo w) (hr : Reads w w.heap.size (some ⟨b, o, none⟩) 96 (l.map (Value.int .u8))) (ho : Oct l) (hc : 96 ≤ c) (h : ¬ ok2 l) : Rets 29 #[.slice (some ⟨b, o, none⟩) 96 c] w (.tuple #[.agg (c2 0), .int .i64 12]) := by
 by_cases hb : num (l.take 48) < Mp
 ·exact q_read_a b o c l w hG hr ho hc hb (by unfold ok2 at h; omega)
 ·exact q_read_b b o c l w hG hr ho hc (by omega)
theorem sqy2 (x : F2) (w : World) (hG : Glo w) (hQ : GQp w) (h : sq2 x) : Rets 35 #[.agg (c2 x)] w (.tuple #[.agg (c2 x.rt), .bool true]) := q_sqrt_yes x w hG hQ h
theorem sqn2 (x : F2) (w : World) (hG : Glo w) (hQ : GQp w) (h : ¬ sq2 x) : Rets 35 #[.agg (c2 x)] w (.tuple #[.agg (c2 0), .bool false]) := q_sqrt_no x w hG hQ h
theorem lar2 (x : F2) (w : World) (hG : Glo w) (hU : GUp w) : Rets 36 #[.agg (c2 x)] w (.bool (lg2 x)) := q_large x w hG hU
attribute [local irreducible] wpL wpF fr Code.wp bodyPost
theorem lr2_t (x : F2) (w : World) (hG : Glo w) (hU : GUp w) (h : lg2 x = true) : Rets 36 #[.agg (c2 x)] w (.bool true) := by
 have := lar2 x w hG hU
 rwa [h] at this
theorem lr2_f (x : F2) (w : World) (hG : Glo w) (hU : GUp w) (h : lg2 x = false) : Rets 36 #[.agg (c2 x)] w (.bool false) := by
 have := lar2 x w hG hU
 rwa [h] at this
set_option maxRecDepth 100000 in
set_option maxHeartbeats 4000000 in
theorem cd_root2_nt (s : F2) (v : World) (hG : Glo v) (hQ : GQp v) (hU : GUp v) (hs : ¬ sq2 s) : Rets 112 #[.agg (c2 s), .bool true] v (.tuple #[.agg (c2 0), .int .i64 13]) := by
 refine calls_fr2 Tryz.func112 rfl (by rfl : _ = 26) (by rfl) ?_
 have hw := Hbl.nil v
 refine seq_plain hw [0, 1, 2] (by rfl) ?_
 refine L_box (.agg (c2 (s))) (by rfl) (by rfl) (by rfl) (c2 (s)) (by rfl) ?_; intro g1
 refine L_alloc _ (by rfl) (by rfl) z_2 (c2 (0 : F2)) rfl ?_; intro g2
 refine lv (.int .i64 0) (h := ?_)
 refine L_end ?_
 intro w1 hw1
 refine seq_plain hw1 [0, 1, 2, 3, 4, 5, 6, 7, 8] (by rfl) ?_
 refine L_val (.agg (c2 (s))) (by rfl) (by rfl) (gL g1 46 (c2 (s)) 1 Tryz.underlying46 (hi_2 _)) ?_
 refine L_val (.iface 46 (.agg (c2 (s)))) (by rfl) (by rfl) gk ?_
 refine L_val (.tuple #[.agg (c2 (0 : F2)), .bool false]) (by rfl) (by rfl) (gives_invoke (vl := []) (by rfl) (me2_Sqrt _) (by kernel_rfl) (by rfl) (fun w h => sqn2 _ w (hG.keep h.below) (hQ.keep h.below) hs)) ?_
 refine lv (.tuple #[.agg (c2 (0 : F2)), .bool false]) (h := ?_)
 refine L_val (.agg (c2 (0 : F2))) (by rfl) (by rfl) gk ?_
 refine L_val (.bool false) (by rfl) (by rfl) gk ?_
 refine L_alloc _ (by rfl) (by rfl) z_2 (c2 (0 : F2)) rfl ?_; intro g3
 refine L_store (t := 46) 0 g3 _ _ (by rfl) (by rfl) (by rfl) (by rfl) (by rfl) (hi_2 _) ((c2_size _).trans (c2_size _).symm) (c2_one _) ?_
 simp only [List.set_cons_zero, List.set_cons_succ]
 refine lv (.bool false) (h := ?_)
 refine L_end ?_
 intro w2 hw2
 refine wp_seq ?_
 refine seq_plain hw2 [0, 1] (by rfl) ?_
 refine lv (.bool false) (h := ?_)
 refine lv (.bool true) (h := ?_)
 refine L_end ?_
 intro w3 hw3
 refine wp_cond_true (fr_at _ _ (by rfl) _) ?_
 refine seq_plain hw3 [0, 1, 2] (by rfl) ?_
 refine L_val (.agg (c2 (0 : F2))) (by rfl) (by rfl) (gL g3 46 (c2 (0 : F2)) 0 Tryz.underlying46 (hi_2 _)) ?_
 refine L_store (t := 46) 1 g2 _ _ (by rfl) (by rfl) (by rfl) (by rfl) (by rfl) (hi_2 _) ((c2_size _).trans (c2_size _).symm) (c2_one _) ?_
 simp only [List.set_cons_zero, List.set_cons_succ]
 refine lv (.int .i64 13) (h := ?_)
 refine L_end ?_
 intro w4 hw4
 refine wp_ret ?_
 change bodyPost _ _ _ Exit.ret _ _
 refine (ret_cell_tmp (by rfl) (by rfl) (by rfl) (by rfl) (hw4.blk 1 (by rfl)) Tryz.underlying46 (by rfl) (hi_2 _) ⟨?_, hw4.below⟩)
 rfl
set_option maxRecDepth 100000 in
set_option maxHeartbeats 4000000 in
theorem cd_root2_nf (s : F2) (v : World) (hG : Glo v) (hQ : GQp v) (hU : GUp v) (hs : ¬ sq2 s) : Rets 112 #[.agg (c2 s), .bool false] v (.tuple #[.agg (c2 0), .int .i64 13]) := by
 refine calls_fr2 Tryz.func112 rfl (by rfl : _ = 26) (by rfl) ?_
 have hw := Hbl.nil v
 refine seq_plain hw [0, 1, 2] (by rfl) ?_
 refine L_box (.agg (c2 (s))) (by rfl) (by rfl) (by rfl) (c2 (s)) (by rfl) ?_; intro g1
 refine L_alloc _ (by rfl) (by rfl) z_2 (c2 (0 : F2)) rfl ?_; intro g2
 refine lv (.int .i64 0) (h := ?_)
 refine L_end ?_
 intro w1 hw1
 refine seq_plain hw1 [0, 1, 2, 3, 4, 5, 6, 7, 8] (by rfl) ?_
 refine L_val (.agg (c2 (s))) (by rfl) (by rfl) (gL g1 46 (c2 (s)) 1 Tryz.underlying46 (hi_2 _)) ?_
 refine L_val (.iface 46 (.agg (c2 (s)))) (by rfl) (by rfl) gk ?_
 refine L_val (.tuple #[.agg (c2 (0 : F2)), .bool false]) (by rfl) (by rfl) (gives_invoke (vl := []) (by rfl) (me2_Sqrt _) (by kernel_rfl) (by rfl) (fun w h => sqn2 _ w (hG.keep h.below) (hQ.keep h.below) hs)) ?_
 refine lv (.tuple #[.agg (c2 (0 : F2)), .bool false]) (h := ?_)
 refine L_val (.agg (c2 (0 : F2))) (by rfl) (by rfl) gk ?_
 refine L_val (.bool false) (by rfl) (by rfl) gk ?_
 refine L_alloc _ (by rfl) (by rfl) z_2 (c2 (0 : F2)) rfl ?_; intro g3
 refine L_store (t := 46) 0 g3 _ _ (by rfl) (by rfl) (by rfl) (by rfl) (by rfl) (hi_2 _) ((c2_size _).trans (c2_size _).symm) (c2_one _) ?_
 simp only [List.set_cons_zero, List.set_cons_succ]
 refine lv (.bool false) (h := ?_)
 refine L_end ?_
 intro w2 hw2
 refine wp_seq ?_
 refine seq_plain hw2 [0, 1] (by rfl) ?_
 refine lv (.bool false) (h := ?_)
 refine lv (.bool true) (h := ?_)
 refine L_end ?_
 intro w3 hw3
 refine wp_cond_true (fr_at _ _ (by rfl) _) ?_
 refine seq_plain hw3 [0, 1, 2] (by rfl) ?_
 refine L_val (.agg (c2 (0 : F2))) (by rfl) (by rfl) (gL g3 46 (c2 (0 : F2)) 0 Tryz.underlying46 (hi_2 _)) ?_
 refine L_store (t := 46) 1 g2 _ _ (by rfl) (by rfl) (by rfl) (by rfl) (by rfl) (hi_2 _) ((c2_size _).trans (c2_size _).symm) (c2_one _) ?_
 simp only [List.set_cons_zero, List.set_cons_succ]
 refine lv (.int .i64 13) (h := ?_)
 refine L_end ?_
 intro w4 hw4
 refine wp_ret ?_
 change bodyPost _ _ _ Exit.ret _ _
 refine (ret_cell_tmp (by rfl) (by rfl) (by rfl) (by rfl) (hw4.blk 1 (by rfl)) Tryz.underlying46 (by rfl) (hi_2 _) ⟨?_, hw4.below⟩)
 rfl
set_option maxRecDepth 100000 in
set_option maxHeartbeats 4000000 in
theorem cd_root2_ytt (s : F2) (v : World) (hG : Glo v) (hQ : GQp v) (hU : GUp v) (hs : sq2 s) (hlg : lg2 s.rt = true) : Rets 112 #[.agg (c2 s), .bool true] v (.tuple #[.agg (c2 (rs2 s true)), .int .i64 0]) := by
 refine calls_fr2 Tryz.func112 rfl (by rfl : _ = 26) (by rfl) ?_
 have hw := Hbl.nil v
 refine seq_plain hw [0, 1, 2] (by rfl) ?_
 refine L_box (.agg (c2 (s))) (by rfl) (by rfl) (by rfl) (c2 (s)) (by rfl) ?_; intro g1
 refine L_alloc _ (by rfl) (by rfl) z_2 (c2 (0 : F2)) rfl ?_; intro g2
 refine lv (.int .i64 0) (h := ?_)
 refine L_end ?_
 intro w1 hw1
 refine seq_plain hw1 [0, 1, 2, 3, 4, 5, 6, 7, 8] (by rfl) ?_
 refine L_val (.agg (c2 (s))) (by rfl) (by rfl) (gL g1 46 (c2 (s)) 1 Tryz.underlying46 (hi_2 _)) ?_
 refine L_val (.iface 46 (.agg (c2 (s)))) (by rfl) (by rfl) gk ?_
 refine L_val (.tuple #[.agg (c2 ((s).rt)), .bool true]) (by rfl) (by rfl) (gives_invoke (vl := []) (by rfl) (me2_Sqrt _) (by kernel_rfl) (by rfl) (fun w h => sqy2 _ w (hG.keep h.below) (hQ.keep h.below) hs)) ?_
 refine lv (.tuple #[.agg (c2 ((s).rt)), .bool true]) (h := ?_)
 refine L_val (.agg (c2 ((s).rt))) (by rfl) (by rfl) gk ?_
 refine L_val (.bool true) (by rfl) (by rfl) gk ?_
 refine L_alloc _ (by rfl) (by rfl) z_2 (c2 (0 : F2)) rfl ?_; intro g3
 refine L_store (t := 46) 0 g3 _ _ (by rfl) (by rfl) (by rfl) (by rfl) (by rfl) (hi_2 _) ((c2_size _).trans (c2_size _).symm) (c2_one _) ?_
 simp only [List.set_cons_zero, List.set_cons_succ]
 refine lv (.bool true) (h := ?_)
 refine L_end ?_
 intro w2 hw2
 refine wp_seq ?_
 refine seq_plain hw2 [0, 1] (by rfl) ?_
 refine lv (.bool true) (h := ?_)
 refine lv (.bool false) (h := ?_)
 refine L_end ?_
 intro w3 hw3
 refine wp_cond_false (fr_at _ _ (by rfl) _) ?_
 refine wp_skip ?_
 change Code.wp _ _ _ _ _
 refine wp_seq ?_
 refine seq_plain hw3 [0, 1, 2, 3, 4] (by rfl) ?_
 refine L_val (.agg (c2 ((s).rt))) (by rfl) (by rfl) (gL g3 46 (c2 ((s).rt)) 0 Tryz.underlying46 (hi_2 _)) ?_
 refine L_val (.iface 46 (.agg (c2 ((s).rt)))) (by rfl) (by rfl) gk ?_
 refine L_val (.bool true) (by rfl) (by rfl) (gives_invoke (vl := []) (by rfl) (me2_Large _) (by kernel_rfl) (by rfl) (fun w h => lr2_t _ w (hG.keep h.below) (hU.keep h.below) hlg)) ?_
 refine lv (.bool true) (h := ?_)
 refine lv (.bool false) (h := ?_)
 refine L_end ?_
 intro w4 hw4
 refine wp_cond_false (fr_at _ _ (by rfl) _) ?_
 refine wp_skip ?_
 change Code.wp _ _ _ _ _
 refine seq_plain hw4 [0, 1, 2] (by rfl) ?_
 refine L_val (.agg (c2 ((s).rt))) (by rfl) (by rfl) (gL g3 46 (c2 ((s).rt)) 0 Tryz.underlying46 (hi_2 _)) ?_
 refine L_store (t := 46) 1 g2 _ _ (by rfl) (by rfl) (by rfl) (by rfl) (by rfl) (hi_2 _) ((c2_size _).trans (c2_size _).symm) (c2_one _) ?_
 simp only [List.set_cons_zero, List.set_cons_succ]
 refine lv (.int .i64 0) (h := ?_)
 refine L_end ?_
 intro w5 hw5
 refine wp_ret ?_
 change bodyPost _ _ _ Exit.ret _ _
 refine (ret_cell_tmp (by rfl) (by rfl) (by rfl) (by rfl) (hw5.blk 1 (by rfl)) Tryz.underlying46 (by rfl) (hi_2 _) ⟨?_, hw5.below⟩)
 exact congrArg (fun x => Ending.returned (.tuple #[.agg (c2 x), .int .i64 0])) (by rw [rs2, hlg]; exact (if_pos rfl).symm)
set_option maxRecDepth 100000 in
set_option maxHeartbeats 4000000 in
theorem cd_root2_ytf (s : F2) (v : World) (hG : Glo v) (hQ : GQp v) (hU : GUp v) (hs : sq2 s) (hlg : lg2 s.rt = false) : Rets 112 #[.agg (c2 s), .bool true] v (.tuple #[.agg (c2 (rs2 s true)), .int .i64 0]) := by
 refine calls_fr2 Tryz.func112 rfl (by rfl : _ = 26) (by rfl) ?_
 have hw := Hbl.nil v
 refine seq_plain hw [0, 1, 2] (by rfl) ?_
 refine L_box (.agg (c2 (s))) (by rfl) (by rfl) (by rfl) (c2 (s)) (by rfl) ?_; intro g1
 refine L_alloc _ (by rfl) (by rfl) z_2 (c2 (0 : F2)) rfl ?_; intro g2
 refine lv (.int .i64 0) (h := ?_)
 refine L_end ?_
 intro w1 hw1
 refine seq_plain hw1 [0, 1, 2, 3, 4, 5, 6, 7, 8] (by rfl) ?_
 refine L_val (.agg (c2 (s))) (by rfl) (by rfl) (gL g1 46 (c2 (s)) 1 Tryz.underlying46 (hi_2 _)) ?_
 refine L_val (.iface 46 (.agg (c2 (s)))) (by rfl) (by rfl) gk ?_
 refine L_val (.tuple #[.agg (c2 ((s).rt)), .bool true]) (by rfl) (by rfl) (gives_invoke (vl := []) (by rfl) (me2_Sqrt _) (by kernel_rfl) (by rfl) (fun w h => sqy2 _ w (hG.keep h.below) (hQ.keep h.below) hs)) ?_
 refine lv (.tuple #[.agg (c2 ((s).rt)), .bool true]) (h := ?_)
 refine L_val (.agg (c2 ((s).rt))) (by rfl) (by rfl) gk ?_
 refine L_val (.bool true) (by rfl) (by rfl) gk ?_
 refine L_alloc _ (by rfl) (by rfl) z_2 (c2 (0 : F2)) rfl ?_; intro g3
 refine L_store (t := 46) 0 g3 _ _ (by rfl) (by rfl) (by rfl) (by rfl) (by rfl) (hi_2 _) ((c2_size _).trans (c2_size _).symm) (c2_one _) ?_
 simp only [List.set_cons_zero, List.set_cons_succ]
 refine lv (.bool true) (h := ?_)
 refine L_end ?_
 intro w2 hw2
 refine wp_seq ?_
 refine seq_plain hw2 [0, 1] (by rfl) ?_
 refine lv (.bool true) (h := ?_)
 refine lv (.bool false) (h := ?_)
 refine L_end ?_
 intro w3 hw3
 refine wp_cond_false (fr_at _ _ (by rfl) _) ?_
 refine wp_skip ?_
 change Code.wp _ _ _ _ _
 refine wp_seq ?_
 refine seq_plain hw3 [0, 1, 2, 3, 4] (by rfl) ?_
 refine L_val (.agg (c2 ((s).rt))) (by rfl) (by rfl) (gL g3 46 (c2 ((s).rt)) 0 Tryz.underlying46 (hi_2 _)) ?_
 refine L_val (.iface 46 (.agg (c2 ((s).rt)))) (by rfl) (by rfl) gk ?_
 refine L_val (.bool false) (by rfl) (by rfl) (gives_invoke (vl := []) (by rfl) (me2_Large _) (by kernel_rfl) (by rfl) (fun w h => lr2_f _ w (hG.keep h.below) (hU.keep h.below) hlg)) ?_
 refine lv (.bool true) (h := ?_)
 refine lv (.bool true) (h := ?_)
 refine L_end ?_
 intro w4 hw4
 refine wp_cond_true (fr_at _ _ (by rfl) _) ?_
 refine one_plain hw4 [0, 1, 2, 3] (by rfl) ?_
 refine L_val (.agg (c2 ((s).rt))) (by rfl) (by rfl) (gL g3 46 (c2 ((s).rt)) 0 Tryz.underlying46 (hi_2 _)) ?_
 refine L_val (.iface 46 (.agg (c2 ((s).rt)))) (by rfl) (by rfl) gk ?_
 refine L_val (.agg (c2 (-((s).rt)))) (by rfl) (by rfl) (gives_invoke (vl := []) (by rfl) (me2_Neg _) (by kernel_rfl) (by rfl) (fun w h => q_neg _ w (hG.keep h.below))) ?_
 refine L_store (t := 46) 0 g3 _ _ (by rfl) (by rfl) (by rfl) (by rfl) (by rfl) (hi_2 _) ((c2_size _).trans (c2_size _).symm) (c2_one _) ?_
 simp only [List.set_cons_zero, List.set_cons_succ]
 refine L_end ?_
 intro w5 hw5
 change Code.wp _ _ _ _ _
 refine seq_plain hw5 [0, 1, 2] (by rfl) ?_
 refine L_val (.agg (c2 (-((s).rt)))) (by rfl) (by rfl) (gL g3 46 (c2 (-((s).rt))) 0 Tryz.underlying46 (hi_2 _)) ?_
 refine L_store (t := 46) 1 g2 _ _ (by rfl) (by rfl) (by rfl) (by rfl) (by rfl) (hi_2 _) ((c2_size _).trans (c2_size _).symm) (c2_one _) ?_
 simp only [List.set_cons_zero, List.set_cons_succ]
 refine lv (.int .i64 0) (h := ?_)
 refine L_end ?_
 intro w6 hw6
 refine wp_ret ?_
 change bodyPost _ _ _ Exit.ret _ _
 refine (ret_cell_tmp (by rfl) (by rfl) (by rfl) (by rfl) (hw6.blk 1 (by rfl)) Tryz.underlying46 (by rfl) (hi_2 _) ⟨?_, hw6.below⟩)
 exact congrArg (fun x => Ending.returned (.tuple #[.agg (c2 x), .int .i64 0])) (by rw [rs2, hlg]; exact (if_neg (by decide)).symm)
set_option maxRecDepth 100000 in
set_option maxHeartbeats 4000000 in
theorem cd_root2_yft (s : F2) (v : World) (hG : Glo v) (hQ : GQp v) (hU : GUp v) (hs : sq2 s) (hlg : lg2 s.rt = true) : Rets 112 #[.agg (c2 s), .bool false] v (.tuple #[.agg (c2 (rs2 s false)), .int .i64 0]) := by
 refine calls_fr2 Tryz.func112 rfl (by rfl : _ = 26) (by rfl) ?_
 have hw := Hbl.nil v
 refine seq_plain hw [0, 1, 2] (by rfl) ?_
 refine L_box (.agg (c2 (s))) (by rfl) (by rfl) (by rfl) (c2 (s)) (by rfl) ?_; intro g1
 refine L_alloc _ (by rfl) (by rfl) z_2 (c2 (0 : F2)) rfl ?_; intro g2
 refine lv (.int .i64 0) (h := ?_)
 refine L_end ?_
 intro w1 hw1
 refine seq_plain hw1 [0, 1, 2, 3, 4, 5, 6, 7, 8] (by rfl) ?_
 refine L_val (.agg (c2 (s))) (by rfl) (by rfl) (gL g1 46 (c2 (s)) 1 Tryz.underlying46 (hi_2 _)) ?_
 refine L_val (.iface 46 (.agg (c2 (s)))) (by rfl) (by rfl) gk ?_
 refine L_val (.tuple #[.agg (c2 ((s).rt)), .bool true]) (by rfl) (by rfl) (gives_invoke (vl := []) (by rfl) (me2_Sqrt _) (by kernel_rfl) (by rfl) (fun w h => sqy2 _ w (hG.keep h.below) (hQ.keep h.below) hs)) ?_
 refine lv (.tuple #[.agg (c2 ((s).rt)), .bool true]) (h := ?_)
 refine L_val (.agg (c2 ((s).rt))) (by rfl) (by rfl) gk ?_
 refine L_val (.bool true) (by rfl) (by rfl) gk ?_
 refine L_alloc _ (by rfl) (by rfl) z_2 (c2 (0 : F2)) rfl ?_; intro g3
 refine L_store (t := 46) 0 g3 _ _ (by rfl) (by rfl) (by rfl) (by rfl) (by rfl) (hi_2 _) ((c2_size _).trans (c2_size _).symm) (c2_one _) ?_
 simp only [List.set_cons_zero, List.set_cons_succ]
 refine lv (.bool true) (h := ?_)
 refine L_end ?_
 intro w2 hw2
 refine wp_seq ?_
 refine seq_plain hw2 [0, 1] (by rfl) ?_
 refine lv (.bool true) (h := ?_)
 refine lv (.bool false) (h := ?_)
 refine L_end ?_
 intro w3 hw3
 refine wp_cond_false (fr_at _ _ (by rfl) _) ?_
 refine wp_skip ?_
 change Code.wp _ _ _ _ _
 refine wp_seq ?_
 refine seq_plain hw3 [0, 1, 2, 3, 4] (by rfl) ?_
 refine L_val (.agg (c2 ((s).rt))) (by rfl) (by rfl) (gL g3 46 (c2 ((s).rt)) 0 Tryz.underlying46 (hi_2 _)) ?_
 refine L_val (.iface 46 (.agg (c2 ((s).rt)))) (by rfl) (by rfl) gk ?_
 refine L_val (.bool true) (by rfl) (by rfl) (gives_invoke (vl := []) (by rfl) (me2_Large _) (by kernel_rfl) (by rfl) (fun w h => lr2_t _ w (hG.keep h.below) (hU.keep h.below) hlg)) ?_
 refine lv (.bool false) (h := ?_)
 refine lv (.bool true) (h := ?_)
 refine L_end ?_
 intro w4 hw4
 refine wp_cond_true (fr_at _ _ (by rfl) _) ?_
 refine one_plain hw4 [0, 1, 2, 3] (by rfl) ?_
 refine L_val (.agg (c2 ((s).rt))) (by rfl) (by rfl) (gL g3 46 (c2 ((s).rt)) 0 Tryz.underlying46 (hi_2 _)) ?_
 refine L_val (.iface 46 (.agg (c2 ((s).rt)))) (by rfl) (by rfl) gk ?_
 refine L_val (.agg (c2 (-((s).rt)))) (by rfl) (by rfl) (gives_invoke (vl := []) (by rfl) (me2_Neg _) (by kernel_rfl) (by rfl) (fun w h => q_neg _ w (hG.keep h.below))) ?_
 refine L_store (t := 46) 0 g3 _ _ (by rfl) (by rfl) (by rfl) (by rfl) (by rfl) (hi_2 _) ((c2_size _).trans (c2_size _).symm) (c2_one _) ?_
 simp only [List.set_cons_zero, List.set_cons_succ]
 refine L_end ?_
 intro w5 hw5
 change Code.wp _ _ _ _ _
 refine seq_plain hw5 [0, 1, 2] (by rfl) ?_
 refine L_val (.agg (c2 (-((s).rt)))) (by rfl) (by rfl) (gL g3 46 (c2 (-((s).rt))) 0 Tryz.underlying46 (hi_2 _)) ?_
 refine L_store (t := 46) 1 g2 _ _ (by rfl) (by rfl) (by rfl) (by rfl) (by rfl) (hi_2 _) ((c2_size _).trans (c2_size _).symm) (c2_one _) ?_
 simp only [List.set_cons_zero, List.set_cons_succ]
 refine lv (.int .i64 0) (h := ?_)
 refine L_end ?_
 intro w6 hw6
 refine wp_ret ?_
 change bodyPost _ _ _ Exit.ret _ _
 refine (ret_cell_tmp (by rfl) (by rfl) (by rfl) (by rfl) (hw6.blk 1 (by rfl)) Tryz.underlying46 (by rfl) (hi_2 _) ⟨?_, hw6.below⟩)
 exact congrArg (fun x => Ending.returned (.tuple #[.agg (c2 x), .int .i64 0])) (by rw [rs2, hlg]; exact (if_neg (by decide)).symm)
set_option maxRecDepth 100000 in
set_option maxHeartbeats 4000000 in
theorem cd_root2_yff (s : F2) (v : World) (hG : Glo v) (hQ : GQp v) (hU : GUp v) (hs : sq2 s) (hlg : lg2 s.rt = false) : Rets 112 #[.agg (c2 s), .bool false] v (.tuple #[.agg (c2 (rs2 s false)), .int .i64 0]) := by
 refine calls_fr2 Tryz.func112 rfl (by rfl : _ = 26) (by rfl) ?_
 have hw := Hbl.nil v
 refine seq_plain hw [0, 1, 2] (by rfl) ?_
 refine L_box (.agg (c2 (s))) (by rfl) (by rfl) (by rfl) (c2 (s)) (by rfl) ?_; intro g1
 refine L_alloc _ (by rfl) (by rfl) z_2 (c2 (0 : F2)) rfl ?_; intro g2
 refine lv (.int .i64 0) (h := ?_)
 refine L_end ?_
 intro w1 hw1
 refine seq_plain hw1 [0, 1, 2, 3, 4, 5, 6, 7, 8] (by rfl) ?_
 refine L_val (.agg (c2 (s))) (by rfl) (by rfl) (gL g1 46 (c2 (s)) 1 Tryz.underlying46 (hi_2 _)) ?_
 refine L_val (.iface 46 (.agg (c2 (s)))) (by rfl) (by rfl) gk ?_
 refine L_val (.tuple #[.agg (c2 ((s).rt)), .bool true]) (by rfl) (by rfl) (gives_invoke (vl := []) (by rfl) (me2_Sqrt _) (by kernel_rfl) (by rfl) (fun w h => sqy2 _ w (hG.keep h.below) (hQ.keep h.below) hs)) ?_
 refine lv (.tuple #[.agg (c2 ((s).rt)), .bool true]) (h := ?_)
 refine L_val (.agg (c2 ((s).rt))) (by rfl) (by rfl) gk ?_
 refine L_val (.bool true) (by rfl) (by rfl) gk ?_
 refine L_alloc _ (by rfl) (by rfl) z_2 (c2 (0 : F2)) rfl ?_; intro g3
 refine L_store (t := 46) 0 g3 _ _ (by rfl) (by rfl) (by rfl) (by rfl) (by rfl) (hi_2 _) ((c2_size _).trans (c2_size _).symm) (c2_one _) ?_
 simp only [List.set_cons_zero, List.set_cons_succ]
 refine lv (.bool true) (h := ?_)
 refine L_end ?_
 intro w2 hw2
 refine wp_seq ?_
 refine seq_plain hw2 [0, 1] (by rfl) ?_
 refine lv (.bool true) (h := ?_)
 refine lv (.bool false) (h := ?_)
 refine L_end ?_
 intro w3 hw3
 refine wp_cond_false (fr_at _ _ (by rfl) _) ?_
 refine wp_skip ?_
 change Code.wp _ _ _ _ _
 refine wp_seq ?_
 refine seq_plain hw3 [0, 1, 2, 3, 4] (by rfl) ?_
 refine L_val (.agg (c2 ((s).rt))) (by rfl) (by rfl) (gL g3 46 (c2 ((s).rt)) 0 Tryz.underlying46 (hi_2 _)) ?_
 refine L_val (.iface 46 (.agg (c2 ((s).rt)))) (by rfl) (by rfl) gk ?_
 refine L_val (.bool false) (by rfl) (by rfl) (gives_invoke (vl := []) (by rfl) (me2_Large _) (by kernel_rfl) (by rfl) (fun w h => lr2_f _ w (hG.keep h.below) (hU.keep h.below) hlg)) ?_
 refine lv (.bool false) (h := ?_)
 refine lv (.bool false) (h := ?_)
 refine L_end ?_
 intro w4 hw4
 refine wp_cond_false (fr_at _ _ (by rfl) _) ?_
 refine wp_skip ?_
 change Code.wp _ _ _ _ _
 refine seq_plain hw4 [0, 1, 2] (by rfl) ?_
 refine L_val (.agg (c2 ((s).rt))) (by rfl) (by rfl) (gL g3 46 (c2 ((s).rt)) 0 Tryz.underlying46 (hi_2 _)) ?_
 refine L_store (t := 46) 1 g2 _ _ (by rfl) (by rfl) (by rfl) (by rfl) (by rfl) (hi_2 _) ((c2_size _).trans (c2_size _).symm) (c2_one _) ?_
 simp only [List.set_cons_zero, List.set_cons_succ]
 refine lv (.int .i64 0) (h := ?_)
 refine L_end ?_
 intro w5 hw5
 refine wp_ret ?_
 change bodyPost _ _ _ Exit.ret _ _
 refine (ret_cell_tmp (by rfl) (by rfl) (by rfl) (by rfl) (hw5.blk 1 (by rfl)) Tryz.underlying46 (by rfl) (hi_2 _) ⟨?_, hw5.below⟩)
 exact congrArg (fun x => Ending.returned (.tuple #[.agg (c2 x), .int .i64 0])) (by rw [rs2, hlg]; exact (if_pos rfl).symm)
theorem cd_root2_n (s : F2) (fl : Bool) (v : World) (hG : Glo v) (hQ : GQp v) (hU : GUp v) (hs : ¬ sq2 s) : Rets 112 #[.agg (c2 s), .bool fl] v (.tuple #[.agg (c2 0), .int .i64 13]) := by
 cases fl
 ·exact cd_root2_nf s v hG hQ hU hs
 ·exact cd_root2_nt s v hG hQ hU hs
theorem cd_root2_y (s : F2) (fl : Bool) (v : World) (hG : Glo v) (hQ : GQp v) (hU : GUp v) (hs : sq2 s) : Rets 112 #[.agg (c2 s), .bool fl] v (.tuple #[.agg (c2 (rs2 s fl)), .int .i64 0]) := by
 cases fl <;> cases hl : lg2 s.rt
 ·exact cd_root2_yff s v hG hQ hU hs hl
 ·exact cd_root2_yft s v hG hQ hU hs hl
 ·exact cd_root2_ytf s v hG hQ hU hs hl
 ·exact cd_root2_ytt s v hG hQ hU hs hl
end Go.Proofs.YtifnnckbcjafgabGreatDoor
