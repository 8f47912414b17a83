/-
  What reading a point of the first group goes by.
-/
import Derived.Test.YtifnnckbcjafgabGreatDoorRCdc
import Derived.Test.YtifnnckbcjafgabGreatDoorRGq
namespace Go.Proofs.YtifnnckbcjafgabGreatDoor
set_option linter.unusedSimpArgs false
set_option linter.unusedVariables false
open Go.RowKit
theorem me1_Sqrt (v : Value) (w : World) : (method (Tryz.prog.types.size + Made.depth) 29 v "Sqrt").run Tryz.prog w = .ok (25, v) w := by kernel_rfl
theorem me1_Large (v : Value) (w : World) : (method (Tryz.prog.types.size + Made.depth) 29 v "Large").run Tryz.prog w = .ok (26, v) w := by kernel_rfl
theorem me1_Neg (v : Value) (w : World) : (method (Tryz.prog.types.size + Made.depth) 29 v "Neg").run Tryz.prog w = .ok (27, v) w := by kernel_rfl
/-- The struct of a group: a number's length, how it is read, and what stands above x cubed. -/
def grp1 (x : Fp) : Array Value := #[.int .i64 48, .func (.func 19) #[] #[]] ++ pc x
noncomputable def grp1z : Array Value := match (Tryz.prog.info? 97).map (·.zero) with | some (some (Value.agg c)) => c | _ => #[]
theorem z_grp1 : (Tryz.prog.info? 97).map (·.zero) = some (some (.agg grp1z)) := by kernel_rfl
theorem grp1z_size : grp1z.size = 2 + 6 := by kernel_rfl
theorem grp1_size (x : Fp) : (grp1 x).size = 2 + 6 := by rw [grp1, Array.size_append, pc_size]; rfl
theorem hi_grp1 (x : Fp) : (Tryz.prog.info? 97).map (·.size) = some (grp1 x).size := by rw [grp1_size]; kernel_rfl
theorem grp1_one (x : Fp) : (grp1 x).all (·.oneCell') = true := by rw [grp1, Array.all_append, pc_one, Bool.and_true]; simp [Value.oneCell']
theorem grp1_0 (x : Fp) : (grp1 x)[0]? = some (.int .i64 48) := by
  unfold grp1
  rw [Array.getElem?_append_left (by simp)]; rfl
theorem grp1_1 (x : Fp) : (grp1 x)[1]? = some (.func (.func 19) #[] #[]) := by
  unfold grp1
  rw [Array.getElem?_append_left (by simp)]; rfl
theorem grp1_sl (x : Fp) : Sl (grp1 x) 2 (pc x) := fun j v h => by
  unfold grp1
  rw [Array.getElem?_append_right (by simp)]
  simpa using h
theorem fill_cells1 (place : Nat → Option (Nat × Nat)) : ∀ (ps : List (Nat × Value)) (cs : Array Value), Instr.fill place cs ps = Instr.fill place cs (ps.map fun p => (p.1, Value.agg p.2.cells))
  | [], _ => rfl
  | (i, v) :: r, cs => by
    have e : (Value.agg v.cells).cells = v.cells := rfl
    rw [List.map_cons, Instr.fill, Instr.fill]
    simp only [e]
    split
    · rfl
    · split
      · rfl
      · exact fill_cells1 place r _
theorem gives_buildG1 {S : World → Prop} {l : List (Nat × Value)} {dst : Option Nat} {a b d : Operand} {ty : TypeId} {pos : String} {after : Array Edge} {gd : Option (Nat × Bool)} (x : Fp) (ha : rho l a = .int .i64 48) (hb : rho l b = .func (.func 19) #[] #[]) (hd : rho l d = .agg (pc x)) :
    Gives Tryz.prog S (.agg (grp1 x)) (execOp (rho l) ⟨dst, .build 97 #[(0, a), (1, b), (2, d)], ty, pos, after, gd⟩) := gives_value _ fun w => by
  have hz : (Value.agg grp1z).cells = joinA [#[grp1z[0]!], #[grp1z[1]!], grp1z.extract 2 (2 + 6)] := by kernel_rfl
  have hs : [#[grp1z[0]!], #[grp1z[1]!], grp1z.extract 2 (2 + 6)].map (·.size) = [1, 1, 6] := by kernel_rfl
  have hf := fill_puts ((#[(0, 1), (1, 1), (2, 6)] : Array (Nat × Nat))[·]?) [1, 1, 6] (fun i h => by
    match i, h with
    | 0, _ => rfl
    | 1, _ => rfl
    | 2, _ => rfl) [(0, #[.int .i64 48]), (1, #[.func (.func 19) #[] #[]]), (2, pc x)] _ hs ⟨rfl, rfl, congrArg some (pc_size x).symm, trivial⟩
  rw [← hz] at hf
  have h2 : Instr.fill ((#[(0, 1), (1, 1), (2, 6)] : Array (Nat × Nat))[·]?) (Value.agg grp1z).cells [(0, .int .i64 48), (1, .func (.func 19) #[] #[]), (2, .agg (pc x))] = some (grp1 x) := by
    rw [fill_cells1]
    refine hf.trans ?_
    simp [putsA, joinA, grp1]
  have hrun := run_build_parts (P := Tryz.prog) 97 _ #[(0, 1), (1, 1), (2, 6)] _ Tryz.underlying97 z_grp1 (fun _ => by kernel_rfl) #[(0, .int .i64 48), (1, .func (.func 19) #[] #[]), (2, .agg (pc x))] (grp1 x) h2 w
  simp [execOp, ha, hb, hd, hrun]
def ok1 (l : List Int) : Prop := num l < Mp
instance (l : List Int) : Decidable (ok1 l) := by unfold ok1; infer_instance
def rd1 (l : List Int) : Fp := Fp.n (num l)
def sq1 (x : Fp) : Prop := x.rt * x.rt = x
noncomputable instance (x : Fp) : Decidable (sq1 x) := Classical.propDecidable _
def lg1 (x : Fp) : Bool := decide (Up ≤ (x.val : Int))
/-- Which root is meant. -/
def rs1 (s : Fp) (large : Bool) : Fp := if lg1 s.rt = large then s.rt else -s.rt
/-- What stands beside y squared. -/
def abv1 (x : Fp) : Fp := x * x * x + Fp.n 4
/-- x, y and the error that point answers. -/
noncomputable def pt1 (L : Int) (bs : List Int) : Fp × Fp × Int :=
  if L = 48 then
    (if frm bs true = true then (if 64 * (gt bs 0 / 64 % 2) = 0 then (if ok1 (seg bs 0 48) then
      (if sq1 (abv1 (rd1 (seg bs 0 48))) then (rd1 (seg bs 0 48), rs1 (abv1 (rd1 (seg bs 0 48))) (decide (¬ 32 * (gt bs 0 / 32 % 2) = 0)), 0) else (rd1 (seg bs 0 48), 0, 13)) else (0, 0, 12)) else (0, 0, 0)) else (0, 0, 11))
  else if L = 96 then
    (if frm bs false = true then (if 64 * (gt bs 0 / 64 % 2) = 0 then (if ok1 (seg bs 0 48) then (if ok1 (seg bs 48 48) then
      (if rd1 (seg bs 48 48) * rd1 (seg bs 48 48) = abv1 (rd1 (seg bs 0 48)) then (rd1 (seg bs 0 48), rd1 (seg bs 48 48), 0) else (rd1 (seg bs 0 48), rd1 (seg bs 48 48), 13)) else (rd1 (seg bs 0 48), 0, 12)) else (0, 0, 12)) else (0, 0, 0)) else (0, 0, 11))
  else (0, 0, 10)
theorem rdok1 (l : List Int) (A : Option Addr) (c : Nat) (w : World) (hG : Glo w) (hr : Reads w w.heap.size A 48 (l.map (Value.int .u8))) (ho : Oct l) (hc : 48 ≤ c) (h : ok1 l) : Rets 19 #[.slice A 48 c] w (.tuple #[.agg (pc (rd1 l)), .int .i64 0]) := v_read_ok A c l w hG hr ho hc h
theorem rdno1 (l : List Int) (A : Option Addr) (c : Nat) (w : World) (hG : Glo w) (hr : Reads w w.heap.size A 48 (l.map (Value.int .u8))) (ho : Oct l) (hc : 48 ≤ c) (h : ¬ ok1 l) : Rets 19 #[.slice A 48 c] w (.tuple #[.agg (pc 0), .int .i64 12]) := v_read_field A c l w hG hr ho hc (by unfold ok1 at h; omega)
theorem sqy1 (x : Fp) (w : World) (hG : Glo w) (hQ : GQp w) (h : sq1 x) : Rets 25 #[.agg (pc x)] w (.tuple #[.agg (pc x.rt), .bool true]) := v_sqrt_yes x w hG hQ h
theorem sqn1 (x : Fp) (w : World) (hG : Glo w) (hQ : GQp w) (h : ¬ sq1 x) : Rets 25 #[.agg (pc x)] w (.tuple #[.agg (pc 0), .bool false]) := v_sqrt_no x w hG hQ h
theorem lar1 (x : Fp) (w : World) (hG : Glo w) (hU : GUp w) : Rets 26 #[.agg (pc x)] w (.bool (lg1 x)) := v_large x w hG hU
attribute [local irreducible] wpL wpF fr Code.wp bodyPost
theorem lr1_t (x : Fp) (w : World) (hG : Glo w) (hU : GUp w) (h : lg1 x = true) : Rets 26 #[.agg (pc x)] w (.bool true) := by
  have := lar1 x w hG hU
  rwa [h] at this
theorem lr1_f (x : Fp) (w : World) (hG : Glo w) (hU : GUp w) (h : lg1 x = false) : Rets 26 #[.agg (pc x)] w (.bool false) := by
  have := lar1 x w hG hU
  rwa [h] at this
set_option maxRecDepth 100000 in
set_option maxHeartbeats 4000000 in
theorem cd_root1_nt (s : Fp) (v : World) (hG : Glo v) (hQ : GQp v) (hU : GUp v) (hs : ¬ sq1 s) : Rets 110 #[.agg (pc s), .bool true] v (.tuple #[.agg (pc 0), .int .i64 13]) := by
  refine calls_fr2 Tryz.func110 rfl (by rfl : _ = 26) (by rfl) ?_
  have hw := Hbl.nil v
  refine seq_plain hw [0, 1, 2] (by rfl) ?_
  refine L_box (.agg (pc (s))) (by rfl) (by rfl) (by rfl) (pc (s)) (by rfl) ?_; intro g1
  refine L_alloc _ (by rfl) (by rfl) z_1 (pc (0 : Fp)) rfl ?_; intro g2
  refine lv (.int .i64 0) (h := ?_)
  refine L_end ?_
  intro w1 hw1
  refine seq_plain hw1 [0, 1, 2, 3, 4, 5, 6, 7, 8] (by rfl) ?_
  refine L_val (.agg (pc (s))) (by rfl) (by rfl) (gL g1 29 (pc (s)) 1 Tryz.underlying29 (hi_1 _)) ?_
  refine L_val (.iface 29 (.agg (pc (s)))) (by rfl) (by rfl) gk ?_
  refine L_val (.tuple #[.agg (pc (0 : Fp)), .bool false]) (by rfl) (by rfl) (gives_invoke (vl := []) (by rfl) (me1_Sqrt _) (by kernel_rfl) (by rfl) (fun w h => sqn1 _ w (hG.keep h.below) (hQ.keep h.below) hs)) ?_
  refine lv (.tuple #[.agg (pc (0 : Fp)), .bool false]) (h := ?_)
  refine L_val (.agg (pc (0 : Fp))) (by rfl) (by rfl) gk ?_
  refine L_val (.bool false) (by rfl) (by rfl) gk ?_
  refine L_alloc _ (by rfl) (by rfl) z_1 (pc (0 : Fp)) rfl ?_; intro g3
  refine L_store (t := 29) 0 g3 _ _ (by rfl) (by rfl) (by rfl) (by rfl) (by rfl) (hi_1 _) ((pc_size _).trans (pc_size _).symm) (pc_one _) ?_
  simp only [List.set_cons_zero, List.set_cons_succ]
  refine lv (.bool false) (h := ?_)
  refine L_end ?_
  intro w2 hw2
  refine wp_seq ?_
  refine seq_plain hw2 [0, 1] (by rfl) ?_
  refine lv (.bool false) (h := ?_)
  refine lv (.bool true) (h := ?_)
  refine L_end ?_
  intro w3 hw3
  refine wp_cond_true (fr_at _ _ (by rfl) _) ?_
  refine seq_plain hw3 [0, 1, 2] (by rfl) ?_
  refine L_val (.agg (pc (0 : Fp))) (by rfl) (by rfl) (gL g3 29 (pc (0 : Fp)) 0 Tryz.underlying29 (hi_1 _)) ?_
  refine L_store (t := 29) 1 g2 _ _ (by rfl) (by rfl) (by rfl) (by rfl) (by rfl) (hi_1 _) ((pc_size _).trans (pc_size _).symm) (pc_one _) ?_
  simp only [List.set_cons_zero, List.set_cons_succ]
  refine lv (.int .i64 13) (h := ?_)
  refine L_end ?_
  intro w4 hw4
  refine wp_ret ?_
  change bodyPost _ _ _ Exit.ret _ _
  refine (ret_cell_tmp (by rfl) (by rfl) (by rfl) (by rfl) (hw4.blk 1 (by rfl)) Tryz.underlying29 (by rfl) (hi_1 _) ⟨?_, hw4.below⟩)
  rfl
set_option maxRecDepth 100000 in
set_option maxHeartbeats 4000000 in
theorem cd_root1_nf (s : Fp) (v : World) (hG : Glo v) (hQ : GQp v) (hU : GUp v) (hs : ¬ sq1 s) : Rets 110 #[.agg (pc s), .bool false] v (.tuple #[.agg (pc 0), .int .i64 13]) := by
  refine calls_fr2 Tryz.func110 rfl (by rfl : _ = 26) (by rfl) ?_
  have hw := Hbl.nil v
  refine seq_plain hw [0, 1, 2] (by rfl) ?_
  refine L_box (.agg (pc (s))) (by rfl) (by rfl) (by rfl) (pc (s)) (by rfl) ?_; intro g1
  refine L_alloc _ (by rfl) (by rfl) z_1 (pc (0 : Fp)) rfl ?_; intro g2
  refine lv (.int .i64 0) (h := ?_)
  refine L_end ?_
  intro w1 hw1
  refine seq_plain hw1 [0, 1, 2, 3, 4, 5, 6, 7, 8] (by rfl) ?_
  refine L_val (.agg (pc (s))) (by rfl) (by rfl) (gL g1 29 (pc (s)) 1 Tryz.underlying29 (hi_1 _)) ?_
  refine L_val (.iface 29 (.agg (pc (s)))) (by rfl) (by rfl) gk ?_
  refine L_val (.tuple #[.agg (pc (0 : Fp)), .bool false]) (by rfl) (by rfl) (gives_invoke (vl := []) (by rfl) (me1_Sqrt _) (by kernel_rfl) (by rfl) (fun w h => sqn1 _ w (hG.keep h.below) (hQ.keep h.below) hs)) ?_
  refine lv (.tuple #[.agg (pc (0 : Fp)), .bool false]) (h := ?_)
  refine L_val (.agg (pc (0 : Fp))) (by rfl) (by rfl) gk ?_
  refine L_val (.bool false) (by rfl) (by rfl) gk ?_
  refine L_alloc _ (by rfl) (by rfl) z_1 (pc (0 : Fp)) rfl ?_; intro g3
  refine L_store (t := 29) 0 g3 _ _ (by rfl) (by rfl) (by rfl) (by rfl) (by rfl) (hi_1 _) ((pc_size _).trans (pc_size _).symm) (pc_one _) ?_
  simp only [List.set_cons_zero, List.set_cons_succ]
  refine lv (.bool false) (h := ?_)
  refine L_end ?_
  intro w2 hw2
  refine wp_seq ?_
  refine seq_plain hw2 [0, 1] (by rfl) ?_
  refine lv (.bool false) (h := ?_)
  refine lv (.bool true) (h := ?_)
  refine L_end ?_
  intro w3 hw3
  refine wp_cond_true (fr_at _ _ (by rfl) _) ?_
  refine seq_plain hw3 [0, 1, 2] (by rfl) ?_
  refine L_val (.agg (pc (0 : Fp))) (by rfl) (by rfl) (gL g3 29 (pc (0 : Fp)) 0 Tryz.underlying29 (hi_1 _)) ?_
  refine L_store (t := 29) 1 g2 _ _ (by rfl) (by rfl) (by rfl) (by rfl) (by rfl) (hi_1 _) ((pc_size _).trans (pc_size _).symm) (pc_one _) ?_
  simp only [List.set_cons_zero, List.set_cons_succ]
  refine lv (.int .i64 13) (h := ?_)
  refine L_end ?_
  intro w4 hw4
  refine wp_ret ?_
  change bodyPost _ _ _ Exit.ret _ _
  refine (ret_cell_tmp (by rfl) (by rfl) (by rfl) (by rfl) (hw4.blk 1 (by rfl)) Tryz.underlying29 (by rfl) (hi_1 _) ⟨?_, hw4.below⟩)
  rfl
set_option maxRecDepth 100000 in
set_option maxHeartbeats 4000000 in
theorem cd_root1_ytt (s : Fp) (v : World) (hG : Glo v) (hQ : GQp v) (hU : GUp v) (hs : sq1 s) (hlg : lg1 s.rt = true) : Rets 110 #[.agg (pc s), .bool true] v (.tuple #[.agg (pc (rs1 s true)), .int .i64 0]) := by
  refine calls_fr2 Tryz.func110 rfl (by rfl : _ = 26) (by rfl) ?_
  have hw := Hbl.nil v
  refine seq_plain hw [0, 1, 2] (by rfl) ?_
  refine L_box (.agg (pc (s))) (by rfl) (by rfl) (by rfl) (pc (s)) (by rfl) ?_; intro g1
  refine L_alloc _ (by rfl) (by rfl) z_1 (pc (0 : Fp)) rfl ?_; intro g2
  refine lv (.int .i64 0) (h := ?_)
  refine L_end ?_
  intro w1 hw1
  refine seq_plain hw1 [0, 1, 2, 3, 4, 5, 6, 7, 8] (by rfl) ?_
  refine L_val (.agg (pc (s))) (by rfl) (by rfl) (gL g1 29 (pc (s)) 1 Tryz.underlying29 (hi_1 _)) ?_
  refine L_val (.iface 29 (.agg (pc (s)))) (by rfl) (by rfl) gk ?_
  refine L_val (.tuple #[.agg (pc ((s).rt)), .bool true]) (by rfl) (by rfl) (gives_invoke (vl := []) (by rfl) (me1_Sqrt _) (by kernel_rfl) (by rfl) (fun w h => sqy1 _ w (hG.keep h.below) (hQ.keep h.below) hs)) ?_
  refine lv (.tuple #[.agg (pc ((s).rt)), .bool true]) (h := ?_)
  refine L_val (.agg (pc ((s).rt))) (by rfl) (by rfl) gk ?_
  refine L_val (.bool true) (by rfl) (by rfl) gk ?_
  refine L_alloc _ (by rfl) (by rfl) z_1 (pc (0 : Fp)) rfl ?_; intro g3
  refine L_store (t := 29) 0 g3 _ _ (by rfl) (by rfl) (by rfl) (by rfl) (by rfl) (hi_1 _) ((pc_size _).trans (pc_size _).symm) (pc_one _) ?_
  simp only [List.set_cons_zero, List.set_cons_succ]
  refine lv (.bool true) (h := ?_)
  refine L_end ?_
  intro w2 hw2
  refine wp_seq ?_
  refine seq_plain hw2 [0, 1] (by rfl) ?_
  refine lv (.bool true) (h := ?_)
  refine lv (.bool false) (h := ?_)
  refine L_end ?_
  intro w3 hw3
  refine wp_cond_false (fr_at _ _ (by rfl) _) ?_
  refine wp_skip ?_
  change Code.wp _ _ _ _ _
  refine wp_seq ?_
  refine seq_plain hw3 [0, 1, 2, 3, 4] (by rfl) ?_
  refine L_val (.agg (pc ((s).rt))) (by rfl) (by rfl) (gL g3 29 (pc ((s).rt)) 0 Tryz.underlying29 (hi_1 _)) ?_
  refine L_val (.iface 29 (.agg (pc ((s).rt)))) (by rfl) (by rfl) gk ?_
  refine L_val (.bool true) (by rfl) (by rfl) (gives_invoke (vl := []) (by rfl) (me1_Large _) (by kernel_rfl) (by rfl) (fun w h => lr1_t _ w (hG.keep h.below) (hU.keep h.below) hlg)) ?_
  refine lv (.bool true) (h := ?_)
  refine lv (.bool false) (h := ?_)
  refine L_end ?_
  intro w4 hw4
  refine wp_cond_false (fr_at _ _ (by rfl) _) ?_
  refine wp_skip ?_
  change Code.wp _ _ _ _ _
  refine seq_plain hw4 [0, 1, 2] (by rfl) ?_
  refine L_val (.agg (pc ((s).rt))) (by rfl) (by rfl) (gL g3 29 (pc ((s).rt)) 0 Tryz.underlying29 (hi_1 _)) ?_
  refine L_store (t := 29) 1 g2 _ _ (by rfl) (by rfl) (by rfl) (by rfl) (by rfl) (hi_1 _) ((pc_size _).trans (pc_size _).symm) (pc_one _) ?_
  simp only [List.set_cons_zero, List.set_cons_succ]
  refine lv (.int .i64 0) (h := ?_)
  refine L_end ?_
  intro w5 hw5
  refine wp_ret ?_
  change bodyPost _ _ _ Exit.ret _ _
  refine (ret_cell_tmp (by rfl) (by rfl) (by rfl) (by rfl) (hw5.blk 1 (by rfl)) Tryz.underlying29 (by rfl) (hi_1 _) ⟨?_, hw5.below⟩)
  exact congrArg (fun x => Ending.returned (.tuple #[.agg (pc x), .int .i64 0])) (by rw [rs1, hlg]; exact (if_pos rfl).symm)
set_option maxRecDepth 100000 in
set_option maxHeartbeats 4000000 in
theorem cd_root1_ytf (s : Fp) (v : World) (hG : Glo v) (hQ : GQp v) (hU : GUp v) (hs : sq1 s) (hlg : lg1 s.rt = false) : Rets 110 #[.agg (pc s), .bool true] v (.tuple #[.agg (pc (rs1 s true)), .int .i64 0]) := by
  refine calls_fr2 Tryz.func110 rfl (by rfl : _ = 26) (by rfl) ?_
  have hw := Hbl.nil v
  refine seq_plain hw [0, 1, 2] (by rfl) ?_
  refine L_box (.agg (pc (s))) (by rfl) (by rfl) (by rfl) (pc (s)) (by rfl) ?_; intro g1
  refine L_alloc _ (by rfl) (by rfl) z_1 (pc (0 : Fp)) rfl ?_; intro g2
  refine lv (.int .i64 0) (h := ?_)
  refine L_end ?_
  intro w1 hw1
  refine seq_plain hw1 [0, 1, 2, 3, 4, 5, 6, 7, 8] (by rfl) ?_
  refine L_val (.agg (pc (s))) (by rfl) (by rfl) (gL g1 29 (pc (s)) 1 Tryz.underlying29 (hi_1 _)) ?_
  refine L_val (.iface 29 (.agg (pc (s)))) (by rfl) (by rfl) gk ?_
  refine L_val (.tuple #[.agg (pc ((s).rt)), .bool true]) (by rfl) (by rfl) (gives_invoke (vl := []) (by rfl) (me1_Sqrt _) (by kernel_rfl) (by rfl) (fun w h => sqy1 _ w (hG.keep h.below) (hQ.keep h.below) hs)) ?_
  refine lv (.tuple #[.agg (pc ((s).rt)), .bool true]) (h := ?_)
  refine L_val (.agg (pc ((s).rt))) (by rfl) (by rfl) gk ?_
  refine L_val (.bool true) (by rfl) (by rfl) gk ?_
  refine L_alloc _ (by rfl) (by rfl) z_1 (pc (0 : Fp)) rfl ?_; intro g3
  refine L_store (t := 29) 0 g3 _ _ (by rfl) (by rfl) (by rfl) (by rfl) (by rfl) (hi_1 _) ((pc_size _).trans (pc_size _).symm) (pc_one _) ?_
  simp only [List.set_cons_zero, List.set_cons_succ]
  refine lv (.bool true) (h := ?_)
  refine L_end ?_
  intro w2 hw2
  refine wp_seq ?_
  refine seq_plain hw2 [0, 1] (by rfl) ?_
  refine lv (.bool true) (h := ?_)
  refine lv (.bool false) (h := ?_)
  refine L_end ?_
  intro w3 hw3
  refine wp_cond_false (fr_at _ _ (by rfl) _) ?_
  refine wp_skip ?_
  change Code.wp _ _ _ _ _
  refine wp_seq ?_
  refine seq_plain hw3 [0, 1, 2, 3, 4] (by rfl) ?_
  refine L_val (.agg (pc ((s).rt))) (by rfl) (by rfl) (gL g3 29 (pc ((s).rt)) 0 Tryz.underlying29 (hi_1 _)) ?_
  refine L_val (.iface 29 (.agg (pc ((s).rt)))) (by rfl) (by rfl) gk ?_
  refine L_val (.bool false) (by rfl) (by rfl) (gives_invoke (vl := []) (by rfl) (me1_Large _) (by kernel_rfl) (by rfl) (fun w h => lr1_f _ w (hG.keep h.below) (hU.keep h.below) hlg)) ?_
  refine lv (.bool true) (h := ?_)
  refine lv (.bool true) (h := ?_)
  refine L_end ?_
  intro w4 hw4
  refine wp_cond_true (fr_at _ _ (by rfl) _) ?_
  refine one_plain hw4 [0, 1, 2, 3] (by rfl) ?_
  refine L_val (.agg (pc ((s).rt))) (by rfl) (by rfl) (gL g3 29 (pc ((s).rt)) 0 Tryz.underlying29 (hi_1 _)) ?_
  refine L_val (.iface 29 (.agg (pc ((s).rt)))) (by rfl) (by rfl) gk ?_
  refine L_val (.agg (pc (-((s).rt)))) (by rfl) (by rfl) (gives_invoke (vl := []) (by rfl) (me1_Neg _) (by kernel_rfl) (by rfl) (fun w h => v_neg _ w (hG.keep h.below))) ?_
  refine L_store (t := 29) 0 g3 _ _ (by rfl) (by rfl) (by rfl) (by rfl) (by rfl) (hi_1 _) ((pc_size _).trans (pc_size _).symm) (pc_one _) ?_
  simp only [List.set_cons_zero, List.set_cons_succ]
  refine L_end ?_
  intro w5 hw5
  change Code.wp _ _ _ _ _
  refine seq_plain hw5 [0, 1, 2] (by rfl) ?_
  refine L_val (.agg (pc (-((s).rt)))) (by rfl) (by rfl) (gL g3 29 (pc (-((s).rt))) 0 Tryz.underlying29 (hi_1 _)) ?_
  refine L_store (t := 29) 1 g2 _ _ (by rfl) (by rfl) (by rfl) (by rfl) (by rfl) (hi_1 _) ((pc_size _).trans (pc_size _).symm) (pc_one _) ?_
  simp only [List.set_cons_zero, List.set_cons_succ]
  refine lv (.int .i64 0) (h := ?_)
  refine L_end ?_
  intro w6 hw6
  refine wp_ret ?_
  change bodyPost _ _ _ Exit.ret _ _
  refine (ret_cell_tmp (by rfl) (by rfl) (by rfl) (by rfl) (hw6.blk 1 (by rfl)) Tryz.underlying29 (by rfl) (hi_1 _) ⟨?_, hw6.below⟩)
  exact congrArg (fun x => Ending.returned (.tuple #[.agg (pc x), .int .i64 0])) (by rw [rs1, hlg]; exact (if_neg (by decide)).symm)
set_option maxRecDepth 100000 in
set_option maxHeartbeats 4000000 in
theorem cd_root1_yft (s : Fp) (v : World) (hG : Glo v) (hQ : GQp v) (hU : GUp v) (hs : sq1 s) (hlg : lg1 s.rt = true) : Rets 110 #[.agg (pc s), .bool false] v (.tuple #[.agg (pc (rs1 s false)), .int .i64 0]) := by
  refine calls_fr2 Tryz.func110 rfl (by rfl : _ = 26) (by rfl) ?_
  have hw := Hbl.nil v
  refine seq_plain hw [0, 1, 2] (by rfl) ?_
  refine L_box (.agg (pc (s))) (by rfl) (by rfl) (by rfl) (pc (s)) (by rfl) ?_; intro g1
  refine L_alloc _ (by rfl) (by rfl) z_1 (pc (0 : Fp)) rfl ?_; intro g2
  refine lv (.int .i64 0) (h := ?_)
  refine L_end ?_
  intro w1 hw1
  refine seq_plain hw1 [0, 1, 2, 3, 4, 5, 6, 7, 8] (by rfl) ?_
  refine L_val (.agg (pc (s))) (by rfl) (by rfl) (gL g1 29 (pc (s)) 1 Tryz.underlying29 (hi_1 _)) ?_
  refine L_val (.iface 29 (.agg (pc (s)))) (by rfl) (by rfl) gk ?_
  refine L_val (.tuple #[.agg (pc ((s).rt)), .bool true]) (by rfl) (by rfl) (gives_invoke (vl := []) (by rfl) (me1_Sqrt _) (by kernel_rfl) (by rfl) (fun w h => sqy1 _ w (hG.keep h.below) (hQ.keep h.below) hs)) ?_
  refine lv (.tuple #[.agg (pc ((s).rt)), .bool true]) (h := ?_)
  refine L_val (.agg (pc ((s).rt))) (by rfl) (by rfl) gk ?_
  refine L_val (.bool true) (by rfl) (by rfl) gk ?_
  refine L_alloc _ (by rfl) (by rfl) z_1 (pc (0 : Fp)) rfl ?_; intro g3
  refine L_store (t := 29) 0 g3 _ _ (by rfl) (by rfl) (by rfl) (by rfl) (by rfl) (hi_1 _) ((pc_size _).trans (pc_size _).symm) (pc_one _) ?_
  simp only [List.set_cons_zero, List.set_cons_succ]
  refine lv (.bool true) (h := ?_)
  refine L_end ?_
  intro w2 hw2
  refine wp_seq ?_
  refine seq_plain hw2 [0, 1] (by rfl) ?_
  refine lv (.bool true) (h := ?_)
  refine lv (.bool false) (h := ?_)
  refine L_end ?_
  intro w3 hw3
  refine wp_cond_false (fr_at _ _ (by rfl) _) ?_
  refine wp_skip ?_
  change Code.wp _ _ _ _ _
  refine wp_seq ?_
  refine seq_plain hw3 [0, 1, 2, 3, 4] (by rfl) ?_
  refine L_val (.agg (pc ((s).rt))) (by rfl) (by rfl) (gL g3 29 (pc ((s).rt)) 0 Tryz.underlying29 (hi_1 _)) ?_
  refine L_val (.iface 29 (.agg (pc ((s).rt)))) (by rfl) (by rfl) gk ?_
  refine L_val (.bool true) (by rfl) (by rfl) (gives_invoke (vl := []) (by rfl) (me1_Large _) (by kernel_rfl) (by rfl) (fun w h => lr1_t _ w (hG.keep h.below) (hU.keep h.below) hlg)) ?_
  refine lv (.bool false) (h := ?_)
  refine lv (.bool true) (h := ?_)
  refine L_end ?_
  intro w4 hw4
  refine wp_cond_true (fr_at _ _ (by rfl) _) ?_
  refine one_plain hw4 [0, 1, 2, 3] (by rfl) ?_
  refine L_val (.agg (pc ((s).rt))) (by rfl) (by rfl) (gL g3 29 (pc ((s).rt)) 0 Tryz.underlying29 (hi_1 _)) ?_
  refine L_val (.iface 29 (.agg (pc ((s).rt)))) (by rfl) (by rfl) gk ?_
  refine L_val (.agg (pc (-((s).rt)))) (by rfl) (by rfl) (gives_invoke (vl := []) (by rfl) (me1_Neg _) (by kernel_rfl) (by rfl) (fun w h => v_neg _ w (hG.keep h.below))) ?_
  refine L_store (t := 29) 0 g3 _ _ (by rfl) (by rfl) (by rfl) (by rfl) (by rfl) (hi_1 _) ((pc_size _).trans (pc_size _).symm) (pc_one _) ?_
  simp only [List.set_cons_zero, List.set_cons_succ]
  refine L_end ?_
  intro w5 hw5
  change Code.wp _ _ _ _ _
  refine seq_plain hw5 [0, 1, 2] (by rfl) ?_
  refine L_val (.agg (pc (-((s).rt)))) (by rfl) (by rfl) (gL g3 29 (pc (-((s).rt))) 0 Tryz.underlying29 (hi_1 _)) ?_
  refine L_store (t := 29) 1 g2 _ _ (by rfl) (by rfl) (by rfl) (by rfl) (by rfl) (hi_1 _) ((pc_size _).trans (pc_size _).symm) (pc_one _) ?_
  simp only [List.set_cons_zero, List.set_cons_succ]
  refine lv (.int .i64 0) (h := ?_)
  refine L_end ?_
  intro w6 hw6
  refine wp_ret ?_
  change bodyPost _ _ _ Exit.ret _ _
  refine (ret_cell_tmp (by rfl) (by rfl) (by rfl) (by rfl) (hw6.blk 1 (by rfl)) Tryz.underlying29 (by rfl) (hi_1 _) ⟨?_, hw6.below⟩)
  exact congrArg (fun x => Ending.returned (.tuple #[.agg (pc x), .int .i64 0])) (by rw [rs1, hlg]; exact (if_neg (by decide)).symm)
set_option maxRecDepth 100000 in
set_option maxHeartbeats 4000000 in
theorem cd_root1_yff (s : Fp) (v : World) (hG : Glo v) (hQ : GQp v) (hU : GUp v) (hs : sq1 s) (hlg : lg1 s.rt = false) : Rets 110 #[.agg (pc s), .bool false] v (.tuple #[.agg (pc (rs1 s false)), .int .i64 0]) := by
  refine calls_fr2 Tryz.func110 rfl (by rfl : _ = 26) (by rfl) ?_
  have hw := Hbl.nil v
  refine seq_plain hw [0, 1, 2] (by rfl) ?_
  refine L_box (.agg (pc (s))) (by rfl) (by rfl) (by rfl) (pc (s)) (by rfl) ?_; intro g1
  refine L_alloc _ (by rfl) (by rfl) z_1 (pc (0 : Fp)) rfl ?_; intro g2
  refine lv (.int .i64 0) (h := ?_)
  refine L_end ?_
  intro w1 hw1
  refine seq_plain hw1 [0, 1, 2, 3, 4, 5, 6, 7, 8] (by rfl) ?_
  refine L_val (.agg (pc (s))) (by rfl) (by rfl) (gL g1 29 (pc (s)) 1 Tryz.underlying29 (hi_1 _)) ?_
  refine L_val (.iface 29 (.agg (pc (s)))) (by rfl) (by rfl) gk ?_
  refine L_val (.tuple #[.agg (pc ((s).rt)), .bool true]) (by rfl) (by rfl) (gives_invoke (vl := []) (by rfl) (me1_Sqrt _) (by kernel_rfl) (by rfl) (fun w h => sqy1 _ w (hG.keep h.below) (hQ.keep h.below) hs)) ?_
  refine lv (.tuple #[.agg (pc ((s).rt)), .bool true]) (h := ?_)
  refine L_val (.agg (pc ((s).rt))) (by rfl) (by rfl) gk ?_
  refine L_val (.bool true) (by rfl) (by rfl) gk ?_
  refine L_alloc _ (by rfl) (by rfl) z_1 (pc (0 : Fp)) rfl ?_; intro g3
  refine L_store (t := 29) 0 g3 _ _ (by rfl) (by rfl) (by rfl) (by rfl) (by rfl) (hi_1 _) ((pc_size _).trans (pc_size _).symm) (pc_one _) ?_
  simp only [List.set_cons_zero, List.set_cons_succ]
  refine lv (.bool true) (h := ?_)
  refine L_end ?_
  intro w2 hw2
  refine wp_seq ?_
  refine seq_plain hw2 [0, 1] (by rfl) ?_
  refine lv (.bool true) (h := ?_)
  refine lv (.bool false) (h := ?_)
  refine L_end ?_
  intro w3 hw3
  refine wp_cond_false (fr_at _ _ (by rfl) _) ?_
  refine wp_skip ?_
  change Code.wp _ _ _ _ _
  refine wp_seq ?_
  refine seq_plain hw3 [0, 1, 2, 3, 4] (by rfl) ?_
  refine L_val (.agg (pc ((s).rt))) (by rfl) (by rfl) (gL g3 29 (pc ((s).rt)) 0 Tryz.underlying29 (hi_1 _)) ?_
  refine L_val (.iface 29 (.agg (pc ((s).rt)))) (by rfl) (by rfl) gk ?_
  refine L_val (.bool false) (by rfl) (by rfl) (gives_invoke (vl := []) (by rfl) (me1_Large _) (by kernel_rfl) (by rfl) (fun w h => lr1_f _ w (hG.keep h.below) (hU.keep h.below) hlg)) ?_
  refine lv (.bool false) (h := ?_)
  refine lv (.bool false) (h := ?_)
  refine L_end ?_
  intro w4 hw4
  refine wp_cond_false (fr_at _ _ (by rfl) _) ?_
  refine wp_skip ?_
  change Code.wp _ _ _ _ _
  refine seq_plain hw4 [0, 1, 2] (by rfl) ?_
  refine L_val (.agg (pc ((s).rt))) (by rfl) (by rfl) (gL g3 29 (pc ((s).rt)) 0 Tryz.underlying29 (hi_1 _)) ?_
  refine L_store (t := 29) 1 g2 _ _ (by rfl) (by rfl) (by rfl) (by rfl) (by rfl) (hi_1 _) ((pc_size _).trans (pc_size _).symm) (pc_one _) ?_
  simp only [List.set_cons_zero, List.set_cons_succ]
  refine lv (.int .i64 0) (h := ?_)
  refine L_end ?_
  intro w5 hw5
  refine wp_ret ?_
  change bodyPost _ _ _ Exit.ret _ _
  refine (ret_cell_tmp (by rfl) (by rfl) (by rfl) (by rfl) (hw5.blk 1 (by rfl)) Tryz.underlying29 (by rfl) (hi_1 _) ⟨?_, hw5.below⟩)
  exact congrArg (fun x => Ending.returned (.tuple #[.agg (pc x), .int .i64 0])) (by rw [rs1, hlg]; exact (if_pos rfl).symm)
theorem cd_root1_n (s : Fp) (fl : Bool) (v : World) (hG : Glo v) (hQ : GQp v) (hU : GUp v) (hs : ¬ sq1 s) : Rets 110 #[.agg (pc s), .bool fl] v (.tuple #[.agg (pc 0), .int .i64 13]) := by
  cases fl
  · exact cd_root1_nf s v hG hQ hU hs
  · exact cd_root1_nt s v hG hQ hU hs
theorem cd_root1_y (s : Fp) (fl : Bool) (v : World) (hG : Glo v) (hQ : GQp v) (hU : GUp v) (hs : sq1 s) : Rets 110 #[.agg (pc s), .bool fl] v (.tuple #[.agg (pc (rs1 s fl)), .int .i64 0]) := by
  cases fl <;> cases hl : lg1 s.rt
  · exact cd_root1_yff s v hG hQ hU hs hl
  · exact cd_root1_yft s v hG hQ hU hs hl
  · exact cd_root1_ytf s v hG hQ hU hs hl
  · exact cd_root1_ytt s v hG hQ hU hs hl
end Go.Proofs.YtifnnckbcjafgabGreatDoor
