/-
  The groups' functions: sums of lists, products with scalars, which points are of the curve and of the group.
-/
import Derived.Test.YtifnnckbcjafgabGreatDoorUCvA
import Derived.Test.YtifnnckbcjafgabGreatDoorUCvB
import Derived.Test.YtifnnckbcjafgabGreatDoorUR3F
namespace Go.Proofs.YtifnnckbcjafgabGreatDoor
set_option linter.unusedSimpArgs false
set_option linter.unusedVariables false
set_option linter.unusedSectionVars false
open Go.RowKit
section
variable {K : Type} [Add K] [Sub K] [Neg K] [Mul K] [Zero K] [One K] [DecidableEq K]
def gTimes (inv : K → K) (p : Pt K) (bs : List Int) : Pt K := (tsum (J3.of p) bs).at_ inv
def gMul (inv : K → K) (p : Pt K) (x : Int) : Pt K := gTimes inv p (lo (x % Mr) 32)
end
attribute [local irreducible] wpL wpF fr Code.wp bodyPost
set_option maxRecDepth 100000 in
set_option maxHeartbeats 4000000 in
theorem k2_gtimes (p : Pt F2) (A0 : Option Addr) (n0 c0 : Nat) (bs0 : List Int) (v : World) (hG : Glo v) (hr0 : Reads v v.heap.size A0 n0 (bs0.map (Value.int .u8))) (ho0 : Oct bs0) (hb0 : n0 ≤ 1099511627776) : Rets 90 #[.agg (cg2 (p)), .slice A0 n0 c0] v (.agg (cg2 (gTimes F2.inv p bs0))) := by
  refine calls_fr2 Tryz.func90 rfl (by rfl : _ = 10) (by rfl) ?_
  have hw := Hbl.nil v
  refine seq_plain hw [0, 1] (by rfl) ?_
  refine L_box (.agg (cg2 (p))) (by rfl) (by rfl) (by rfl) (cg2 (p)) (by rfl) ?_; intro g1
  refine L_alloc _ (by rfl) (by rfl) z_g2 (cg2 (0 : Pt F2)) rfl ?_; intro g2
  refine L_end ?_
  intro w1 hw1
  refine seq_plain hw1 [0, 1, 2, 3, 4, 5] (by rfl) ?_
  refine L_val (.agg (cg2 (p))) (by rfl) (by rfl) (gL g1 48 (cg2 (p)) 1 Tryz.underlying48 (hi_g2 _)) ?_
  refine L_val (.agg (cp2 (J3.of (p)))) (by rfl) (by rfl) (gives_call (vl := [.agg (cg2 (p))]) (by kernel_rfl) (by rfl) (fun w h => k2_term _ w (hG.keep h.below))) ?_
  refine lv (.slice A0 n0 c0) (h := ?_)
  refine L_val (.agg (cp2 (tsum (J3.of (p)) bs0))) (by rfl) (by rfl) (gives_call (vl := [.agg (cp2 (J3.of (p))), .slice A0 n0 c0]) (by kernel_rfl) (by rfl) (fun w h => k2_times _ _ _ _ bs0 w (hG.keep h.below) ((hr0.below h.below).more h.below.size) ho0 hb0)) ?_
  refine L_val (.agg (cg2 (J3.at_ F2.inv (tsum (J3.of (p)) bs0)))) (by rfl) (by rfl) (gives_call (vl := [.agg (cp2 (tsum (J3.of (p)) bs0))]) (by kernel_rfl) (by rfl) (fun w h => k2_point _ w (hG.keep h.below))) ?_
  refine L_store (t := 48) 0 g2 _ _ (by rfl) (by rfl) (by rfl) (by rfl) (by rfl) (hi_g2 _) ((cg2_size _).trans (cg2_size _).symm) (cg2_one _) ?_
  simp only [List.set_cons_zero, List.set_cons_succ]
  refine L_end ?_
  intro w2 hw2
  refine wp_ret ?_
  change bodyPost _ _ _ Exit.ret _ _
  refine (ret_cell (by rfl) (by rfl) (by rfl) (hw2.blk 0 (by rfl)) Tryz.underlying48 (by rfl) (hi_g2 _) ⟨?_, hw2.below⟩)
  rfl
set_option maxRecDepth 100000 in
set_option maxHeartbeats 4000000 in
theorem k2_gmul (p : Pt F2) (x : Int) (v : World) (hG : Glo v) (hR : GloR v) : Rets 42 #[.agg (cg2 (p)), .agg (frc (x))] v (.agg (cg2 (gMul F2.inv p x))) := by
  refine calls_fr2 Tryz.func42 rfl (by rfl : _ = 11) (by rfl) ?_
  have hw := Hbl.nil v
  refine seq_plain hw [0, 1, 2] (by rfl) ?_
  refine L_box (.agg (cg2 (p))) (by rfl) (by rfl) (by rfl) (cg2 (p)) (by rfl) ?_; intro g1
  refine L_box (.agg (frc (x))) (by rfl) (by rfl) (by rfl) (frc (x)) (by rfl) ?_; intro g2
  refine L_alloc _ (by rfl) (by rfl) z_g2 (cg2 (0 : Pt F2)) rfl ?_; intro g3
  refine L_end ?_
  intro w1 hw1
  refine seq_plain hw1 [0, 1, 2, 3] (by rfl) ?_
  refine L_val (.agg (frc (x))) (by rfl) (by rfl) (gL g2 60 (frc (x)) 1 Tryz.underlying60 (hi_fr _)) ?_
  refine L_val (.agg (b32c ((x) % Mr))) (by rfl) (by rfl) (gives_call (vl := [.agg (frc (x))]) (by kernel_rfl) (by rfl) (fun w h => u_bytes _ w (hR.keep h.below))) ?_
  refine L_alloc _ (by rfl) (by rfl) z_b32 (b32c (0 : Int)) rfl ?_; intro g4
  refine L_store (t := 77) 0 g4 _ _ (by rfl) (by rfl) (by rfl) (by rfl) (by rfl) (hi_b32 _) ((b32c_size _).trans (b32c_size _).symm) (b32c_one _) ?_
  simp only [List.set_cons_zero, List.set_cons_succ]
  refine L_end ?_
  intro w2 hw2
  refine seq_flow (by kernel_rfl) hw2 [] [(g4, 77, (b32c ((x) % Mr))), (g2, 60, (frc (x))), (g1, 48, (cg2 (p)))] 4 (by rfl) ?_
  refine fTs (i := 0) (e := (List.Sublist.cons_cons _ (List.Sublist.cons _ (List.Sublist.refl _)))) (g := (gL g1 48 (cg2 (p)) 2 Tryz.underlying48 (hi_g2 _))) (h := ?_)
  refine fTs (i := 1) (u := (.slice (some ⟨g4, 0, none⟩) 32 32)) (e := (List.Sublist.cons_cons _ (List.Sublist.cons _ (List.Sublist.refl _)))) (g := (gives_slice_arr g4 32 1 (by rfl) und_b32 u8_sz)) (h := ?_)
  refine fTs (i := 2) (e := (List.Sublist.cons_cons _ (List.Sublist.cons _ (List.Sublist.refl _)))) (g := (gives_call (vl := [.agg (cg2 (p)), .slice (some ⟨g4, 0, none⟩) 32 32]) (by kernel_rfl) (by rfl) (fun w h => k2_gtimes _ _ _ _ (lo (x % Mr) 32) w (hG.keep h.below) (copy_reads (h.blk 0 (by rfl)) (lo_len _ _)) (lo_oct _ _) (by omega)))) (h := ?_)
  refine flow_one 3 (by kernel_rfl) ?_
  refine F_store (t := 48) 1 g3 _ _ (by rfl) (by rfl) (by rfl) (by rfl) (by rfl) (hi_g2 _) ((cg2_size _).trans (cg2_size _).symm) (cg2_one _) (.inr (List.Sublist.cons_cons _ (List.Sublist.cons _ (List.Sublist.refl _)))) ?_
  simp only [List.set_cons_zero, List.set_cons_succ]
  refine flow_done (by kernel_rfl) ?_
  intro w3 hw3
  refine wp_ret ?_
  change bodyPost _ _ _ Exit.ret _ _
  refine (ret_cell (by rfl) (by rfl) (by rfl) (hw3.blk 1 (by rfl)) Tryz.underlying48 (by rfl) (hi_g2 _) ⟨?_, hw3.below⟩)
  rfl
end Go.Proofs.YtifnnckbcjafgabGreatDoor
