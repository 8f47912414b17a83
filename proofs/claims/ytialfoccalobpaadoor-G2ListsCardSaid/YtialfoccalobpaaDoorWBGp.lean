/-
  The groups' functions: sums of lists, products with scalars, which points are of the curve and of the group.
-/
import Derived.Test.YtialfoccalobpaaDoorWBCvA
import Derived.Test.YtialfoccalobpaaDoorWBCvB
import Derived.Test.YtialfoccalobpaaDoorWBR3F
namespace Go.Proofs.YtialfoccalobpaaDoor
set_option linter.unusedSimpArgs false
set_option linter.unusedVariables false
set_option linter.unusedSectionVars false
open Go.RowKit
section
variable {K : Type} [Add K] [Sub K] [Neg K] [Mul K] [Zero K] [One K] [DecidableEq K]
def gp (l : List (Pt K)) (i : Nat) : Pt K := l.getD i 0
theorem gp_at {l : List (Pt K)} {i : Nat} (h : i < l.length) : l[i]? = some (gp l i) := by
  rw [List.getElem?_eq_getElem h, gp, List.getD_eq_getElem?_getD, List.getElem?_eq_getElem h]
  rfl
def gsum (l : List (Pt K)) : J3 K := l.foldl (fun s P => J3.add s (J3.of P)) 0
theorem gsum_nil (l : List (Pt K)) : gsum (l.take 0) = 0 := by simp [gsum]
theorem gsum_next (l : List (Pt K)) (k : Nat) (h : k < l.length) : gsum (l.take (k + 1)) = J3.add (gsum (l.take k)) (J3.of (gp l k)) := by
  have e : l.take (k + 1) = l.take k ++ [gp l k] := by
    rw [List.take_add_one, gp_at h]
    rfl
  rw [e, gsum, List.foldl_append]
  rfl
/-- The program's sums and products. -/
def gSum (inv : K → K) (l : List (Pt K)) : Pt K := (gsum l).at_ inv
def gAdd (inv : K → K) (p q : Pt K) : Pt K := gSum inv [p, q]
def gTimes (inv : K → K) (p : Pt K) (bs : List Int) : Pt K := (tsum (J3.of p) bs).at_ inv
def gMul (inv : K → K) (p : Pt K) (x : Int) : Pt K := gTimes inv p (lo (x % Mr) 32)
end
/-- A slice holds points. -/
def PtsAt (n : Nat) {K : Type} [Zero K] (c : Pt K → Array Value) (w : World) (A : Option Addr) (m : Nat) (ps : List (Pt K)) : Prop :=
  ps.length = m ∧ (0 < m → ∃ b o, A = some ⟨b, o, none⟩ ∧ b < w.heap.size ∧ ∀ i, i < m → ∀ (j : Nat) v, (c (ps.getD i 0))[j]? = some v → w.cell? ⟨b, o + i * n + j, none⟩ = some v)
theorem PtsAt.keep {n : Nat} {K : Type} [Zero K] {c : Pt K → Array Value} {w w' : World} {A : Option Addr} {m : Nat} {ps : List (Pt K)} (h : PtsAt n c w A m ps) (hb : Below w.heap.size w w') : PtsAt n c w' A m ps :=
  ⟨h.1, fun hm => by
    obtain ⟨b, o, hA, hq, hc⟩ := h.2 hm
    exact ⟨b, o, hA, Nat.lt_of_lt_of_le hq hb.size, fun i hi j v hv => (hb.cell (p := ⟨b, _, none⟩) hq).trans (hc i hi j v hv)⟩⟩
theorem PtsAt.nil {n : Nat} {K : Type} [Zero K] {c : Pt K → Array Value} (w : World) : PtsAt n c w none 0 [] := ⟨rfl, fun h => absurd h (by omega)⟩
theorem pts_blk {n : Nat} {K : Type} [Zero K] {c : Pt K → Array Value} {w : World} {g : Nat} {t : TypeId} (ps : List (Pt K)) (m : Nat) (hm : ps.length = m) (hc : ∀ p, (c p).size = n) (h : Blk w g t (joinA (ps.map c))) : PtsAt n c w (some ⟨g, 0, none⟩) m ps :=
  ⟨hm, fun _ => ⟨g, 0, rfl, h.lt, fun i hi j v hv => by
    have hi' : i < ps.length := by omega
    have hs := sl_joinC n (ps.map c) (fun a ha => by
      obtain ⟨p, -, rfl⟩ := List.mem_map.1 ha
      exact hc p) i (c (ps.getD i 0)) (by rw [List.getElem?_map, List.getD_eq_getElem?_getD, List.getElem?_eq_getElem hi']; rfl) (i * n) rfl
    have := h.cell (i * n + j)
    rw [hs j v hv] at this
    rw [Nat.zero_add]
    exact this⟩⟩
attribute [local irreducible] wpL wpF fr Code.wp bodyPost
theorem zs_g2 : (Tryd.prog.info? 71).map (fun i => (i.zero, i.size)) = some (some (.agg (cg2 0)), 24) := by rw [cg2_zero]; kernel_rfl
theorem zr_g2_2 : (Array.range (2 * 24)).map ((cg2 0)[· % (cg2 0).size]!) = joinA (List.replicate 2 (cg2 0)) := by rw [cg2_zero]; kernel_rfl
set_option maxRecDepth 100000 in
set_option maxHeartbeats 4000000 in
theorem k2_gtimes (p : Pt F2) (A0 : Option Addr) (n0 c0 : Nat) (bs0 : List Int) (v : World) (hG : Glo v) (hr0 : Reads v v.heap.size A0 n0 (bs0.map (Value.int .u8))) (ho0 : Oct bs0) (hb0 : n0 ≤ 1099511627776) : Rets 81 #[.agg (cg2 (p)), .slice A0 n0 c0] v (.agg (cg2 (gTimes F2.inv p bs0))) := by
  refine calls_fr2 Tryd.func81 rfl (by rfl : _ = 10) (by rfl) ?_
  have hw := Hbl.nil v
  refine seq_plain hw [0, 1] (by rfl) ?_
  refine L_box (.agg (cg2 (p))) (by rfl) (by rfl) (by rfl) (cg2 (p)) (by rfl) ?_; intro g1
  refine L_alloc _ (by rfl) (by rfl) z_g2 (cg2 (0 : Pt F2)) rfl ?_; intro g2
  refine L_end ?_
  intro w1 hw1
  refine seq_plain hw1 [0, 1, 2, 3, 4, 5] (by rfl) ?_
  refine L_val (.agg (cg2 (p))) (by rfl) (by rfl) (gL g1 71 (cg2 (p)) 1 Tryd.underlying71 (hi_g2 _)) ?_
  refine L_val (.agg (cp2 (J3.of (p)))) (by rfl) (by rfl) (gives_call (vl := [.agg (cg2 (p))]) (by kernel_rfl) (by rfl) (fun w h => k2_term _ w (hG.keep h.below))) ?_
  refine lv (.slice A0 n0 c0) (h := ?_)
  refine L_val (.agg (cp2 (tsum (J3.of (p)) bs0))) (by rfl) (by rfl) (gives_call (vl := [.agg (cp2 (J3.of (p))), .slice A0 n0 c0]) (by kernel_rfl) (by rfl) (fun w h => k2_times _ _ _ _ bs0 w (hG.keep h.below) ((hr0.below h.below).more h.below.size) ho0 hb0)) ?_
  refine L_val (.agg (cg2 (J3.at_ F2.inv (tsum (J3.of (p)) bs0)))) (by rfl) (by rfl) (gives_call (vl := [.agg (cp2 (tsum (J3.of (p)) bs0))]) (by kernel_rfl) (by rfl) (fun w h => k2_point _ w (hG.keep h.below))) ?_
  refine L_store (t := 71) 0 g2 _ _ (by rfl) (by rfl) (by rfl) (by rfl) (by rfl) (hi_g2 _) ((cg2_size _).trans (cg2_size _).symm) (cg2_one _) ?_
  simp only [List.set_cons_zero, List.set_cons_succ]
  refine L_end ?_
  intro w2 hw2
  refine wp_ret ?_
  change bodyPost _ _ _ Exit.ret _ _
  refine (ret_cell (by rfl) (by rfl) (by rfl) (hw2.blk 0 (by rfl)) Tryd.underlying71 (by rfl) (hi_g2 _) ⟨?_, hw2.below⟩)
  rfl
set_option maxRecDepth 100000 in
set_option maxHeartbeats 4000000 in
theorem k2_gmul (p : Pt F2) (x : Int) (v : World) (hG : Glo v) (hR : GloR v) : Rets 38 #[.agg (cg2 (p)), .agg (frc (x))] v (.agg (cg2 (gMul F2.inv p x))) := by
  refine calls_fr2 Tryd.func38 rfl (by rfl : _ = 11) (by rfl) ?_
  have hw := Hbl.nil v
  refine seq_plain hw [0, 1, 2] (by rfl) ?_
  refine L_box (.agg (cg2 (p))) (by rfl) (by rfl) (by rfl) (cg2 (p)) (by rfl) ?_; intro g1
  refine L_box (.agg (frc (x))) (by rfl) (by rfl) (by rfl) (frc (x)) (by rfl) ?_; intro g2
  refine L_alloc _ (by rfl) (by rfl) z_g2 (cg2 (0 : Pt F2)) rfl ?_; intro g3
  refine L_end ?_
  intro w1 hw1
  refine seq_plain hw1 [0, 1, 2, 3] (by rfl) ?_
  refine L_val (.agg (frc (x))) (by rfl) (by rfl) (gL g2 60 (frc (x)) 1 Tryd.underlying60 (hi_fr _)) ?_
  refine L_val (.agg (b32c ((x) % Mr))) (by rfl) (by rfl) (gives_call (vl := [.agg (frc (x))]) (by kernel_rfl) (by rfl) (fun w h => u_bytes _ w (hR.keep h.below))) ?_
  refine L_alloc _ (by rfl) (by rfl) z_b32 (b32c (0 : Int)) rfl ?_; intro g4
  refine L_store (t := 50) 0 g4 _ _ (by rfl) (by rfl) (by rfl) (by rfl) (by rfl) (hi_b32 _) ((b32c_size _).trans (b32c_size _).symm) (b32c_one _) ?_
  simp only [List.set_cons_zero, List.set_cons_succ]
  refine L_end ?_
  intro w2 hw2
  refine seq_flow (by kernel_rfl) hw2 [] [(g4, 50, (b32c ((x) % Mr))), (g2, 60, (frc (x))), (g1, 71, (cg2 (p)))] 4 (by rfl) ?_
  refine fTs (i := 0) (e := (List.Sublist.cons_cons _ (List.Sublist.cons _ (List.Sublist.refl _)))) (g := (gL g1 71 (cg2 (p)) 2 Tryd.underlying71 (hi_g2 _))) (h := ?_)
  refine fTs (i := 1) (u := (.slice (some ⟨g4, 0, none⟩) 32 32)) (e := (List.Sublist.cons_cons _ (List.Sublist.cons _ (List.Sublist.refl _)))) (g := (gives_slice_arr g4 32 1 (by rfl) und_b32 u8_sz)) (h := ?_)
  refine fTs (i := 2) (e := (List.Sublist.cons_cons _ (List.Sublist.cons _ (List.Sublist.refl _)))) (g := (gives_call (vl := [.agg (cg2 (p)), .slice (some ⟨g4, 0, none⟩) 32 32]) (by kernel_rfl) (by rfl) (fun w h => k2_gtimes _ _ _ _ (lo (x % Mr) 32) w (hG.keep h.below) (copy_reads (h.blk 0 (by rfl)) (lo_len _ _)) (lo_oct _ _) (by omega)))) (h := ?_)
  refine flow_one 3 (by kernel_rfl) ?_
  refine F_store (t := 71) 1 g3 _ _ (by rfl) (by rfl) (by rfl) (by rfl) (by rfl) (hi_g2 _) ((cg2_size _).trans (cg2_size _).symm) (cg2_one _) (.inr (List.Sublist.cons_cons _ (List.Sublist.cons _ (List.Sublist.refl _)))) ?_
  simp only [List.set_cons_zero, List.set_cons_succ]
  refine flow_done (by kernel_rfl) ?_
  intro w3 hw3
  refine wp_ret ?_
  change bodyPost _ _ _ Exit.ret _ _
  refine (ret_cell (by rfl) (by rfl) (by rfl) (hw3.blk 1 (by rfl)) Tryd.underlying71 (by rfl) (hi_g2 _) ⟨?_, hw3.below⟩)
  rfl
set_option maxRecDepth 100000 in
set_option maxHeartbeats 4000000 in
theorem k2_gsum (A0 : Option Addr) (n0 c0 : Nat) (ps0 : List (Pt F2)) (v : World) (hG : Glo v) (hp : PtsAt 24 cg2 v A0 n0 ps0) (hb0 : n0 ≤ 1099511627776) : Rets 41 #[.slice A0 n0 c0] v (.agg (cg2 (gSum F2.inv ps0))) := by
  refine calls_fr1 Tryd.func41 rfl (by rfl : _ = 19) (by rfl) ?_
  have hw := Hbl.nil v
  refine seq_plain hw [0] (by rfl) ?_
  refine L_alloc _ (by rfl) (by rfl) z_g2 (cg2 (0 : Pt F2)) rfl ?_; intro g1
  refine L_end ?_
  intro w1 hw1
  refine seq_plain hw1 [0] (by rfl) ?_
  refine L_alloc _ (by rfl) (by rfl) z_p2 (cp2 (0 : J3 F2)) rfl ?_; intro g2
  refine L_end ?_
  intro w2 hw2
  refine wp_seq ?_
  refine seq_plain hw2 [0, 1, 2] (by rfl) ?_
  refine lv (.slice A0 n0 c0) (h := ?_)
  refine L_val (.int .i64 (n0 : Int)) (by rfl) (by rfl) (gives_len _ n0 c0 Tryd.underlying69 (by rfl)) ?_
  refine lv (.int .i64 0) (h := ?_)
  refine L_end ?_
  intro w3 hw3
  refine wp_block ?_
  refine loop_down (fun (r_ : Nat) a w => ∃ (k : Nat) (l_1 : List (Nat × Value)), n0 - k = r_ ∧ inFr 19 l_1 = true ∧ a = fr 19 ((2, .pointer (some ⟨g1, 0, none⟩)) :: (3, .pointer (some ⟨g2, 0, none⟩)) :: (6, .slice A0 n0 c0) :: (7, .int .i64 (n0 : Int)) :: (8, .int .i64 (k : Int)) :: l_1) ∧ (k ≤ n0) ∧ Hbl v [(g2, 131, (cp2 (gsum (ps0.take (k))))), (g1, 71, (cg2 (0 : Pt F2)))] w) ?_ _ _ _ ⟨0, [(8, .int .i64 0), (7, .int .i64 (n0 : Int)), (6, .slice A0 n0 c0), (3, .pointer (some ⟨g2, 0, none⟩)), (2, .pointer (some ⟨g1, 0, none⟩)), (0, .slice A0 n0 c0)], rfl, (by rfl), (Eq.trans (Eq.trans (Eq.trans (Eq.trans (fr_dup _ _ 8 _ (by rfl) (by rfl) (by rfl)).symm (fr_dup _ _ 7 _ (by rfl) (by rfl) (by rfl)).symm) (fr_dup _ _ 6 _ (by rfl) (by rfl) (by rfl)).symm) (fr_dup _ _ 3 _ (by rfl) (by rfl) (by rfl)).symm) (fr_dup _ _ 2 _ (by rfl) (by rfl) (by rfl)).symm), Nat.zero_le _, (by rw [gsum_nil]; exact hw3)⟩
  rintro r_1 a0 w0_1 ⟨k, l_1, hr_1, hl_1, rfl, hk, hw0_1⟩
  by_cases hlt : k < n0
  ·
    obtain ⟨b0, o0, hA0, hq0, hce⟩ := hp.2 (by omega)
    have hce0 := hce k hlt
    refine seq_plain hw0_1 [0] (by rfl) ?_
    refine L_val (.bool true) (by rfl) (by exact hl_1) (gives_lss (k := .i64) ((k : Int)) ((n0 : Int)) true (by rfl) (by rfl) (decide_eq_true (by omega))) ?_
    refine L_end ?_
    intro w4 hw4
    refine wp_seq ?_
    refine wp_cond_true (fr_at _ _ (by exact hl_1) _) ?_
    refine wp_skip ?_
    change Code.wp _ _ _ _ _
    refine wp_seq ?_
    refine wp_block ?_
    refine seq_plain hw4 [0, 1, 2, 3] (by rfl) ?_
    refine L_val (.pointer (some ⟨b0, o0 + k * 24, none⟩)) (by rfl) (by exact hl_1) (gives_index_sl A0 b0 o0 n0 c0 24 ((k : Int)) k (o0 + k * 24) hA0 (by rfl) (by rfl) Tryd.underlying69 (by kernel_rfl) rfl hlt rfl) ?_
    refine L_val (.agg (cg2 (gp ps0 k))) (by rfl) (by exact hl_1) (gives_loadA b0 (o0 + k * 24) (cg2 (gp ps0 k)) _ (by rfl) (fun _ h j v hv => (h.below.cell (p := ⟨b0, _, none⟩) hq0).trans (hce0 j v hv)) Tryd.underlying71 (by rfl) (hi_g2 _)) ?_
    refine L_alloc _ (by rfl) (by exact hl_1) z_g2 (cg2 (0 : Pt F2)) rfl ?_; intro g3
    refine L_store (t := 71) 0 g3 _ _ (by rfl) (by exact hl_1) (by rfl) (by rfl) (by rfl) (hi_g2 _) ((cg2_size _).trans (cg2_size _).symm) (cg2_one _) ?_
    simp only [List.set_cons_zero, List.set_cons_succ]
    refine L_end ?_
    intro w5 hw5
    refine one_flow (by kernel_rfl) hw5 [4] [(g3, 71, (cg2 (gp ps0 k))), (g2, 131, (cp2 (gsum (ps0.take (k))))), (g1, 71, (cg2 (0 : Pt F2)))] 5 (by rfl) ?_
    refine fT (i := 0) (hl := by exact hl_1) (g := (gL g2 131 (cp2 (gsum (ps0.take (k)))) 1 Tryd.underlying131 (hi_p2 _))) (h := ?_)
    refine fT (i := 1) (hl := by exact hl_1) (g := (gL g3 71 (cg2 (gp ps0 k)) 0 Tryd.underlying71 (hi_g2 _))) (h := ?_)
    refine fT (i := 2) (hl := by exact hl_1) (g := (gives_call (vl := [.agg (cg2 (gp ps0 k))]) (by kernel_rfl) (by rfl) (fun w h => k2_term _ w (hG.keep h.below)))) (h := ?_)
    refine fT (i := 3) (hl := by exact hl_1) (g := (gives_call (vl := [.agg (cp2 (gsum (ps0.take (k)))), .agg (cp2 (J3.of (gp ps0 k)))]) (by kernel_rfl) (by rfl) (fun w h => k2_add _ _ w (hG.keep h.below)))) (h := ?_)
    refine flow_one 4 (by kernel_rfl) ?_
    refine F_store (t := 131) 1 g2 _ _ (by rfl) (by exact hl_1) (by rfl) (by rfl) (by rfl) (hi_p2 _) ((cp2_size _).trans (cp2_size _).symm) (cp2_one _) (.inl (by decide)) ?_
    simp only [List.set_cons_zero, List.set_cons_succ]
    refine flow_done (by kernel_rfl) ?_
    intro w6 hw6
    change Code.wp _ _ _ _ _
    refine one_plain hw6 [0, 1] (by rfl) ?_
    refine L_val (.int .i64 ((k : Int) + 1)) (by rfl) (by exact hl_1) (gives_add (k := .i64) ((k : Int)) (1) ((k : Int) + 1) (by rfl) (by rfl) (IntWalk.i64_in _ (by omega))) ?_
    refine L_val (.int .i64 ((k : Int) + 1)) (by rfl) (by exact hl_1) gv ?_
    refine L_end ?_
    intro w7 hw7
    change ∃ r' : Nat, r' < r_1 ∧ _
    refine ⟨_, ?_, k + 1, ((8, .int .i64 ((k : Int) + 1)) :: (16, .int .i64 ((k : Int) + 1)) :: (15, .agg (cp2 (J3.add (gsum (ps0.take (k))) (J3.of (gp ps0 k))))) :: (14, .agg (cp2 (J3.of (gp ps0 k)))) :: (13, .agg (cg2 (gp ps0 k))) :: (12, .agg (cp2 (gsum (ps0.take (k))))) :: (5, .pointer (some ⟨g3, 0, none⟩)) :: (11, .agg (cg2 (gp ps0 k))) :: (10, .pointer (some ⟨b0, o0 + k * 24, none⟩)) :: (9, .bool true) :: (2, .pointer (some ⟨g1, 0, none⟩)) :: (3, .pointer (some ⟨g2, 0, none⟩)) :: (6, .slice A0 n0 c0) :: (7, .int .i64 (n0 : Int)) :: (8, .int .i64 (k : Int)) :: l_1), rfl, (by exact hl_1), (Eq.trans (Eq.trans (Eq.trans (Eq.trans (fr_dup _ _ 8 _ (by exact hl_1) (by rfl) (by rfl)).symm (fr_dup _ _ 7 _ (by exact hl_1) (by rfl) (by rfl)).symm) (fr_dup _ _ 6 _ (by exact hl_1) (by rfl) (by rfl)).symm) (fr_dup _ _ 3 _ (by exact hl_1) (by rfl) (by rfl)).symm) (fr_dup _ _ 2 _ (by exact hl_1) (by rfl) (by rfl)).symm), by omega, (by rw [gsum_next ps0 k (by rw [hp.1]; exact hlt)]; exact hw7.sub (List.Sublist.cons _ (List.Sublist.refl _)))⟩
    omega
  ·
    refine seq_plain hw0_1 [0] (by rfl) ?_
    refine L_val (.bool false) (by rfl) (by exact hl_1) (gives_lss (k := .i64) ((k : Int)) ((n0 : Int)) false (by rfl) (by rfl) (decide_eq_false (by omega))) ?_
    refine L_end ?_
    intro w8 hw8
    refine wp_seq ?_
    refine wp_cond_false (fr_at _ _ (by exact hl_1) _) ?_
    refine wp_exit ?_
    have hkN : k = n0 := by omega
    change Code.wp _ _ _ _ _
    change Code.wp _ _ _ _ _
    refine seq_plain hw8 [0, 1, 2] (by rfl) ?_
    refine L_val (.agg (cp2 (gsum (ps0.take (k))))) (by rfl) (by exact hl_1) (gL g2 131 (cp2 (gsum (ps0.take (k)))) 0 Tryd.underlying131 (hi_p2 _)) ?_
    refine L_val (.agg (cg2 (J3.at_ F2.inv (gsum (ps0.take (k)))))) (by rfl) (by exact hl_1) (gives_call (vl := [.agg (cp2 (gsum (ps0.take (k))))]) (by kernel_rfl) (by rfl) (fun w h => k2_point _ w (hG.keep h.below))) ?_
    refine L_store (t := 71) 1 g1 _ _ (by rfl) (by exact hl_1) (by rfl) (by rfl) (by rfl) (hi_g2 _) ((cg2_size _).trans (cg2_size _).symm) (cg2_one _) ?_
    simp only [List.set_cons_zero, List.set_cons_succ]
    refine L_end ?_
    intro w9 hw9
    refine wp_ret ?_
    change bodyPost _ _ _ Exit.ret _ _
    refine (ret_cell (by rfl) (by exact hl_1) (by rfl) (hw9.blk 1 (by rfl)) Tryd.underlying71 (by rfl) (hi_g2 _) ⟨?_, hw9.below⟩)
    rw [hkN, List.take_of_length_le (by rw [hp.1]; exact Nat.le_refl _)]
    rfl
set_option maxRecDepth 100000 in
set_option maxHeartbeats 4000000 in
theorem k2_gadd (p q : Pt F2) (v : World) (hG : Glo v) : Rets 40 #[.agg (cg2 (p)), .agg (cg2 (q))] v (.agg (cg2 (gAdd F2.inv p q))) := by
  refine calls_fr2 Tryd.func40 rfl (by rfl : _ = 9) (by rfl) ?_
  have hw := Hbl.nil v
  refine seq_plain hw [0, 1, 2] (by rfl) ?_
  refine L_box (.agg (cg2 (p))) (by rfl) (by rfl) (by rfl) (cg2 (p)) (by rfl) ?_; intro g1
  refine L_box (.agg (cg2 (q))) (by rfl) (by rfl) (by rfl) (cg2 (q)) (by rfl) ?_; intro g2
  refine L_alloc _ (by rfl) (by rfl) z_g2 (cg2 (0 : Pt F2)) rfl ?_; intro g3
  refine L_end ?_
  intro w1 hw1
  refine seq_plain hw1 [0, 1, 2, 3, 4] (by rfl) ?_
  refine L_val (.agg (cg2 (p))) (by rfl) (by rfl) (gL g1 71 (cg2 (p)) 2 Tryd.underlying71 (hi_g2 _)) ?_
  refine L_val (.agg (cg2 (q))) (by rfl) (by rfl) (gL g2 71 (cg2 (q)) 1 Tryd.underlying71 (hi_g2 _)) ?_
  refine L_buildP 2 24 (cg2 0) [(0, (cg2 (p))), (1, (cg2 (q)))] (joinA [(cg2 (p)), (cg2 (q))]) (by rfl) (by rfl) Tryd.underlying69 (zs_g2) (zr_g2_2) (cg2_size _) (by decide) (by decide) (by simp [fits, cg2_size]) (by rfl) (by rfl) ?_; intro g4
  refine L_val (.agg (cg2 (gSum F2.inv [p, q]))) (by rfl) (by rfl) (gives_call (vl := [.slice (some ⟨g4, 0, none⟩) 2 2]) (by kernel_rfl) (by rfl) (fun w h => k2_gsum _ _ _ [p, q] w (hG.keep h.below) (pts_blk [p, q] 2 rfl cg2_size (h.blk 0 (by rfl))) (by omega))) ?_
  refine L_store (t := 71) 1 g3 _ _ (by rfl) (by rfl) (by rfl) (by rfl) (by rfl) (hi_g2 _) ((cg2_size _).trans (cg2_size _).symm) (cg2_one _) ?_
  simp only [List.set_cons_zero, List.set_cons_succ]
  refine L_end ?_
  intro w2 hw2
  refine wp_ret ?_
  change bodyPost _ _ _ Exit.ret _ _
  refine (ret_cell (by rfl) (by rfl) (by rfl) (hw2.blk 1 (by rfl)) Tryd.underlying71 (by rfl) (hi_g2 _) ⟨?_, hw2.below⟩)
  rfl
end Go.Proofs.YtialfoccalobpaaDoor
