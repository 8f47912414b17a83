/-
  The law G2Rules.
-/
import Derived.Test.YtifnnckbcjafgaaDoorQGi
namespace Go.Proofs.YtifnnckbcjafgaaDoor
set_option linter.unusedSimpArgs false
set_option linter.unusedVariables false
open Go.RowKit
section
variable {P : Program} {ops : Array Oper} {late : List Nat} {R : Act → World → Prop} {v : World} {L L0 : List (Nat × TypeId × Array Value)} {n : Nat} {sl : List (Nat × Value)}
theorem F_buildP {i d : Nat} {fuel : Nat} {listed : Array Bool} {gd : Option (Nat × Bool)} {t ty e : TypeId} {pos : String} {after : Array Edge} {parts : Array (Nat × Operand)} (m s : Nat) (z : Array Value) (ps : List (Nat × Array Value)) (out : Array Value)
    (hi : ops[i]? = some ⟨some d, .buildSlice t m parts, ty, pos, after, gd⟩) (hl : inFr n sl = true) (hw : Want ops n sl gd) (ht : P.underlying t = some (.slice e)) (hinfo : (P.info? e).map (fun i => (i.zero, i.size)) = some (some (.agg z), s))
    (hzz : (Array.range (m * s)).map (z[· % z.size]!) = joinA (List.replicate m z)) (hzs : z.size = s) (hb : m * s ≤ 16777216) (h0 : 0 < m * s) (hf : fits (List.replicate m s) ps)
    (he : (parts.toList.map fun x => (x.1, rho sl x.2)) = ps.map fun p => (p.1, Value.agg p.2)) (ho : joinA (putsA (List.replicate m z) ps) = out)
    (hs : L0.Sublist L) (h : ∀ g, wpF P .any ops late R (Hbl v L0) fuel (listed.setIfInBounds i true) (fr n ((d, .slice (some ⟨g, 0, none⟩) m m) :: sl)) (Hbl v ((g, e, out) :: L))) :
    ∀ w, Hbl v L w → wpOp P ops (Nrm R) i (fun a' w' => ∃ S', (i ∈ late ∨ Ext (Hbl v L0) S') ∧ S' w' ∧ wpF P .any ops late R (Hbl v L0) fuel (listed.setIfInBounds i true) a' S') (fr n sl) w := fun w hS => by
  obtain ⟨ie, hie, hz⟩ := Option.map_eq_some_iff.1 hinfo
  simp only [Prod.mk.injEq] at hz
  have hfill := fill_puts (fun i => some (i * s, s)) (List.replicate m s) (fun i hi => by
    simp only [List.take_replicate, List.sum_replicate_nat, List.getElem_replicate]
    rw [Nat.min_eq_left (by simpa using Nat.le_of_lt hi)]) ps (List.replicate m z) (by simp [hzs]) hf
  have he' : (parts.map fun x => (x.1, rho sl x.2)).toList = ps.map fun p => (p.1, Value.agg p.2) := by rw [← he]; simp
  rw [← hzz, ← he', ho] at hfill
  have hrun : (Instr.buildSlice t m (parts.map fun x => (x.1, rho sl x.2))).run P w = .ok (.slice (some ⟨w.heap.size, 0, none⟩) m m) (w.alloc (.cells out e)) := by
    refine run_buildSlice w t e m _ out ie (.agg z) ht hie hz.1 (by rw [hz.2]; omega) (by rw [hz.2]; omega) ?_
    rw [hz.2]
    exact hfill
  exact wpOp_runG (w' := w.alloc (.cells out e)) hi (hw ..) (by rw [fr_eval n sl hl]; simp only [execOp, Sem.run_bind]; rw [hrun]; rfl) ⟨_, .inr (Ext.of_sub (.cons _ hs)), hS.alloc e out, h _⟩
end
attribute [local irreducible] wpL wpF fr Code.wp bodyPost
set_option maxRecDepth 100000 in
set_option maxHeartbeats 4000000 in
theorem g2_rules_long (A0 : Option Addr) (L0 C0 : Nat) (bs0 : List Int) (A1 : Option Addr) (L1 C1 : Nat) (bs1 : List Int) (A2 : Option Addr) (L2 C2 : Nat) (bs2 : List Int) (v : World) (hG : Glo v) (hR : GloR v) (hH : GSh v) (hr0 : Reads v v.heap.size A0 L0 (bs0.map (Value.int .u8))) (ho0 : Oct bs0) (hr1 : Reads v v.heap.size A1 L1 (bs1.map (Value.int .u8))) (ho1 : Oct bs1) (hr2 : Reads v v.heap.size A2 L2 (bs2.map (Value.int .u8))) (ho2 : Oct bs2) (hlong : 100 < L0 ∨ 100 < L1 ∨ 100 < L2) : Rets 10 #[.slice A0 L0 C0, .slice A1 L1 C1, .slice A2 L2 C2] v (.bool true) := by
  refine calls_fr3 Tryd.func10 rfl (by rfl : _ = 108) (by rfl) ?_
  have hw := Hbl.nil v
  refine seq_plain hw [0] (by rfl) ?_
  refine L_val (.bool false) (by rfl) (by rfl) (gives_value _ fun _ => by rfl) ?_
  refine L_end ?_
  intro w1 hw1
  refine wp_seq ?_
  refine seq_plain hw1 [0, 1] (by rfl) ?_
  refine L_val (.bool true) (by rfl) (by rfl) (gives_call (vl := []) (by kernel_rfl) (by rfl) (fun w h => k2_head w (hG.keep h.below))) ?_
  refine L_val (.bool false) (by rfl) (by rfl) (gives_value _ fun _ => by rfl) ?_
  refine L_end ?_
  intro w2 hw2
  refine wp_cond_false (fr_at _ _ (by rfl) _) ?_
  refine wp_skip ?_
  change Code.wp _ _ _ _ _
  refine wp_seq ?_
  refine seq_plain hw2 [0, 1, 2, 3] (by rfl) ?_
  refine L_val (.slice A0 L0 C0) (by rfl) (by rfl) (gives_value _ fun _ => by rfl) ?_
  refine L_val (.slice A1 L1 C1) (by rfl) (by rfl) (gives_value _ fun _ => by rfl) ?_
  refine L_val (.slice A2 L2 C2) (by rfl) (by rfl) (gives_value _ fun _ => by rfl) ?_
  refine L_val (.bool true) (by rfl) (by rfl) (gives_call (vl := [.slice A0 L0 C0, .slice A1 L1 C1, .slice A2 L2 C2]) (by kernel_rfl) (by rfl) (fun w h => k2_long_yes _ _ _ _ _ _ _ _ _ w (by omega))) ?_
  refine L_end ?_
  intro w3 hw3
  refine wp_cond_true (fr_at _ _ (by rfl) _) ?_
  refine seq_plain hw3 [0] (by rfl) ?_
  refine L_val (.bool true) (by rfl) (by rfl) (gives_value _ fun _ => by rfl) ?_
  refine L_end ?_
  intro w4 hw4
  refine wp_ret ?_
  change bodyPost _ _ _ Exit.ret _ _
  refine (ret_tmp (by rfl) (by rfl) (by rfl) ⟨rfl, hw4.below⟩)
set_option maxRecDepth 100000 in
set_option maxHeartbeats 4000000 in
theorem g2_rules_short (A0 : Option Addr) (L0 C0 : Nat) (bs0 : List Int) (A1 : Option Addr) (L1 C1 : Nat) (bs1 : List Int) (A2 : Option Addr) (L2 C2 : Nat) (bs2 : List Int) (v : World) (hG : Glo v) (hR : GloR v) (hH : GSh v) (hr0 : Reads v v.heap.size A0 L0 (bs0.map (Value.int .u8))) (ho0 : Oct bs0) (hr1 : Reads v v.heap.size A1 L1 (bs1.map (Value.int .u8))) (ho1 : Oct bs1) (hr2 : Reads v v.heap.size A2 L2 (bs2.map (Value.int .u8))) (ho2 : Oct bs2) (hs0 : L0 ≤ 100) (hs1 : L1 ≤ 100) (hs2 : L2 ≤ 100) : Rets 10 #[.slice A0 L0 C0, .slice A1 L1 C1, .slice A2 L2 C2] v (.bool true) := by
  obtain ⟨k0, hk0⟩ : ∃ k : Pt F2, k = gen2 := ⟨_, rfl⟩
  refine calls_fr3 Tryd.func10 rfl (by rfl : _ = 108) (by rfl) ?_
  have hw := Hbl.nil v
  refine seq_plain hw [0] (by rfl) ?_
  refine L_val (.bool false) (by rfl) (by rfl) (gives_value _ fun _ => by rfl) ?_
  refine L_end ?_
  intro w1 hw1
  refine wp_seq ?_
  refine seq_plain hw1 [0, 1] (by rfl) ?_
  refine L_val (.bool true) (by rfl) (by rfl) (gives_call (vl := []) (by kernel_rfl) (by rfl) (fun w h => k2_head w (hG.keep h.below))) ?_
  refine L_val (.bool false) (by rfl) (by rfl) (gives_value _ fun _ => by rfl) ?_
  refine L_end ?_
  intro w2 hw2
  refine wp_cond_false (fr_at _ _ (by rfl) _) ?_
  refine wp_skip ?_
  change Code.wp _ _ _ _ _
  refine wp_seq ?_
  refine seq_plain hw2 [0, 1, 2, 3] (by rfl) ?_
  refine L_val (.slice A0 L0 C0) (by rfl) (by rfl) (gives_value _ fun _ => by rfl) ?_
  refine L_val (.slice A1 L1 C1) (by rfl) (by rfl) (gives_value _ fun _ => by rfl) ?_
  refine L_val (.slice A2 L2 C2) (by rfl) (by rfl) (gives_value _ fun _ => by rfl) ?_
  refine L_val (.bool false) (by rfl) (by rfl) (gives_call (vl := [.slice A0 L0 C0, .slice A1 L1 C1, .slice A2 L2 C2]) (by kernel_rfl) (by rfl) (fun w h => k2_long_no _ _ _ _ _ _ _ _ _ w (by omega) (by omega) (by omega))) ?_
  refine L_end ?_
  intro w3 hw3
  refine wp_cond_false (fr_at _ _ (by rfl) _) ?_
  refine wp_skip ?_
  change Code.wp _ _ _ _ _
  refine seq_plain hw3 [0, 1, 2, 3, 4, 5] (by rfl) ?_
  refine L_val (.agg (cg2 (k0))) (by rfl) (by rfl) (gives_call (vl := []) (by kernel_rfl) (by rfl) (fun w h => by rw [hk0]; exact k2_gen w (hG.keep h.below))) ?_
  refine L_val (.slice A0 L0 C0) (by rfl) (by rfl) (gives_value _ fun _ => by rfl) ?_
  refine L_val (.agg (frc (num bs0))) (by rfl) (by rfl) (gives_call (vl := [.slice A0 L0 C0]) (by kernel_rfl) (by rfl) (fun w h => k2_scalar A0 L0 C0 bs0 w (hR.keep h.below) (hH.keep h.below) ((hr0.below h.below).more h.below.size) ho0 (by omega))) ?_
  refine L_val (.agg (cg2 (gMul F2.inv (k0) (num bs0)))) (by rfl) (by rfl) (gives_call (vl := [.agg (cg2 (k0)), .agg (frc (num bs0))]) (by kernel_rfl) (by rfl) (fun w h => k2_gmul _ _ w (hG.keep h.below) (hR.keep h.below))) ?_
  refine L_alloc _ (by rfl) (by rfl) z_g2 (cg2 (0 : Pt F2)) rfl ?_; intro g1
  refine L_store (t := 59) 0 g1 _ _ (by rfl) (by rfl) (by rfl) (by rfl) (by rfl) (hi_g2 _) ((cg2_size _).trans (cg2_size _).symm) (cg2_one _) ?_
  simp only [List.set_cons_zero, List.set_cons_succ]
  refine L_end ?_
  intro w4 hw4
  refine seq_plain hw4 [0, 1, 2, 3, 4, 5] (by rfl) ?_
  refine L_val (.agg (cg2 (k0))) (by rfl) (by rfl) (gives_call (vl := []) (by kernel_rfl) (by rfl) (fun w h => by rw [hk0]; exact k2_gen w (hG.keep h.below))) ?_
  refine L_val (.slice A1 L1 C1) (by rfl) (by rfl) (gives_value _ fun _ => by rfl) ?_
  refine L_val (.agg (frc (num bs1))) (by rfl) (by rfl) (gives_call (vl := [.slice A1 L1 C1]) (by kernel_rfl) (by rfl) (fun w h => k2_scalar A1 L1 C1 bs1 w (hR.keep h.below) (hH.keep h.below) ((hr1.below h.below).more h.below.size) ho1 (by omega))) ?_
  refine L_val (.agg (cg2 (gMul F2.inv (k0) (num bs1)))) (by rfl) (by rfl) (gives_call (vl := [.agg (cg2 (k0)), .agg (frc (num bs1))]) (by kernel_rfl) (by rfl) (fun w h => k2_gmul _ _ w (hG.keep h.below) (hR.keep h.below))) ?_
  refine L_alloc _ (by rfl) (by rfl) z_g2 (cg2 (0 : Pt F2)) rfl ?_; intro g2
  refine L_store (t := 59) 0 g2 _ _ (by rfl) (by rfl) (by rfl) (by rfl) (by rfl) (hi_g2 _) ((cg2_size _).trans (cg2_size _).symm) (cg2_one _) ?_
  simp only [List.set_cons_zero, List.set_cons_succ]
  refine L_end ?_
  intro w5 hw5
  refine seq_plain hw5 [0, 1, 2, 3, 4, 5] (by rfl) ?_
  refine L_val (.agg (cg2 (k0))) (by rfl) (by rfl) (gives_call (vl := []) (by kernel_rfl) (by rfl) (fun w h => by rw [hk0]; exact k2_gen w (hG.keep h.below))) ?_
  refine L_val (.slice A2 L2 C2) (by rfl) (by rfl) (gives_value _ fun _ => by rfl) ?_
  refine L_val (.agg (frc (num bs2))) (by rfl) (by rfl) (gives_call (vl := [.slice A2 L2 C2]) (by kernel_rfl) (by rfl) (fun w h => k2_scalar A2 L2 C2 bs2 w (hR.keep h.below) (hH.keep h.below) ((hr2.below h.below).more h.below.size) ho2 (by omega))) ?_
  refine L_val (.agg (cg2 (gMul F2.inv (k0) (num bs2)))) (by rfl) (by rfl) (gives_call (vl := [.agg (cg2 (k0)), .agg (frc (num bs2))]) (by kernel_rfl) (by rfl) (fun w h => k2_gmul _ _ w (hG.keep h.below) (hR.keep h.below))) ?_
  refine L_alloc _ (by rfl) (by rfl) z_g2 (cg2 (0 : Pt F2)) rfl ?_; intro g3
  refine L_store (t := 59) 0 g3 _ _ (by rfl) (by rfl) (by rfl) (by rfl) (by rfl) (hi_g2 _) ((cg2_size _).trans (cg2_size _).symm) (cg2_one _) ?_
  simp only [List.set_cons_zero, List.set_cons_succ]
  refine L_end ?_
  intro w6 hw6
  refine seq_plain hw6 [0, 1, 2] (by rfl) ?_
  refine L_val (.agg (cg2 (0 : Pt F2))) (by rfl) (by rfl) (gb_g2 [] trivial (by rfl) (cg2 (0 : Pt F2)) (by rfl)) ?_
  refine L_alloc _ (by rfl) (by rfl) z_g2 (cg2 (0 : Pt F2)) rfl ?_; intro g4
  refine L_store (t := 59) 0 g4 _ _ (by rfl) (by rfl) (by rfl) (by rfl) (by rfl) (hi_g2 _) ((cg2_size _).trans (cg2_size _).symm) (cg2_one _) ?_
  simp only [List.set_cons_zero, List.set_cons_succ]
  refine L_end ?_
  intro w7 hw7
  refine wp_seq ?_
  refine seq_flow (by kernel_rfl) hw7 [] [(g4, 59, (cg2 (0 : Pt F2))), (g3, 59, (cg2 (gMul F2.inv (k0) (num bs2)))), (g2, 59, (cg2 (gMul F2.inv (k0) (num bs1)))), (g1, 59, (cg2 (gMul F2.inv (k0) (num bs0))))] 46 (by rfl) ?_
  refine fT (i := 0) (g := (gL g1 59 (cg2 (gMul F2.inv (k0) (num bs0))) 3 Tryd.underlying59 (hi_g2 _))) (h := ?_)
  refine fT (i := 1) (g := (gL g2 59 (cg2 (gMul F2.inv (k0) (num bs1))) 2 Tryd.underlying59 (hi_g2 _))) (h := ?_)
  refine fT (i := 2) (g := (gives_call (vl := [.agg (cg2 (gMul F2.inv (k0) (num bs0))), .agg (cg2 (gMul F2.inv (k0) (num bs1)))]) (by kernel_rfl) (by rfl) (fun w h => k2_gadd _ _ w (hG.keep h.below)))) (h := ?_)
  refine fT (i := 3) (g := (gL g3 59 (cg2 (gMul F2.inv (k0) (num bs2))) 1 Tryd.underlying59 (hi_g2 _))) (h := ?_)
  refine fT (i := 4) (g := (gives_call (vl := [.agg (cg2 (gAdd F2.inv (gMul F2.inv (k0) (num bs0)) (gMul F2.inv (k0) (num bs1)))), .agg (cg2 (gMul F2.inv (k0) (num bs2)))]) (by kernel_rfl) (by rfl) (fun w h => k2_gadd _ _ w (hG.keep h.below)))) (h := ?_)
  refine fT (i := 5) (g := (gL g1 59 (cg2 (gMul F2.inv (k0) (num bs0))) 3 Tryd.underlying59 (hi_g2 _))) (h := ?_)
  refine fT (i := 6) (g := (gL g2 59 (cg2 (gMul F2.inv (k0) (num bs1))) 2 Tryd.underlying59 (hi_g2 _))) (h := ?_)
  refine fT (i := 7) (g := (gL g3 59 (cg2 (gMul F2.inv (k0) (num bs2))) 1 Tryd.underlying59 (hi_g2 _))) (h := ?_)
  refine fT (i := 8) (g := (gives_call (vl := [.agg (cg2 (gMul F2.inv (k0) (num bs1))), .agg (cg2 (gMul F2.inv (k0) (num bs2)))]) (by kernel_rfl) (by rfl) (fun w h => k2_gadd _ _ w (hG.keep h.below)))) (h := ?_)
  refine fT (i := 9) (g := (gives_call (vl := [.agg (cg2 (gMul F2.inv (k0) (num bs0))), .agg (cg2 (gAdd F2.inv (gMul F2.inv (k0) (num bs1)) (gMul F2.inv (k0) (num bs2))))]) (by kernel_rfl) (by rfl) (fun w h => k2_gadd _ _ w (hG.keep h.below)))) (h := ?_)
  refine fT (i := 10) (u := (.bool false)) (g := (gives_neq (cg2 (gAdd F2.inv (gAdd F2.inv (gMul F2.inv (k0) (num bs0)) (gMul F2.inv (k0) (num bs1))) (gMul F2.inv (k0) (num bs2)))) (cg2 (gAdd F2.inv (gMul F2.inv (k0) (num bs0)) (gAdd F2.inv (gMul F2.inv (k0) (num bs1)) (gMul F2.inv (k0) (num bs2))))) true (by rfl) (by rfl) (by kernel_rfl) (fun w => eq_g2_t (d := 9995) w (gadd_assoc ec2 F2.inv_zero (ing2 hk0 _).1 (ing2 hk0 _).1 (ing2 hk0 _).1)))) (h := ?_)
  refine fT (i := 11) (u := (.bool false)) (g := (gives_value _ fun _ => by rfl)) (h := ?_)
  refine fG (i := 12) (dj := 41) (g := (gL g1 59 (cg2 (gMul F2.inv (k0) (num bs0))) 3 Tryd.underlying59 (hi_g2 _))) (h := ?_)
  refine fG (i := 13) (dj := 41) (g := (gL g2 59 (cg2 (gMul F2.inv (k0) (num bs1))) 2 Tryd.underlying59 (hi_g2 _))) (h := ?_)
  refine fG (i := 14) (dj := 41) (g := (gL g3 59 (cg2 (gMul F2.inv (k0) (num bs2))) 1 Tryd.underlying59 (hi_g2 _))) (h := ?_)
  refine fG (i := 17) (dj := 41) (g := (gL g1 59 (cg2 (gMul F2.inv (k0) (num bs0))) 3 Tryd.underlying59 (hi_g2 _))) (h := ?_)
  refine fG (i := 18) (dj := 41) (g := (gL g2 59 (cg2 (gMul F2.inv (k0) (num bs1))) 2 Tryd.underlying59 (hi_g2 _))) (h := ?_)
  refine fG (i := 20) (dj := 41) (g := (gL g3 59 (cg2 (gMul F2.inv (k0) (num bs2))) 1 Tryd.underlying59 (hi_g2 _))) (h := ?_)
  refine flow_one 15 (by kernel_rfl) ?_
  refine F_buildP 3 24 (cg2 0) [(0, (cg2 (gMul F2.inv (k0) (num bs0)))), (1, (cg2 (gMul F2.inv (k0) (num bs1)))), (2, (cg2 (gMul F2.inv (k0) (num bs2))))] (joinA [(cg2 (gMul F2.inv (k0) (num bs0))), (cg2 (gMul F2.inv (k0) (num bs1))), (cg2 (gMul F2.inv (k0) (num bs2)))]) (by rfl) (by rfl) (Want.some (dj := 41) (by rfl) (by rfl) (by rfl) (by rfl)) Tryd.underlying68 (zs_g2) (zr_g2_3) (cg2_size _) (by decide) (by decide) (by simp [fits, cg2_size]) (by rfl) (by rfl) (List.Sublist.refl _) ?_; intro g5
  refine flow_one 16 (by kernel_rfl) ?_
  refine F_val (vl := [.slice (some ⟨g5, 0, none⟩) 3 3]) (.agg (cg2 (gSum F2.inv [gMul F2.inv (k0) (num bs0), gMul F2.inv (k0) (num bs1), gMul F2.inv (k0) (num bs2)]))) (by rfl) (by rfl) (Want.some (dj := 41) (by rfl) (by rfl) (by rfl) (by rfl)) (by kernel_rfl) (by rfl) (List.Sublist.cons _ (List.Sublist.refl _)) (fun w h => k2_gsum _ _ _ [gMul F2.inv (k0) (num bs0), gMul F2.inv (k0) (num bs1), gMul F2.inv (k0) (num bs2)] w (hG.keep h.below) (pts_blk [gMul F2.inv (k0) (num bs0), gMul F2.inv (k0) (num bs1), gMul F2.inv (k0) (num bs2)] 3 rfl cg2_size (h.blk 0 (by rfl))) (by omega)) ?_
  refine fGs (i := 19) (dj := 41) (e := (List.Sublist.cons _ (List.Sublist.refl _))) (g := (gives_call (vl := [.agg (cg2 (gMul F2.inv (k0) (num bs0))), .agg (cg2 (gMul F2.inv (k0) (num bs1)))]) (by kernel_rfl) (by rfl) (fun w h => k2_gadd _ _ w (hG.keep h.below)))) (h := ?_)
  refine fGs (i := 21) (dj := 41) (e := (List.Sublist.cons _ (List.Sublist.refl _))) (g := (gives_call (vl := [.agg (cg2 (gAdd F2.inv (gMul F2.inv (k0) (num bs0)) (gMul F2.inv (k0) (num bs1)))), .agg (cg2 (gMul F2.inv (k0) (num bs2)))]) (by kernel_rfl) (by rfl) (fun w h => k2_gadd _ _ w (hG.keep h.below)))) (h := ?_)
  refine fGs (i := 22) (dj := 41) (u := (.bool false)) (e := (List.Sublist.cons _ (List.Sublist.refl _))) (g := (gives_neq (cg2 (gSum F2.inv [gMul F2.inv (k0) (num bs0), gMul F2.inv (k0) (num bs1), gMul F2.inv (k0) (num bs2)])) (cg2 (gAdd F2.inv (gAdd F2.inv (gMul F2.inv (k0) (num bs0)) (gMul F2.inv (k0) (num bs1))) (gMul F2.inv (k0) (num bs2)))) true (by rfl) (by rfl) (by kernel_rfl) (fun w => eq_g2_t (d := 9995) w (gsum_three ec2 F2.inv_zero (ing2 hk0 _).1 (ing2 hk0 _).1 (ing2 hk0 _).1)))) (h := ?_)
  refine fTs (i := 23) (u := (.bool false)) (e := (List.Sublist.cons _ (List.Sublist.refl _))) (g := (gives_value _ fun _ => by rfl)) (h := ?_)
  refine fTs (i := 24) (u := (.bool false)) (e := (List.Sublist.cons _ (List.Sublist.refl _))) (g := (gives_value _ fun _ => by rfl)) (h := ?_)
  refine fGs (i := 25) (dj := 54) (e := (List.Sublist.cons _ (List.Sublist.refl _))) (g := (gL g1 59 (cg2 (gMul F2.inv (k0) (num bs0))) 3 Tryd.underlying59 (hi_g2 _))) (h := ?_)
  refine fGs (i := 26) (dj := 54) (e := (List.Sublist.cons _ (List.Sublist.refl _))) (g := (gL g4 59 (cg2 (0 : Pt F2)) 0 Tryd.underlying59 (hi_g2 _))) (h := ?_)
  refine fGs (i := 27) (dj := 54) (e := (List.Sublist.cons _ (List.Sublist.refl _))) (g := (gives_call (vl := [.agg (cg2 (gMul F2.inv (k0) (num bs0))), .agg (cg2 (0 : Pt F2))]) (by kernel_rfl) (by rfl) (fun w h => k2_gadd _ _ w (hG.keep h.below)))) (h := ?_)
  refine fGs (i := 28) (dj := 54) (e := (List.Sublist.cons _ (List.Sublist.refl _))) (g := (gL g1 59 (cg2 (gMul F2.inv (k0) (num bs0))) 3 Tryd.underlying59 (hi_g2 _))) (h := ?_)
  refine fGs (i := 29) (dj := 54) (u := (.bool false)) (e := (List.Sublist.cons _ (List.Sublist.refl _))) (g := (gives_neq (cg2 (gAdd F2.inv (gMul F2.inv (k0) (num bs0)) (0 : Pt F2))) (cg2 (gMul F2.inv (k0) (num bs0))) true (by rfl) (by rfl) (by kernel_rfl) (fun w => eq_g2_t (d := 9995) w (gadd_zero ec2 F2.inv_zero (ing2 hk0 _).1)))) (h := ?_)
  refine fTs (i := 30) (u := (.bool false)) (e := (List.Sublist.cons _ (List.Sublist.refl _))) (g := (gives_value _ fun _ => by rfl)) (h := ?_)
  refine fTs (i := 31) (u := (.bool false)) (e := (List.Sublist.cons _ (List.Sublist.refl _))) (g := (gives_value _ fun _ => by rfl)) (h := ?_)
  refine fGs (i := 32) (dj := 61) (e := (List.Sublist.cons _ (List.Sublist.refl _))) (g := (gL g4 59 (cg2 (0 : Pt F2)) 0 Tryd.underlying59 (hi_g2 _))) (h := ?_)
  refine fGs (i := 33) (dj := 61) (e := (List.Sublist.cons _ (List.Sublist.refl _))) (g := (gL g1 59 (cg2 (gMul F2.inv (k0) (num bs0))) 3 Tryd.underlying59 (hi_g2 _))) (h := ?_)
  refine fGs (i := 34) (dj := 61) (e := (List.Sublist.cons _ (List.Sublist.refl _))) (g := (gives_call (vl := [.agg (cg2 (0 : Pt F2)), .agg (cg2 (gMul F2.inv (k0) (num bs0)))]) (by kernel_rfl) (by rfl) (fun w h => k2_gadd _ _ w (hG.keep h.below)))) (h := ?_)
  refine fGs (i := 35) (dj := 61) (e := (List.Sublist.cons _ (List.Sublist.refl _))) (g := (gL g1 59 (cg2 (gMul F2.inv (k0) (num bs0))) 3 Tryd.underlying59 (hi_g2 _))) (h := ?_)
  refine fGs (i := 36) (dj := 61) (u := (.bool false)) (e := (List.Sublist.cons _ (List.Sublist.refl _))) (g := (gives_neq (cg2 (gAdd F2.inv (0 : Pt F2) (gMul F2.inv (k0) (num bs0)))) (cg2 (gMul F2.inv (k0) (num bs0))) true (by rfl) (by rfl) (by kernel_rfl) (fun w => eq_g2_t (d := 9995) w (gzero_add ec2 F2.inv_zero (ing2 hk0 _).1)))) (h := ?_)
  refine fTs (i := 37) (u := (.bool false)) (e := (List.Sublist.cons _ (List.Sublist.refl _))) (g := (gives_value _ fun _ => by rfl)) (h := ?_)
  refine fTs (i := 38) (u := (.bool false)) (e := (List.Sublist.cons _ (List.Sublist.refl _))) (g := (gives_value _ fun _ => by rfl)) (h := ?_)
  refine fGs (i := 39) (dj := 68) (e := (List.Sublist.cons _ (List.Sublist.refl _))) (g := (gL g1 59 (cg2 (gMul F2.inv (k0) (num bs0))) 3 Tryd.underlying59 (hi_g2 _))) (h := ?_)
  refine fGs (i := 40) (dj := 68) (e := (List.Sublist.cons _ (List.Sublist.refl _))) (g := (gL g1 59 (cg2 (gMul F2.inv (k0) (num bs0))) 3 Tryd.underlying59 (hi_g2 _))) (h := ?_)
  refine fGs (i := 41) (dj := 68) (e := (List.Sublist.cons _ (List.Sublist.refl _))) (g := (gives_call (vl := [.agg (cg2 (gMul F2.inv (k0) (num bs0)))]) (by kernel_rfl) (by rfl) (fun w h => k2_neg _ w (hG.keep h.below)))) (h := ?_)
  refine fGs (i := 42) (dj := 68) (e := (List.Sublist.cons _ (List.Sublist.refl _))) (g := (gives_call (vl := [.agg (cg2 (gMul F2.inv (k0) (num bs0))), .agg (cg2 (-(gMul F2.inv (k0) (num bs0))))]) (by kernel_rfl) (by rfl) (fun w h => k2_gadd _ _ w (hG.keep h.below)))) (h := ?_)
  refine fGs (i := 43) (dj := 68) (e := (List.Sublist.cons _ (List.Sublist.refl _))) (g := (gL g4 59 (cg2 (0 : Pt F2)) 0 Tryd.underlying59 (hi_g2 _))) (h := ?_)
  refine fGs (i := 44) (dj := 68) (u := (.bool false)) (e := (List.Sublist.cons _ (List.Sublist.refl _))) (g := (gives_neq (cg2 (gAdd F2.inv (gMul F2.inv (k0) (num bs0)) (-(gMul F2.inv (k0) (num bs0))))) (cg2 (0 : Pt F2)) true (by rfl) (by rfl) (by kernel_rfl) (fun w => eq_g2_t (d := 9995) w (gadd_back ec2 F2.inv_zero (ing2 hk0 _).1)))) (h := ?_)
  refine fTs (i := 45) (u := (.bool false)) (e := (List.Sublist.cons _ (List.Sublist.refl _))) (g := (gives_value _ fun _ => by rfl)) (h := ?_)
  refine flow_done (by kernel_rfl) ?_
  intro w8 hw8
  refine wp_cond_false (fr_at _ _ (by rfl) _) ?_
  refine wp_skip ?_
  change Code.wp _ _ _ _ _
  refine seq_flow (by kernel_rfl) hw8 [] [(g5, 59, (joinA [(cg2 (gMul F2.inv (k0) (num bs0))), (cg2 (gMul F2.inv (k0) (num bs1))), (cg2 (gMul F2.inv (k0) (num bs2)))])), (g4, 59, (cg2 (0 : Pt F2))), (g3, 59, (cg2 (gMul F2.inv (k0) (num bs2)))), (g2, 59, (cg2 (gMul F2.inv (k0) (num bs1)))), (g1, 59, (cg2 (gMul F2.inv (k0) (num bs0))))] 33 (by rfl) ?_
  refine fT (i := 0) (g := (gL g1 59 (cg2 (gMul F2.inv (k0) (num bs0))) 4 Tryd.underlying59 (hi_g2 _))) (h := ?_)
  refine fT (i := 1) (g := (gives_call (vl := [.agg (cg2 (gMul F2.inv (k0) (num bs0)))]) (by kernel_rfl) (by rfl) (fun w h => k2_neg _ w (hG.keep h.below)))) (h := ?_)
  refine fT (i := 2) (g := (gives_call (vl := [.agg (cg2 (-(gMul F2.inv (k0) (num bs0))))]) (by kernel_rfl) (by rfl) (fun w h => k2_neg _ w (hG.keep h.below)))) (h := ?_)
  refine fT (i := 3) (g := (gL g1 59 (cg2 (gMul F2.inv (k0) (num bs0))) 4 Tryd.underlying59 (hi_g2 _))) (h := ?_)
  refine fT (i := 4) (u := (.bool true)) (g := (gives_eql (cg2 (-(-(gMul F2.inv (k0) (num bs0))))) (cg2 (gMul F2.inv (k0) (num bs0))) true (by rfl) (by rfl) (by kernel_rfl) (fun w => eq_g2_t (d := 9995) w (ec2.neg_neg _)))) (h := ?_)
  refine fT (i := 5) (u := (.bool true)) (g := (gives_value _ fun _ => by rfl)) (h := ?_)
  refine fG (i := 6) (dj := 81) (g := (gL g1 59 (cg2 (gMul F2.inv (k0) (num bs0))) 4 Tryd.underlying59 (hi_g2 _))) (h := ?_)
  refine fG (i := 7) (dj := 81) (g := (gL g2 59 (cg2 (gMul F2.inv (k0) (num bs1))) 3 Tryd.underlying59 (hi_g2 _))) (h := ?_)
  refine fG (i := 8) (dj := 81) (g := (gives_call (vl := [.agg (cg2 (gMul F2.inv (k0) (num bs0))), .agg (cg2 (gMul F2.inv (k0) (num bs1)))]) (by kernel_rfl) (by rfl) (fun w h => k2_gadd _ _ w (hG.keep h.below)))) (h := ?_)
  refine fG (i := 9) (dj := 81) (g := (gives_call (vl := [.agg (cg2 (gAdd F2.inv (gMul F2.inv (k0) (num bs0)) (gMul F2.inv (k0) (num bs1))))]) (by kernel_rfl) (by rfl) (fun w h => k2_neg _ w (hG.keep h.below)))) (h := ?_)
  refine fG (i := 10) (dj := 81) (g := (gL g1 59 (cg2 (gMul F2.inv (k0) (num bs0))) 4 Tryd.underlying59 (hi_g2 _))) (h := ?_)
  refine fG (i := 11) (dj := 81) (g := (gives_call (vl := [.agg (cg2 (gMul F2.inv (k0) (num bs0)))]) (by kernel_rfl) (by rfl) (fun w h => k2_neg _ w (hG.keep h.below)))) (h := ?_)
  refine fG (i := 12) (dj := 81) (g := (gL g2 59 (cg2 (gMul F2.inv (k0) (num bs1))) 3 Tryd.underlying59 (hi_g2 _))) (h := ?_)
  refine fG (i := 13) (dj := 81) (g := (gives_call (vl := [.agg (cg2 (gMul F2.inv (k0) (num bs1)))]) (by kernel_rfl) (by rfl) (fun w h => k2_neg _ w (hG.keep h.below)))) (h := ?_)
  refine fG (i := 14) (dj := 81) (g := (gives_call (vl := [.agg (cg2 (-(gMul F2.inv (k0) (num bs0)))), .agg (cg2 (-(gMul F2.inv (k0) (num bs1))))]) (by kernel_rfl) (by rfl) (fun w h => k2_gadd _ _ w (hG.keep h.below)))) (h := ?_)
  refine fG (i := 15) (dj := 81) (u := (.bool true)) (g := (gives_eql (cg2 (-(gAdd F2.inv (gMul F2.inv (k0) (num bs0)) (gMul F2.inv (k0) (num bs1))))) (cg2 (gAdd F2.inv (-(gMul F2.inv (k0) (num bs0))) (-(gMul F2.inv (k0) (num bs1))))) true (by rfl) (by rfl) (by kernel_rfl) (fun w => eq_g2_t (d := 9995) w (gneg_sum ec2 F2.inv_zero (ing2 hk0 _).1 (ing2 hk0 _).1)))) (h := ?_)
  refine fT (i := 16) (u := (.bool true)) (g := (gives_value _ fun _ => by rfl)) (h := ?_)
  refine fT (i := 17) (u := (.bool true)) (g := (gives_value _ fun _ => by rfl)) (h := ?_)
  refine fG (i := 19) (dj := 93) (g := (gL g4 59 (cg2 (0 : Pt F2)) 1 Tryd.underlying59 (hi_g2 _))) (h := ?_)
  refine flow_one 18 (by kernel_rfl) ?_
  refine F_val (vl := [.slice none 0 0]) (.agg (cg2 (gSum F2.inv []))) (by rfl) (by rfl) (Want.some (dj := 93) (by rfl) (by rfl) (by rfl) (by rfl)) (by kernel_rfl) (by rfl) (List.Sublist.refl _) (fun w h => k2_gsum none 0 0 [] w (hG.keep h.below) (PtsAt.nil w) (by omega)) ?_
  refine fG (i := 20) (dj := 93) (u := (.bool true)) (g := (gives_eql (cg2 (gSum F2.inv [])) (cg2 (0 : Pt F2)) true (by rfl) (by rfl) (by kernel_rfl) (fun w => eq_g2_t (d := 9995) w (gsum_none ec2 F2.inv_zero)))) (h := ?_)
  refine fT (i := 21) (u := (.bool true)) (g := (gives_value _ fun _ => by rfl)) (h := ?_)
  refine fT (i := 22) (u := (.bool true)) (g := (gives_value _ fun _ => by rfl)) (h := ?_)
  refine fG (i := 23) (dj := 98) (g := (gL g4 59 (cg2 (0 : Pt F2)) 1 Tryd.underlying59 (hi_g2 _))) (h := ?_)
  refine fG (i := 24) (dj := 98) (g := (gives_call (vl := [.agg (cg2 (0 : Pt F2))]) (by kernel_rfl) (by rfl) (fun w h => k2_neg _ w (hG.keep h.below)))) (h := ?_)
  refine fG (i := 25) (dj := 98) (g := (gL g4 59 (cg2 (0 : Pt F2)) 1 Tryd.underlying59 (hi_g2 _))) (h := ?_)
  refine fG (i := 26) (dj := 98) (u := (.bool true)) (g := (gives_eql (cg2 (-(0 : Pt F2))) (cg2 (0 : Pt F2)) true (by rfl) (by rfl) (by kernel_rfl) (fun w => eq_g2_t (d := 9995) w ec2.neg_zero))) (h := ?_)
  refine fT (i := 27) (u := (.bool true)) (g := (gives_value _ fun _ => by rfl)) (h := ?_)
  refine fT (i := 28) (u := (.bool true)) (g := (gives_value _ fun _ => by rfl)) (h := ?_)
  refine fG (i := 29) (dj := 104) (g := (gL g4 59 (cg2 (0 : Pt F2)) 1 Tryd.underlying59 (hi_g2 _))) (h := ?_)
  refine fG (i := 30) (dj := 104) (g := (gives_call (vl := [.agg (cg2 (0 : Pt F2))]) (by kernel_rfl) (by rfl) (fun w h => k2_on_t _ w (hG.keep h.below) (.inl rfl)))) (h := ?_)
  refine fT (i := 31) (u := (.bool true)) (g := (gives_value _ fun _ => by rfl)) (h := ?_)
  refine fT (i := 32) (u := (.bool true)) (g := (gives_value _ fun _ => by rfl)) (h := ?_)
  refine flow_done (by kernel_rfl) ?_
  intro w9 hw9
  refine wp_ret ?_
  change bodyPost _ _ _ Exit.ret _ _
  refine (ret_tmp (by rfl) (by rfl) (by rfl) ⟨rfl, hw9.below⟩)
theorem g2_rules_any (A0 : Option Addr) (L0 C0 : Nat) (bs0 : List Int) (A1 : Option Addr) (L1 C1 : Nat) (bs1 : List Int) (A2 : Option Addr) (L2 C2 : Nat) (bs2 : List Int) (v : World) (hG : Glo v) (hR : GloR v) (hH : GSh v) (hr0 : Reads v v.heap.size A0 L0 (bs0.map (Value.int .u8))) (ho0 : Oct bs0) (hr1 : Reads v v.heap.size A1 L1 (bs1.map (Value.int .u8))) (ho1 : Oct bs1) (hr2 : Reads v v.heap.size A2 L2 (bs2.map (Value.int .u8))) (ho2 : Oct bs2) : Rets 10 #[.slice A0 L0 C0, .slice A1 L1 C1, .slice A2 L2 C2] v (.bool true) := by
  by_cases hlong : 100 < L0 ∨ 100 < L1 ∨ 100 < L2
  · exact g2_rules_long A0 L0 C0 bs0 A1 L1 C1 bs1 A2 L2 C2 bs2 v hG hR hH hr0 ho0 hr1 ho1 hr2 ho2 hlong
  · exact g2_rules_short A0 L0 C0 bs0 A1 L1 C1 bs1 A2 L2 C2 bs2 v hG hR hH hr0 ho0 hr1 ho1 hr2 ho2 (by omega) (by omega) (by omega)
end Go.Proofs.YtifnnckbcjafgaaDoor
