/-
  Heads of the groups' laws.
-/
import Derived.Test.YtialfoccalobpaaDoorWBGm
import Derived.Test.YtialfoccalobpaaDoorWBFs
namespace Go.Proofs.YtialfoccalobpaaDoor
set_option linter.unusedSimpArgs false
set_option linter.unusedVariables false
open Go.RowKit
theorem gen2_two_eq : gAdd F2.inv gen2 gen2 = ecAdd F2.inv gen2 gen2 := g_add ec2 F2.inv_zero on_gen2 on_gen2
theorem gen2_two_on : OnC (F2.sm 4 4) (gAdd F2.inv gen2 gen2) := by rw [gen2_two_eq]; exact ec2.on_add on_gen2 on_gen2
theorem gen2_two_ne : gAdd F2.inv gen2 gen2 ≠ gen2 := fun h => by
  rw [gen2_two_eq] at h
  have h2 := ec2.right_cancel on_gen2 on_gen2 (.inl rfl) (h.trans (EC.zero_add gen2).symm)
  exact ec2.aff_ne aff_gen2 h2
theorem gen2_two_0 : gAdd F2.inv gen2 gen2 ≠ 0 := fun h => by
  rw [gen2_two_eq] at h
  have h2 := congrArg Pt.y (ec2.sum_zero on_gen2 on_gen2 h)
  exact ec2.ne_neg (ec2.y0 aff_gen2) h2
theorem gen2_two_t : gTimes F2.inv gen2 [2] = gAdd F2.inv gen2 gen2 := by
  rw [gen2_two_eq, g_times ec2 F2.inv_zero on_gen2 [2] (by intro b hb; simp at hb; omega), show (num [2]).toNat = 1 + 1 from by decide +kernel, ec2.ec_nadd on_gen2, EC.n_one]
theorem gen2_back : gAdd F2.inv gen2 (-gen2) = 0 := by
  rw [g_add ec2 F2.inv_zero on_gen2 (ec2.on_neg on_gen2)]
  exact ec2.add_neg on_gen2
theorem k2_genodd (w : World) (hG : Glo w) : Rets 82 #[.agg (c2 gen2.x)] w (.bool false) := by
  have h := q_odd gen2.x w hG
  rwa [show gen2.x.odd = false by decide +kernel] at h
theorem bfill1 (b0 : Int) : Instr.fill (fun i => some (i * 1, 1)) (Array.map (fun x => (Value.int IntKind.u8 0).cells[x % (Value.int IntKind.u8 0).cells.size]!) (Array.range (1 * 1)))
    [(0, Value.int IntKind.u8 b0)] = some (ag8 [b0]) := by
  have e : Array.map (fun x => (Value.int IntKind.u8 0).cells[x % (Value.int IntKind.u8 0).cells.size]!) (Array.range (1 * 1)) = Array.replicate 1 (.int .u8 0) := by kernel_rfl
  rw [e]
  simp [Instr.fill, ag8, Value.cells, Array.replicate]
section
variable {ops : Array Oper} {late : List Nat} {R : Act → World → Prop} {v : World} {L L0 : List (Nat × TypeId × Array Value)} {n : Nat} {sl : List (Nat × Value)}
theorem F_build1 {i d : Nat} {fuel : Nat} {listed : Array Bool} {ty : TypeId} {pos : String} {after : Array Edge} {gd : Option (Nat × Bool)} {p0 : Operand} (b0 : Int)
    (hi : ops[i]? = some ⟨some d, .buildSlice 22 1 #[(0, p0)], ty, pos, after, gd⟩) (hl : inFr n sl = true) (hw : Want ops n sl gd) (h0 : rho sl p0 = .int .u8 b0) (hs : L0.Sublist L)
    (h : ∀ g, wpF Tryd.prog .any ops late R (Hbl v L0) fuel (listed.setIfInBounds i true) (fr n ((d, .slice (some ⟨g, 0, none⟩) 1 1) :: sl)) (Hbl v ((g, 5, ag8 [b0]) :: L))) :
    ∀ w, Hbl v L w → wpOp Tryd.prog ops (Nrm R) i (fun a' w' => ∃ S', (i ∈ late ∨ Ext (Hbl v L0) S') ∧ S' w' ∧ wpF Tryd.prog .any ops late R (Hbl v L0) fuel (listed.setIfInBounds i true) a' S') (fr n sl) w := fun w hS => by
  obtain ⟨ie, he, hz⟩ := Option.map_eq_some_iff.1 u8_zs
  simp only [Prod.mk.injEq] at hz
  have hrun : (Instr.buildSlice 22 1 (#[(0, p0)].map fun x => (x.1, rho sl x.2))).run Tryd.prog w = .ok (.slice (some ⟨w.heap.size, 0, none⟩) 1 1) (w.alloc (.cells (ag8 [b0]) 5)) := by
    refine run_buildSlice w _ _ 1 _ _ ie (.int .u8 0) und_u8s he hz.1 (by rw [hz.2]; decide) (by rw [hz.2]; decide) ?_
    rw [hz.2]
    simp only [List.map_toArray, List.map_cons, List.map_nil, h0]
    exact bfill1 ..
  exact wpOp_runG (w' := w.alloc (.cells (ag8 [b0]) 5)) hi (hw ..) (by rw [fr_eval n sl hl]; simp only [execOp, Sem.run_bind]; rw [hrun]; rfl) ⟨_, .inr (Ext.of_sub (.cons _ hs)), hS.alloc 5 (ag8 [b0]), h _⟩
end
attribute [local irreducible] wpL wpF fr Code.wp bodyPost
set_option maxRecDepth 100000 in
set_option maxHeartbeats 4000000 in
theorem k2_scalar (A0 : Option Addr) (L0 C0 : Nat) (bs0 : List Int) (v : World) (hR : GloR v) (hH : GSh v) (hr0 : Reads v v.heap.size A0 L0 (bs0.map (Value.int .u8))) (ho0 : Oct bs0) (hb0 : L0 ≤ 1000) : Rets 36 #[.slice A0 L0 C0] v (.agg (frc (num bs0))) := by
  have hn0 : bs0.length = L0 := by simpa using hr0.1
  refine calls_fr1 Tryd.func36 rfl (by rfl : _ = 6) (by rfl) ?_
  have hw := Hbl.nil v
  refine seq_plain hw [0] (by rfl) ?_
  refine L_alloc _ (by rfl) (by rfl) z_fr (frc (0 : Int)) rfl ?_; intro g1
  refine L_end ?_
  intro w1 hw1
  refine seq_plain hw1 [0, 1, 2, 3] (by rfl) ?_
  refine lv (.slice A0 L0 C0) (h := ?_)
  refine L_fresh 5 (ag8 bs0) (fun g => .slice (some ⟨g, 0, none⟩) L0 L0) (by rfl) (by rfl) (by kernel_rfl) (by rfl) (fun w h => copy_any w A0 L0 C0 bs0 ((hr0.below h.below).more h.below.size) (by omega)) ?_; intro g2
  refine L_val (.agg (frc (num bs0))) (by rfl) (by rfl) (gives_call (vl := [.slice (some ⟨g2, 0, none⟩) L0 L0]) (by kernel_rfl) (by rfl) (fun w h => u_wide _ _ _ bs0 w (hR.keep h.below) (hH.keep h.below) (copy_reads (h.blk 0 (by rfl)) hn0) ho0 (Nat.le_refl _) (by omega))) ?_
  refine L_store (t := 60) 1 g1 _ _ (by rfl) (by rfl) (by rfl) (by rfl) (by rfl) (hi_fr _) ((frc_size _).trans (frc_size _).symm) (frc_one _) ?_
  simp only [List.set_cons_zero, List.set_cons_succ]
  refine L_end ?_
  intro w2 hw2
  refine wp_ret ?_
  change bodyPost _ _ _ Exit.ret _ _
  refine (ret_cell (by rfl) (by rfl) (by rfl) (hw2.blk 1 (by rfl)) Tryd.underlying60 (by rfl) (hi_fr _) ⟨?_, hw2.below⟩)
  rfl
set_option maxRecDepth 100000 in
set_option maxHeartbeats 4000000 in
theorem k2_head  (v : World) (hG : Glo v) : Rets 35 #[] v (.bool true) := by
  obtain ⟨k0, hk0⟩ : ∃ k : Pt F2, k = gen2 := ⟨_, rfl⟩
  refine calls_fr0 Tryd.func35 rfl (by rfl : _ = 44) ?_
  have hw := Hbl.nil v
  refine seq_plain hw [0] (by rfl) ?_
  refine lv (.bool false) (h := ?_)
  refine L_end ?_
  intro w1 hw1
  refine seq_plain hw1 [0, 1, 2] (by rfl) ?_
  refine L_val (.agg (cg2 (k0))) (by rfl) (by rfl) (gives_call (vl := []) (by kernel_rfl) (by rfl) (fun w h => by rw [hk0]; exact k2_gen w (hG.keep h.below))) ?_
  refine L_alloc _ (by rfl) (by rfl) z_g2 (cg2 (0 : Pt F2)) rfl ?_; intro g1
  refine L_store (t := 71) 0 g1 _ _ (by rfl) (by rfl) (by rfl) (by rfl) (by rfl) (hi_g2 _) ((cg2_size _).trans (cg2_size _).symm) (cg2_one _) ?_
  simp only [List.set_cons_zero, List.set_cons_succ]
  refine L_end ?_
  intro w2 hw2
  refine seq_plain hw2 [0, 1, 2, 3, 4] (by rfl) ?_
  refine L_val (.agg (cg2 (k0))) (by rfl) (by rfl) (gL g1 71 (cg2 (k0)) 0 Tryd.underlying71 (hi_g2 _)) ?_
  refine L_val (.agg (cg2 (k0))) (by rfl) (by rfl) (gL g1 71 (cg2 (k0)) 0 Tryd.underlying71 (hi_g2 _)) ?_
  refine L_val (.agg (cg2 (gAdd F2.inv (k0) (k0)))) (by rfl) (by rfl) (gives_call (vl := [.agg (cg2 (k0)), .agg (cg2 (k0))]) (by kernel_rfl) (by rfl) (fun w h => k2_gadd _ _ w (hG.keep h.below))) ?_
  refine L_alloc _ (by rfl) (by rfl) z_g2 (cg2 (0 : Pt F2)) rfl ?_; intro g2
  refine L_store (t := 71) 0 g2 _ _ (by rfl) (by rfl) (by rfl) (by rfl) (by rfl) (hi_g2 _) ((cg2_size _).trans (cg2_size _).symm) (cg2_one _) ?_
  simp only [List.set_cons_zero, List.set_cons_succ]
  refine L_end ?_
  intro w3 hw3
  refine seq_flow (by kernel_rfl) hw3 [] [(g2, 71, (cg2 (gAdd F2.inv (k0) (k0)))), (g1, 71, (cg2 (k0)))] 38 (by rfl) ?_
  refine fT (i := 0) (g := (gL g1 71 (cg2 (k0)) 1 Tryd.underlying71 (hi_g2 _))) (h := ?_)
  refine fT (i := 1) (g := (gives_call (vl := [.agg (cg2 (k0))]) (by kernel_rfl) (by rfl) (fun w h => k2_on_t _ w (hG.keep h.below) (by rw [hk0]; exact on_gen2)))) (h := ?_)
  refine fV (i := 2) (u := (.bool true)) (h := ?_)
  refine fG (i := 3) (dj := 9) (g := (gL g2 71 (cg2 (gAdd F2.inv (k0) (k0))) 0 Tryd.underlying71 (hi_g2 _))) (h := ?_)
  refine fG (i := 4) (dj := 9) (g := (gives_call (vl := [.agg (cg2 (gAdd F2.inv (k0) (k0)))]) (by kernel_rfl) (by rfl) (fun w h => k2_on_t _ w (hG.keep h.below) (by rw [hk0]; exact gen2_two_on)))) (h := ?_)
  refine fV (i := 5) (u := (.bool true)) (h := ?_)
  refine fV (i := 6) (u := (.bool true)) (h := ?_)
  refine fG (i := 7) (dj := 13) (g := (gL g2 71 (cg2 (gAdd F2.inv (k0) (k0))) 0 Tryd.underlying71 (hi_g2 _))) (h := ?_)
  refine fG (i := 8) (dj := 13) (g := (gL g1 71 (cg2 (k0)) 1 Tryd.underlying71 (hi_g2 _))) (h := ?_)
  refine fG (i := 9) (dj := 13) (u := (.bool true)) (g := (gives_neq (cg2 (gAdd F2.inv (k0) (k0))) (cg2 (k0)) false (by rfl) (by rfl) (by kernel_rfl) (fun w => eq_g2_f (d := 9995) w (by rw [hk0]; exact gen2_two_ne)))) (h := ?_)
  refine fV (i := 10) (u := (.bool true)) (h := ?_)
  refine fV (i := 11) (u := (.bool true)) (h := ?_)
  refine fG (i := 12) (dj := 18) (g := (gL g2 71 (cg2 (gAdd F2.inv (k0) (k0))) 0 Tryd.underlying71 (hi_g2 _))) (h := ?_)
  refine fG (i := 13) (dj := 18) (u := (.agg (cg2 (0 : Pt F2)))) (g := (gb_g2 [] trivial (by rfl) (cg2 (0 : Pt F2)) (by rfl))) (h := ?_)
  refine fG (i := 14) (dj := 18) (u := (.bool true)) (g := (gives_neq (cg2 (gAdd F2.inv (k0) (k0))) (cg2 (0 : Pt F2)) false (by rfl) (by rfl) (by kernel_rfl) (fun w => eq_g2_f (d := 9995) w (by rw [hk0]; exact gen2_two_0)))) (h := ?_)
  refine fV (i := 15) (u := (.bool true)) (h := ?_)
  refine fV (i := 16) (u := (.bool true)) (h := ?_)
  refine fG (i := 17) (dj := 23) (g := (gL g1 71 (cg2 (k0)) 1 Tryd.underlying71 (hi_g2 _))) (h := ?_)
  refine fG (i := 20) (dj := 23) (g := (gL g2 71 (cg2 (gAdd F2.inv (k0) (k0))) 0 Tryd.underlying71 (hi_g2 _))) (h := ?_)
  refine flow_one 18 (by kernel_rfl) ?_
  refine F_build1 2 (by rfl) (by rfl) (Want.some (dj := 23) (by rfl) (by rfl) (by rfl) (by rfl)) (by rfl) (List.Sublist.refl _) ?_; intro g3
  refine flow_one 19 (by kernel_rfl) ?_
  refine F_val (vl := [.agg (cg2 (k0)), .slice (some ⟨g3, 0, none⟩) 1 1]) (.agg (cg2 (gTimes F2.inv (k0) [2]))) (by rfl) (by rfl) (Want.some (dj := 23) (by rfl) (by rfl) (by rfl) (by rfl)) (by kernel_rfl) (by rfl) (List.Sublist.cons _ (List.Sublist.refl _)) (fun w h => k2_gtimes _ _ _ _ [2] w (hG.keep h.below) (copy_reads (bs := [2]) (h.blk 0 (by rfl)) rfl) (by intro b hb; simp at hb; omega) (by omega)) ?_
  refine fGs (i := 21) (dj := 23) (u := (.bool true)) (e := (List.Sublist.cons _ (List.Sublist.refl _))) (g := (gives_eql (cg2 (gTimes F2.inv (k0) [2])) (cg2 (gAdd F2.inv (k0) (k0))) true (by rfl) (by rfl) (by kernel_rfl) (fun w => eq_g2_t (d := 9995) w (by rw [hk0]; exact gen2_two_t)))) (h := ?_)
  refine fTs (i := 22) (u := (.bool true)) (e := (List.Sublist.cons _ (List.Sublist.refl _))) (g := gv) (h := ?_)
  refine fTs (i := 23) (u := (.bool true)) (e := (List.Sublist.cons _ (List.Sublist.refl _))) (g := gv) (h := ?_)
  refine fGs (i := 24) (dj := 30) (e := (List.Sublist.cons _ (List.Sublist.refl _))) (g := (gL g1 71 (cg2 (k0)) 1 Tryd.underlying71 (hi_g2 _))) (h := ?_)
  refine fGs (i := 25) (dj := 30) (e := (List.Sublist.cons _ (List.Sublist.refl _))) (g := (gL g1 71 (cg2 (k0)) 1 Tryd.underlying71 (hi_g2 _))) (h := ?_)
  refine fGs (i := 26) (dj := 30) (e := (List.Sublist.cons _ (List.Sublist.refl _))) (g := (gives_call (vl := [.agg (cg2 (k0))]) (by kernel_rfl) (by rfl) (fun w h => k2_neg _ w (hG.keep h.below)))) (h := ?_)
  refine fGs (i := 27) (dj := 30) (e := (List.Sublist.cons _ (List.Sublist.refl _))) (g := (gives_call (vl := [.agg (cg2 (k0)), .agg (cg2 (-(k0)))]) (by kernel_rfl) (by rfl) (fun w h => k2_gadd _ _ w (hG.keep h.below)))) (h := ?_)
  refine fGs (i := 28) (dj := 30) (u := (.agg (cg2 (0 : Pt F2)))) (e := (List.Sublist.cons _ (List.Sublist.refl _))) (g := (gb_g2 [] trivial (by rfl) (cg2 (0 : Pt F2)) (by rfl))) (h := ?_)
  refine fGs (i := 29) (dj := 30) (u := (.bool true)) (e := (List.Sublist.cons _ (List.Sublist.refl _))) (g := (gives_eql (cg2 (gAdd F2.inv (k0) (-(k0)))) (cg2 (0 : Pt F2)) true (by rfl) (by rfl) (by kernel_rfl) (fun w => eq_g2_t (d := 9995) w (by rw [hk0]; exact gen2_back)))) (h := ?_)
  refine fTs (i := 30) (u := (.bool true)) (e := (List.Sublist.cons _ (List.Sublist.refl _))) (g := gv) (h := ?_)
  refine fTs (i := 31) (u := (.bool true)) (e := (List.Sublist.cons _ (List.Sublist.refl _))) (g := gv) (h := ?_)
  refine fGs (i := 32) (dj := 38) (u := (.pointer (some ⟨g1, 0, none⟩))) (e := (List.Sublist.cons _ (List.Sublist.refl _))) (g := gk) (h := ?_)
  refine fGs (i := 33) (dj := 38) (e := (List.Sublist.cons _ (List.Sublist.refl _))) (g := (gives_load g1 0 71 (cg2 (k0)) (c2 ((k0).x)) _ (by rfl) (fun _ h => h.blk 1 (by rfl)) (sl_g2x (k0) _ _ (Sl.refl _)) Tryd.underlying37 (by rfl) (hi_2 _))) (h := ?_)
  refine fGs (i := 34) (dj := 38) (u := (.bool false)) (e := (List.Sublist.cons _ (List.Sublist.refl _))) (g := (gives_call (vl := [.agg (c2 ((k0).x))]) (by kernel_rfl) (by rfl) (fun w h => by rw [hk0]; exact k2_genodd w (hG.keep h.below)))) (h := ?_)
  refine fGs (i := 35) (dj := 38) (u := (.bool true)) (e := (List.Sublist.cons _ (List.Sublist.refl _))) (g := gv) (h := ?_)
  refine fTs (i := 36) (u := (.bool true)) (e := (List.Sublist.cons _ (List.Sublist.refl _))) (g := gv) (h := ?_)
  refine fTs (i := 37) (u := (.bool true)) (e := (List.Sublist.cons _ (List.Sublist.refl _))) (g := gv) (h := ?_)
  refine flow_done (by kernel_rfl) ?_
  intro w4 hw4
  refine wp_ret ?_
  change bodyPost _ _ _ Exit.ret _ _
  refine (ret_tmp (by rfl) (by rfl) (by rfl) ⟨?_, hw4.below⟩)
  rfl
end Go.Proofs.YtialfoccalobpaaDoor
