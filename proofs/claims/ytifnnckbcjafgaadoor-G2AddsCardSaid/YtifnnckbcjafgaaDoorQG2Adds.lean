/-
  The law G2Adds.
-/
import Derived.Test.YtifnnckbcjafgaaDoorQGa2
namespace Go.Proofs.YtifnnckbcjafgaaDoor
set_option linter.unusedSimpArgs false
set_option linter.unusedVariables false
open Go.RowKit
section
variable {P : Program} {ops : Array Oper} {late : List Nat} {R : Act → World → Prop} {v : World} {L L0 : List (Nat × TypeId × Array Value)} {n : Nat} {sl : List (Nat × Value)}
theorem F_buildP {i d : Nat} {fuel : Nat} {listed : Array Bool} {gd : Option (Nat × Bool)} {t ty e : TypeId} {pos : String} {after : Array Edge} {parts : Array (Nat × Operand)} (m s : Nat) (z : Array Value) (ps : List (Nat × Array Value)) (out : Array Value)
    (hi : ops[i]? = some ⟨some d, .buildSlice t m parts, ty, pos, after, gd⟩) (hl : inFr n sl = true) (hw : Want ops n sl gd) (ht : P.underlying t = some (.slice e)) (hinfo : (P.info? e).map (fun i => (i.zero, i.size)) = some (some (.agg z), s))
    (hzz : (Array.range (m * s)).map (z[· % z.size]!) = joinA (List.replicate m z)) (hzs : z.size = s) (hb : m * s ≤ 16777216) (h0 : 0 < m * s) (hf : fits (List.replicate m s) ps)
    (he : (parts.toList.map fun x => (x.1, rho sl x.2)) = ps.map fun p => (p.1, Value.agg p.2)) (ho : joinA (putsA (List.replicate m z) ps) = out)
    (hs : L0.Sublist L) (h : ∀ g, wpF P .any ops late R (Hbl v L0) fuel (listed.setIfInBounds i true) (fr n ((d, .slice (some ⟨g, 0, none⟩) m m) :: sl)) (Hbl v ((g, e, out) :: L))) :
    ∀ w, Hbl v L w → wpOp P ops (Nrm R) i (fun a' w' => ∃ S', (i ∈ late ∨ Ext (Hbl v L0) S') ∧ S' w' ∧ wpF P .any ops late R (Hbl v L0) fuel (listed.setIfInBounds i true) a' S') (fr n sl) w := fun w hS => by
  obtain ⟨ie, hie, hz⟩ := Option.map_eq_some_iff.1 hinfo
  simp only [Prod.mk.injEq] at hz
  have hfill := fill_puts (fun i => some (i * s, s)) (List.replicate m s) (fun i hi => by
    simp only [List.take_replicate, List.sum_replicate_nat, List.getElem_replicate]
    rw [Nat.min_eq_left (by simpa using Nat.le_of_lt hi)]) ps (List.replicate m z) (by simp [hzs]) hf
  have he' : (parts.map fun x => (x.1, rho sl x.2)).toList = ps.map fun p => (p.1, Value.agg p.2) := by rw [← he]; simp
  rw [← hzz, ← he', ho] at hfill
  have hrun : (Instr.buildSlice t m (parts.map fun x => (x.1, rho sl x.2))).run P w = .ok (.slice (some ⟨w.heap.size, 0, none⟩) m m) (w.alloc (.cells out e)) := by
    refine run_buildSlice w t e m _ out ie (.agg z) ht hie hz.1 (by rw [hz.2]; omega) (by rw [hz.2]; omega) ?_
    rw [hz.2]
    exact hfill
  exact wpOp_runG (w' := w.alloc (.cells out e)) hi (hw ..) (by rw [fr_eval n sl hl]; simp only [execOp, Sem.run_bind]; rw [hrun]; rfl) ⟨_, .inr (Ext.of_sub (.cons _ hs)), hS.alloc e out, h _⟩
end
theorem and_7 (n : Int) : IntKind.i64.wrap (((n % 2 ^ IntKind.i64.bits).toNat &&& ((7 : Int) % 2 ^ IntKind.i64.bits).toNat : Nat) : Int) = n % 8 := by
  have e2 : ((7 : Int) % 2 ^ IntKind.i64.bits).toNat = 2 ^ 3 - 1 := by decide
  rw [e2, Nat.and_two_pow_sub_one_eq_mod]
  have e3 : (2 : Int) ^ IntKind.i64.bits = 18446744073709551616 := by decide
  rw [e3]
  rw [IntWalk.i64_in _ (by omega)]
  omega
attribute [local irreducible] wpL wpF fr Code.wp bodyPost
set_option maxRecDepth 100000 in
set_option maxHeartbeats 4000000 in
theorem g2_adds_long (A0 : Option Addr) (L0 C0 : Nat) (bs0 : List Int) (A1 : Option Addr) (L1 C1 : Nat) (bs1 : List Int) (n m how : Int) (v : World) (hG : Glo v) (hR : GloR v) (hH : GSh v) (hr0 : Reads v v.heap.size A0 L0 (bs0.map (Value.int .u8))) (ho0 : Oct bs0) (hr1 : Reads v v.heap.size A1 L1 (bs1.map (Value.int .u8))) (ho1 : Oct bs1) (hQ : GQp v) (hn : 0 ≤ n ∧ n < 65536) (hm : 0 ≤ m ∧ m < 65536) (hlong : 100 < L0 ∨ 100 < L1) : Rets 9 #[.slice A0 L0 C0, .slice A1 L1 C1, .int .u16 n, .int .u16 m, .int .i64 how] v (.bool true) := by
  refine calls_fr5 Tryd.func9 rfl (by rfl : _ = 89) (by rfl) ?_
  have hw := Hbl.nil v
  refine seq_plain hw [0] (by rfl) ?_
  refine L_val (.bool false) (by rfl) (by rfl) (gives_value _ fun _ => by rfl) ?_
  refine L_end ?_
  intro w1 hw1
  refine wp_seq ?_
  refine seq_plain hw1 [0, 1] (by rfl) ?_
  refine L_val (.bool true) (by rfl) (by rfl) (gives_call (vl := []) (by kernel_rfl) (by rfl) (fun w h => k2_head w (hG.keep h.below))) ?_
  refine L_val (.bool false) (by rfl) (by rfl) (gives_value _ fun _ => by rfl) ?_
  refine L_end ?_
  intro w2 hw2
  refine wp_cond_false (fr_at _ _ (by rfl) _) ?_
  refine wp_skip ?_
  change Code.wp _ _ _ _ _
  refine wp_seq ?_
  refine seq_plain hw2 [0, 1, 2] (by rfl) ?_
  refine L_val (.slice A0 L0 C0) (by rfl) (by rfl) (gives_value _ fun _ => by rfl) ?_
  refine L_val (.slice A1 L1 C1) (by rfl) (by rfl) (gives_value _ fun _ => by rfl) ?_
  refine L_val (.bool true) (by rfl) (by rfl) (gives_call (vl := [.slice A0 L0 C0, .slice A1 L1 C1, .slice none 0 0]) (by kernel_rfl) (by rfl) (fun w h => k2_long_yes _ _ _ _ _ _ none 0 0 w (by omega))) ?_
  refine L_end ?_
  intro w3 hw3
  refine wp_cond_true (fr_at _ _ (by rfl) _) ?_
  refine seq_plain hw3 [0] (by rfl) ?_
  refine L_val (.bool true) (by rfl) (by rfl) (gives_value _ fun _ => by rfl) ?_
  refine L_end ?_
  intro w4 hw4
  refine wp_ret ?_
  change bodyPost _ _ _ Exit.ret _ _
  refine (ret_tmp (by rfl) (by rfl) (by rfl) ⟨rfl, hw4.below⟩)
set_option maxRecDepth 100000 in
set_option maxHeartbeats 4000000 in
theorem g2_adds_1 (A0 : Option Addr) (L0 C0 : Nat) (bs0 : List Int) (A1 : Option Addr) (L1 C1 : Nat) (bs1 : List Int) (n m how : Int) (v : World) (hG : Glo v) (hR : GloR v) (hH : GSh v) (hr0 : Reads v v.heap.size A0 L0 (bs0.map (Value.int .u8))) (ho0 : Oct bs0) (hr1 : Reads v v.heap.size A1 L1 (bs1.map (Value.int .u8))) (ho1 : Oct bs1) (hQ : GQp v) (hn : 0 ≤ n ∧ n < 65536) (hm : 0 ≤ m ∧ m < 65536) (hs0 : L0 ≤ 100) (hs1 : L1 ≤ 100) (hh : how % 8 = 1) : Rets 9 #[.slice A0 L0 C0, .slice A1 L1 C1, .int .u16 n, .int .u16 m, .int .i64 how] v (.bool true) := by
  obtain ⟨k0, hk0⟩ : ∃ k : Pt F2, k = gen2 := ⟨_, rfl⟩
  refine calls_fr5 Tryd.func9 rfl (by rfl : _ = 89) (by rfl) ?_
  have hw := Hbl.nil v
  refine seq_plain hw [0] (by rfl) ?_
  refine L_val (.bool false) (by rfl) (by rfl) (gives_value _ fun _ => by rfl) ?_
  refine L_end ?_
  intro w1 hw1
  refine wp_seq ?_
  refine seq_plain hw1 [0, 1] (by rfl) ?_
  refine L_val (.bool true) (by rfl) (by rfl) (gives_call (vl := []) (by kernel_rfl) (by rfl) (fun w h => k2_head w (hG.keep h.below))) ?_
  refine L_val (.bool false) (by rfl) (by rfl) (gives_value _ fun _ => by rfl) ?_
  refine L_end ?_
  intro w2 hw2
  refine wp_cond_false (fr_at _ _ (by rfl) _) ?_
  refine wp_skip ?_
  change Code.wp _ _ _ _ _
  refine wp_seq ?_
  refine seq_plain hw2 [0, 1, 2] (by rfl) ?_
  refine L_val (.slice A0 L0 C0) (by rfl) (by rfl) (gives_value _ fun _ => by rfl) ?_
  refine L_val (.slice A1 L1 C1) (by rfl) (by rfl) (gives_value _ fun _ => by rfl) ?_
  refine L_val (.bool false) (by rfl) (by rfl) (gives_call (vl := [.slice A0 L0 C0, .slice A1 L1 C1, .slice none 0 0]) (by kernel_rfl) (by rfl) (fun w h => k2_long_no _ _ _ _ _ _ none 0 0 w (by omega) (by omega) (by omega))) ?_
  refine L_end ?_
  intro w3 hw3
  refine wp_cond_false (fr_at _ _ (by rfl) _) ?_
  refine wp_skip ?_
  change Code.wp _ _ _ _ _
  refine seq_plain hw3 [0, 1, 2, 3, 4, 5] (by rfl) ?_
  refine L_val (.agg (cg2 (k0))) (by rfl) (by rfl) (gives_call (vl := []) (by kernel_rfl) (by rfl) (fun w h => by rw [hk0]; exact k2_gen w (hG.keep h.below))) ?_
  refine L_val (.slice A0 L0 C0) (by rfl) (by rfl) (gives_value _ fun _ => by rfl) ?_
  refine L_val (.agg (frc (num bs0))) (by rfl) (by rfl) (gives_call (vl := [.slice A0 L0 C0]) (by kernel_rfl) (by rfl) (fun w h => k2_scalar A0 L0 C0 bs0 w (hR.keep h.below) (hH.keep h.below) ((hr0.below h.below).more h.below.size) ho0 (by omega))) ?_
  refine L_val (.agg (cg2 (gMul F2.inv (k0) (num bs0)))) (by rfl) (by rfl) (gives_call (vl := [.agg (cg2 (k0)), .agg (frc (num bs0))]) (by kernel_rfl) (by rfl) (fun w h => k2_gmul _ _ w (hG.keep h.below) (hR.keep h.below))) ?_
  refine L_alloc _ (by rfl) (by rfl) z_g2 (cg2 (0 : Pt F2)) rfl ?_; intro g1
  refine L_store (t := 59) 0 g1 _ _ (by rfl) (by rfl) (by rfl) (by rfl) (by rfl) (hi_g2 _) ((cg2_size _).trans (cg2_size _).symm) (cg2_one _) ?_
  simp only [List.set_cons_zero, List.set_cons_succ]
  refine L_end ?_
  intro w4 hw4
  refine seq_plain hw4 [0, 1, 2, 3, 4, 5] (by rfl) ?_
  refine L_val (.agg (cg2 (k0))) (by rfl) (by rfl) (gives_call (vl := []) (by kernel_rfl) (by rfl) (fun w h => by rw [hk0]; exact k2_gen w (hG.keep h.below))) ?_
  refine L_val (.slice A1 L1 C1) (by rfl) (by rfl) (gives_value _ fun _ => by rfl) ?_
  refine L_val (.agg (frc (num bs1))) (by rfl) (by rfl) (gives_call (vl := [.slice A1 L1 C1]) (by kernel_rfl) (by rfl) (fun w h => k2_scalar A1 L1 C1 bs1 w (hR.keep h.below) (hH.keep h.below) ((hr1.below h.below).more h.below.size) ho1 (by omega))) ?_
  refine L_val (.agg (cg2 (gMul F2.inv (k0) (num bs1)))) (by rfl) (by rfl) (gives_call (vl := [.agg (cg2 (k0)), .agg (frc (num bs1))]) (by kernel_rfl) (by rfl) (fun w h => k2_gmul _ _ w (hG.keep h.below) (hR.keep h.below))) ?_
  refine L_alloc _ (by rfl) (by rfl) z_g2 (cg2 (0 : Pt F2)) rfl ?_; intro g2
  refine L_store (t := 59) 0 g2 _ _ (by rfl) (by rfl) (by rfl) (by rfl) (by rfl) (hi_g2 _) ((cg2_size _).trans (cg2_size _).symm) (cg2_one _) ?_
  simp only [List.set_cons_zero, List.set_cons_succ]
  refine L_end ?_
  intro w5 hw5
  refine wp_seq ?_
  refine seq_plain hw5 [0, 1] (by rfl) ?_
  refine L_val (.int .i64 how) (by rfl) (by rfl) (gives_value _ fun _ => by rfl) ?_
  refine L_val (.int .i64 (how % 8)) (by rfl) (by rfl) (gives_and (k := .i64) (how) 7 (how % 8) (by rfl) (by rfl) (and_7 how)) ?_
  refine L_end ?_
  intro w6 hw6
  refine wp_block ?_
  refine seq_plain hw6 [0, 1] (by rfl) ?_
  refine L_val (.bool true) (by rfl) (by rfl) (gives_ieq (k := .i64) (how % 8) (1) true (by rfl) (by rfl) (decide_eq_true (by omega))) ?_
  refine L_val (.bool true) (by rfl) (by rfl) (gives_value _ fun _ => by rfl) ?_
  refine L_end ?_
  intro w7 hw7
  refine wp_cond_true (fr_at _ _ (by rfl) _) ?_
  refine one_plain hw7 [0, 1] (by rfl) ?_
  refine L_val (.agg (cg2 (gMul F2.inv (k0) (num bs0)))) (by rfl) (by rfl) (gL g1 59 (cg2 (gMul F2.inv (k0) (num bs0))) 1 Tryd.underlying59 (hi_g2 _)) ?_
  refine L_store (t := 59) 0 g2 _ _ (by rfl) (by rfl) (by rfl) (by rfl) (by rfl) (hi_g2 _) ((cg2_size _).trans (cg2_size _).symm) (cg2_one _) ?_
  simp only [List.set_cons_zero, List.set_cons_succ]
  refine L_end ?_
  intro w8 hw8
  change Code.wp _ _ _ _ _
  refine seq_plain hw8 [0, 1, 2, 3, 4] (by rfl) ?_
  refine L_val (.agg (cg2 (gMul F2.inv (k0) (num bs0)))) (by rfl) (by rfl) (gL g1 59 (cg2 (gMul F2.inv (k0) (num bs0))) 1 Tryd.underlying59 (hi_g2 _)) ?_
  refine L_val (.agg (cg2 (gMul F2.inv (k0) (num bs0)))) (by rfl) (by rfl) (gL g2 59 (cg2 (gMul F2.inv (k0) (num bs0))) 0 Tryd.underlying59 (hi_g2 _)) ?_
  refine L_val (.agg (cg2 (gAdd F2.inv (gMul F2.inv (k0) (num bs0)) (gMul F2.inv (k0) (num bs0))))) (by rfl) (by rfl) (gives_call (vl := [.agg (cg2 (gMul F2.inv (k0) (num bs0))), .agg (cg2 (gMul F2.inv (k0) (num bs0)))]) (by kernel_rfl) (by rfl) (fun w h => k2_gadd _ _ w (hG.keep h.below))) ?_
  refine L_alloc _ (by rfl) (by rfl) z_g2 (cg2 (0 : Pt F2)) rfl ?_; intro g3
  refine L_store (t := 59) 0 g3 _ _ (by rfl) (by rfl) (by rfl) (by rfl) (by rfl) (hi_g2 _) ((cg2_size _).trans (cg2_size _).symm) (cg2_one _) ?_
  simp only [List.set_cons_zero, List.set_cons_succ]
  refine L_end ?_
  intro w9 hw9
  refine seq_flow (by kernel_rfl) hw9 [] [(g3, 59, (cg2 (gAdd F2.inv (gMul F2.inv (k0) (num bs0)) (gMul F2.inv (k0) (num bs0))))), (g2, 59, (cg2 (gMul F2.inv (k0) (num bs0)))), (g1, 59, (cg2 (gMul F2.inv (k0) (num bs0))))] 38 (by rfl) ?_
  refine fT (i := 0) (g := (gL g1 59 (cg2 (gMul F2.inv (k0) (num bs0))) 2 Tryd.underlying59 (hi_g2 _))) (h := ?_)
  refine fT (i := 1) (g := (gives_call (vl := [.agg (cg2 (gMul F2.inv (k0) (num bs0)))]) (by kernel_rfl) (by rfl) (fun w h => k2_on_t _ w (hG.keep h.below) (ing2 hk0 _).1))) (h := ?_)
  refine fT (i := 2) (u := (.bool true)) (g := (gives_value _ fun _ => by rfl)) (h := ?_)
  refine fG (i := 3) (dj := 54) (g := (gL g2 59 (cg2 (gMul F2.inv (k0) (num bs0))) 1 Tryd.underlying59 (hi_g2 _))) (h := ?_)
  refine fG (i := 4) (dj := 54) (g := (gives_call (vl := [.agg (cg2 (gMul F2.inv (k0) (num bs0)))]) (by kernel_rfl) (by rfl) (fun w h => k2_on_t _ w (hG.keep h.below) (ing2 hk0 _).1))) (h := ?_)
  refine fT (i := 5) (u := (.bool true)) (g := (gives_value _ fun _ => by rfl)) (h := ?_)
  refine fT (i := 6) (u := (.bool true)) (g := (gives_value _ fun _ => by rfl)) (h := ?_)
  refine fG (i := 7) (dj := 58) (g := (gL g3 59 (cg2 (gAdd F2.inv (gMul F2.inv (k0) (num bs0)) (gMul F2.inv (k0) (num bs0)))) 0 Tryd.underlying59 (hi_g2 _))) (h := ?_)
  refine fG (i := 8) (dj := 58) (g := (gives_call (vl := [.agg (cg2 (gAdd F2.inv (gMul F2.inv (k0) (num bs0)) (gMul F2.inv (k0) (num bs0))))]) (by kernel_rfl) (by rfl) (fun w h => k2_on_t _ w (hG.keep h.below) (on_gadd ec2 F2.inv_zero (ing2 hk0 _).1 (ing2 hk0 _).1)))) (h := ?_)
  refine fT (i := 9) (u := (.bool true)) (g := (gives_value _ fun _ => by rfl)) (h := ?_)
  refine fT (i := 10) (u := (.bool true)) (g := (gives_value _ fun _ => by rfl)) (h := ?_)
  refine fG (i := 11) (dj := 62) (g := (gL g3 59 (cg2 (gAdd F2.inv (gMul F2.inv (k0) (num bs0)) (gMul F2.inv (k0) (num bs0)))) 0 Tryd.underlying59 (hi_g2 _))) (h := ?_)
  refine fG (i := 12) (dj := 62) (g := (gives_call (vl := [.agg (cg2 (gAdd F2.inv (gMul F2.inv (k0) (num bs0)) (gMul F2.inv (k0) (num bs0))))]) (by kernel_rfl) (by rfl) (fun w h => k2_neg _ w (hG.keep h.below)))) (h := ?_)
  refine fG (i := 13) (dj := 62) (g := (gives_call (vl := [.agg (cg2 (-(gAdd F2.inv (gMul F2.inv (k0) (num bs0)) (gMul F2.inv (k0) (num bs0)))))]) (by kernel_rfl) (by rfl) (fun w h => k2_on_t _ w (hG.keep h.below) (ec2.on_neg (on_gadd ec2 F2.inv_zero (ing2 hk0 _).1 (ing2 hk0 _).1))))) (h := ?_)
  refine fT (i := 14) (u := (.bool true)) (g := (gives_value _ fun _ => by rfl)) (h := ?_)
  refine fT (i := 15) (u := (.bool true)) (g := (gives_value _ fun _ => by rfl)) (h := ?_)
  refine fG (i := 16) (dj := 67) (g := (gL g1 59 (cg2 (gMul F2.inv (k0) (num bs0))) 2 Tryd.underlying59 (hi_g2 _))) (h := ?_)
  refine fG (i := 17) (dj := 67) (g := (gL g2 59 (cg2 (gMul F2.inv (k0) (num bs0))) 1 Tryd.underlying59 (hi_g2 _))) (h := ?_)
  refine fG (i := 18) (dj := 67) (g := (gL g3 59 (cg2 (gAdd F2.inv (gMul F2.inv (k0) (num bs0)) (gMul F2.inv (k0) (num bs0)))) 0 Tryd.underlying59 (hi_g2 _))) (h := ?_)
  refine fG (i := 19) (dj := 67) (g := (gives_call (vl := [.agg (cg2 (gAdd F2.inv (gMul F2.inv (k0) (num bs0)) (gMul F2.inv (k0) (num bs0))))]) (by kernel_rfl) (by rfl) (fun w h => k2_neg _ w (hG.keep h.below)))) (h := ?_)
  refine fG (i := 20) (dj := 67) (g := (gives_call (vl := [.agg (cg2 (gMul F2.inv (k0) (num bs0))), .agg (cg2 (gMul F2.inv (k0) (num bs0))), .agg (cg2 (-(gAdd F2.inv (gMul F2.inv (k0) (num bs0)) (gMul F2.inv (k0) (num bs0)))))]) (by kernel_rfl) (by rfl) (fun w h => k2_sides _ _ _ w (hG.keep h.below) (ing2 hk0 _).1 (ing2 hk0 _).1 rfl))) (h := ?_)
  refine fT (i := 21) (u := (.bool true)) (g := (gives_value _ fun _ => by rfl)) (h := ?_)
  refine fT (i := 22) (u := (.bool true)) (g := (gives_value _ fun _ => by rfl)) (h := ?_)
  refine fG (i := 23) (dj := 74) (g := (gL g3 59 (cg2 (gAdd F2.inv (gMul F2.inv (k0) (num bs0)) (gMul F2.inv (k0) (num bs0)))) 0 Tryd.underlying59 (hi_g2 _))) (h := ?_)
  refine fG (i := 24) (dj := 74) (g := (gL g2 59 (cg2 (gMul F2.inv (k0) (num bs0))) 1 Tryd.underlying59 (hi_g2 _))) (h := ?_)
  refine fG (i := 25) (dj := 74) (g := (gL g1 59 (cg2 (gMul F2.inv (k0) (num bs0))) 2 Tryd.underlying59 (hi_g2 _))) (h := ?_)
  refine fG (i := 26) (dj := 74) (g := (gives_call (vl := [.agg (cg2 (gMul F2.inv (k0) (num bs0))), .agg (cg2 (gMul F2.inv (k0) (num bs0)))]) (by kernel_rfl) (by rfl) (fun w h => k2_gadd _ _ w (hG.keep h.below)))) (h := ?_)
  refine fG (i := 27) (dj := 74) (u := (.bool true)) (g := (gives_eql (cg2 (gAdd F2.inv (gMul F2.inv (k0) (num bs0)) (gMul F2.inv (k0) (num bs0)))) (cg2 (gAdd F2.inv (gMul F2.inv (k0) (num bs0)) (gMul F2.inv (k0) (num bs0)))) true (by rfl) (by rfl) (by kernel_rfl) (fun w => eq_g2_t (d := 9995) w (gadd_comm ec2 F2.inv_zero (ing2 hk0 _).1 (ing2 hk0 _).1)))) (h := ?_)
  refine fT (i := 28) (u := (.bool true)) (g := (gives_value _ fun _ => by rfl)) (h := ?_)
  refine fT (i := 29) (u := (.bool true)) (g := (gives_value _ fun _ => by rfl)) (h := ?_)
  refine fG (i := 30) (dj := 81) (g := (gL g1 59 (cg2 (gMul F2.inv (k0) (num bs0))) 2 Tryd.underlying59 (hi_g2 _))) (h := ?_)
  refine fG (i := 31) (dj := 81) (g := (gL g2 59 (cg2 (gMul F2.inv (k0) (num bs0))) 1 Tryd.underlying59 (hi_g2 _))) (h := ?_)
  refine fG (i := 34) (dj := 81) (g := (gL g3 59 (cg2 (gAdd F2.inv (gMul F2.inv (k0) (num bs0)) (gMul F2.inv (k0) (num bs0)))) 0 Tryd.underlying59 (hi_g2 _))) (h := ?_)
  refine flow_one 32 (by kernel_rfl) ?_
  refine F_buildP 2 24 (cg2 0) [(0, (cg2 (gMul F2.inv (k0) (num bs0)))), (1, (cg2 (gMul F2.inv (k0) (num bs0))))] (joinA [(cg2 (gMul F2.inv (k0) (num bs0))), (cg2 (gMul F2.inv (k0) (num bs0)))]) (by rfl) (by rfl) (Want.some (dj := 81) (by rfl) (by rfl) (by rfl) (by rfl)) Tryd.underlying68 (zs_g2) (zr_g2_2) (cg2_size _) (by decide) (by decide) (by simp [fits, cg2_size]) (by rfl) (by rfl) (List.Sublist.refl _) ?_; intro g4
  refine flow_one 33 (by kernel_rfl) ?_
  refine F_val (vl := [.slice (some ⟨g4, 0, none⟩) 2 2]) (.agg (cg2 (gSum F2.inv [gMul F2.inv (k0) (num bs0), gMul F2.inv (k0) (num bs0)]))) (by rfl) (by rfl) (Want.some (dj := 81) (by rfl) (by rfl) (by rfl) (by rfl)) (by kernel_rfl) (by rfl) (List.Sublist.cons _ (List.Sublist.refl _)) (fun w h => k2_gsum _ _ _ [gMul F2.inv (k0) (num bs0), gMul F2.inv (k0) (num bs0)] w (hG.keep h.below) (pts_blk [gMul F2.inv (k0) (num bs0), gMul F2.inv (k0) (num bs0)] 2 rfl cg2_size (h.blk 0 (by rfl))) (by omega)) ?_
  refine fGs (i := 35) (dj := 81) (u := (.bool true)) (e := (List.Sublist.cons _ (List.Sublist.refl _))) (g := (gives_eql (cg2 (gSum F2.inv [gMul F2.inv (k0) (num bs0), gMul F2.inv (k0) (num bs0)])) (cg2 (gAdd F2.inv (gMul F2.inv (k0) (num bs0)) (gMul F2.inv (k0) (num bs0)))) true (by rfl) (by rfl) (by kernel_rfl) (fun w => eq_g2_t (d := 9995) w rfl))) (h := ?_)
  refine fTs (i := 36) (u := (.bool true)) (e := (List.Sublist.cons _ (List.Sublist.refl _))) (g := (gives_value _ fun _ => by rfl)) (h := ?_)
  refine fTs (i := 37) (u := (.bool true)) (e := (List.Sublist.cons _ (List.Sublist.refl _))) (g := (gives_value _ fun _ => by rfl)) (h := ?_)
  refine flow_done (by kernel_rfl) ?_
  intro w10 hw10
  refine wp_ret ?_
  change bodyPost _ _ _ Exit.ret _ _
  refine (ret_tmp (by rfl) (by rfl) (by rfl) ⟨rfl, hw10.below⟩)
set_option maxRecDepth 100000 in
set_option maxHeartbeats 4000000 in
theorem g2_adds_2 (A0 : Option Addr) (L0 C0 : Nat) (bs0 : List Int) (A1 : Option Addr) (L1 C1 : Nat) (bs1 : List Int) (n m how : Int) (v : World) (hG : Glo v) (hR : GloR v) (hH : GSh v) (hr0 : Reads v v.heap.size A0 L0 (bs0.map (Value.int .u8))) (ho0 : Oct bs0) (hr1 : Reads v v.heap.size A1 L1 (bs1.map (Value.int .u8))) (ho1 : Oct bs1) (hQ : GQp v) (hn : 0 ≤ n ∧ n < 65536) (hm : 0 ≤ m ∧ m < 65536) (hs0 : L0 ≤ 100) (hs1 : L1 ≤ 100) (hh : how % 8 = 2) : Rets 9 #[.slice A0 L0 C0, .slice A1 L1 C1, .int .u16 n, .int .u16 m, .int .i64 how] v (.bool true) := by
  obtain ⟨k0, hk0⟩ : ∃ k : Pt F2, k = gen2 := ⟨_, rfl⟩
  refine calls_fr5 Tryd.func9 rfl (by rfl : _ = 89) (by rfl) ?_
  have hw := Hbl.nil v
  refine seq_plain hw [0] (by rfl) ?_
  refine L_val (.bool false) (by rfl) (by rfl) (gives_value _ fun _ => by rfl) ?_
  refine L_end ?_
  intro w1 hw1
  refine wp_seq ?_
  refine seq_plain hw1 [0, 1] (by rfl) ?_
  refine L_val (.bool true) (by rfl) (by rfl) (gives_call (vl := []) (by kernel_rfl) (by rfl) (fun w h => k2_head w (hG.keep h.below))) ?_
  refine L_val (.bool false) (by rfl) (by rfl) (gives_value _ fun _ => by rfl) ?_
  refine L_end ?_
  intro w2 hw2
  refine wp_cond_false (fr_at _ _ (by rfl) _) ?_
  refine wp_skip ?_
  change Code.wp _ _ _ _ _
  refine wp_seq ?_
  refine seq_plain hw2 [0, 1, 2] (by rfl) ?_
  refine L_val (.slice A0 L0 C0) (by rfl) (by rfl) (gives_value _ fun _ => by rfl) ?_
  refine L_val (.slice A1 L1 C1) (by rfl) (by rfl) (gives_value _ fun _ => by rfl) ?_
  refine L_val (.bool false) (by rfl) (by rfl) (gives_call (vl := [.slice A0 L0 C0, .slice A1 L1 C1, .slice none 0 0]) (by kernel_rfl) (by rfl) (fun w h => k2_long_no _ _ _ _ _ _ none 0 0 w (by omega) (by omega) (by omega))) ?_
  refine L_end ?_
  intro w3 hw3
  refine wp_cond_false (fr_at _ _ (by rfl) _) ?_
  refine wp_skip ?_
  change Code.wp _ _ _ _ _
  refine seq_plain hw3 [0, 1, 2, 3, 4, 5] (by rfl) ?_
  refine L_val (.agg (cg2 (k0))) (by rfl) (by rfl) (gives_call (vl := []) (by kernel_rfl) (by rfl) (fun w h => by rw [hk0]; exact k2_gen w (hG.keep h.below))) ?_
  refine L_val (.slice A0 L0 C0) (by rfl) (by rfl) (gives_value _ fun _ => by rfl) ?_
  refine L_val (.agg (frc (num bs0))) (by rfl) (by rfl) (gives_call (vl := [.slice A0 L0 C0]) (by kernel_rfl) (by rfl) (fun w h => k2_scalar A0 L0 C0 bs0 w (hR.keep h.below) (hH.keep h.below) ((hr0.below h.below).more h.below.size) ho0 (by omega))) ?_
  refine L_val (.agg (cg2 (gMul F2.inv (k0) (num bs0)))) (by rfl) (by rfl) (gives_call (vl := [.agg (cg2 (k0)), .agg (frc (num bs0))]) (by kernel_rfl) (by rfl) (fun w h => k2_gmul _ _ w (hG.keep h.below) (hR.keep h.below))) ?_
  refine L_alloc _ (by rfl) (by rfl) z_g2 (cg2 (0 : Pt F2)) rfl ?_; intro g1
  refine L_store (t := 59) 0 g1 _ _ (by rfl) (by rfl) (by rfl) (by rfl) (by rfl) (hi_g2 _) ((cg2_size _).trans (cg2_size _).symm) (cg2_one _) ?_
  simp only [List.set_cons_zero, List.set_cons_succ]
  refine L_end ?_
  intro w4 hw4
  refine seq_plain hw4 [0, 1, 2, 3, 4, 5] (by rfl) ?_
  refine L_val (.agg (cg2 (k0))) (by rfl) (by rfl) (gives_call (vl := []) (by kernel_rfl) (by rfl) (fun w h => by rw [hk0]; exact k2_gen w (hG.keep h.below))) ?_
  refine L_val (.slice A1 L1 C1) (by rfl) (by rfl) (gives_value _ fun _ => by rfl) ?_
  refine L_val (.agg (frc (num bs1))) (by rfl) (by rfl) (gives_call (vl := [.slice A1 L1 C1]) (by kernel_rfl) (by rfl) (fun w h => k2_scalar A1 L1 C1 bs1 w (hR.keep h.below) (hH.keep h.below) ((hr1.below h.below).more h.below.size) ho1 (by omega))) ?_
  refine L_val (.agg (cg2 (gMul F2.inv (k0) (num bs1)))) (by rfl) (by rfl) (gives_call (vl := [.agg (cg2 (k0)), .agg (frc (num bs1))]) (by kernel_rfl) (by rfl) (fun w h => k2_gmul _ _ w (hG.keep h.below) (hR.keep h.below))) ?_
  refine L_alloc _ (by rfl) (by rfl) z_g2 (cg2 (0 : Pt F2)) rfl ?_; intro g2
  refine L_store (t := 59) 0 g2 _ _ (by rfl) (by rfl) (by rfl) (by rfl) (by rfl) (hi_g2 _) ((cg2_size _).trans (cg2_size _).symm) (cg2_one _) ?_
  simp only [List.set_cons_zero, List.set_cons_succ]
  refine L_end ?_
  intro w5 hw5
  refine wp_seq ?_
  refine seq_plain hw5 [0, 1] (by rfl) ?_
  refine L_val (.int .i64 how) (by rfl) (by rfl) (gives_value _ fun _ => by rfl) ?_
  refine L_val (.int .i64 (how % 8)) (by rfl) (by rfl) (gives_and (k := .i64) (how) 7 (how % 8) (by rfl) (by rfl) (and_7 how)) ?_
  refine L_end ?_
  intro w6 hw6
  refine wp_block ?_
  refine seq_plain hw6 [0, 1] (by rfl) ?_
  refine L_val (.bool false) (by rfl) (by rfl) (gives_ieq (k := .i64) (how % 8) (1) false (by rfl) (by rfl) (decide_eq_false (by omega))) ?_
  refine L_val (.bool false) (by rfl) (by rfl) (gives_value _ fun _ => by rfl) ?_
  refine L_end ?_
  intro w7 hw7
  refine wp_cond_false (fr_at _ _ (by rfl) _) ?_
  refine seq_plain hw7 [0, 1] (by rfl) ?_
  refine L_val (.bool true) (by rfl) (by rfl) (gives_ieq (k := .i64) (how % 8) (2) true (by rfl) (by rfl) (decide_eq_true (by omega))) ?_
  refine L_val (.bool true) (by rfl) (by rfl) (gives_value _ fun _ => by rfl) ?_
  refine L_end ?_
  intro w8 hw8
  refine wp_cond_true (fr_at _ _ (by rfl) _) ?_
  refine one_plain hw8 [0, 1, 2] (by rfl) ?_
  refine L_val (.agg (cg2 (gMul F2.inv (k0) (num bs0)))) (by rfl) (by rfl) (gL g1 59 (cg2 (gMul F2.inv (k0) (num bs0))) 1 Tryd.underlying59 (hi_g2 _)) ?_
  refine L_val (.agg (cg2 (-(gMul F2.inv (k0) (num bs0))))) (by rfl) (by rfl) (gives_call (vl := [.agg (cg2 (gMul F2.inv (k0) (num bs0)))]) (by kernel_rfl) (by rfl) (fun w h => k2_neg _ w (hG.keep h.below))) ?_
  refine L_store (t := 59) 0 g2 _ _ (by rfl) (by rfl) (by rfl) (by rfl) (by rfl) (hi_g2 _) ((cg2_size _).trans (cg2_size _).symm) (cg2_one _) ?_
  simp only [List.set_cons_zero, List.set_cons_succ]
  refine L_end ?_
  intro w9 hw9
  change Code.wp _ _ _ _ _
  refine seq_plain hw9 [0, 1, 2, 3, 4] (by rfl) ?_
  refine L_val (.agg (cg2 (gMul F2.inv (k0) (num bs0)))) (by rfl) (by rfl) (gL g1 59 (cg2 (gMul F2.inv (k0) (num bs0))) 1 Tryd.underlying59 (hi_g2 _)) ?_
  refine L_val (.agg (cg2 (-(gMul F2.inv (k0) (num bs0))))) (by rfl) (by rfl) (gL g2 59 (cg2 (-(gMul F2.inv (k0) (num bs0)))) 0 Tryd.underlying59 (hi_g2 _)) ?_
  refine L_val (.agg (cg2 (gAdd F2.inv (gMul F2.inv (k0) (num bs0)) (-(gMul F2.inv (k0) (num bs0)))))) (by rfl) (by rfl) (gives_call (vl := [.agg (cg2 (gMul F2.inv (k0) (num bs0))), .agg (cg2 (-(gMul F2.inv (k0) (num bs0))))]) (by kernel_rfl) (by rfl) (fun w h => k2_gadd _ _ w (hG.keep h.below))) ?_
  refine L_alloc _ (by rfl) (by rfl) z_g2 (cg2 (0 : Pt F2)) rfl ?_; intro g3
  refine L_store (t := 59) 0 g3 _ _ (by rfl) (by rfl) (by rfl) (by rfl) (by rfl) (hi_g2 _) ((cg2_size _).trans (cg2_size _).symm) (cg2_one _) ?_
  simp only [List.set_cons_zero, List.set_cons_succ]
  refine L_end ?_
  intro w10 hw10
  refine seq_flow (by kernel_rfl) hw10 [] [(g3, 59, (cg2 (gAdd F2.inv (gMul F2.inv (k0) (num bs0)) (-(gMul F2.inv (k0) (num bs0)))))), (g2, 59, (cg2 (-(gMul F2.inv (k0) (num bs0))))), (g1, 59, (cg2 (gMul F2.inv (k0) (num bs0))))] 38 (by rfl) ?_
  refine fT (i := 0) (g := (gL g1 59 (cg2 (gMul F2.inv (k0) (num bs0))) 2 Tryd.underlying59 (hi_g2 _))) (h := ?_)
  refine fT (i := 1) (g := (gives_call (vl := [.agg (cg2 (gMul F2.inv (k0) (num bs0)))]) (by kernel_rfl) (by rfl) (fun w h => k2_on_t _ w (hG.keep h.below) (ing2 hk0 _).1))) (h := ?_)
  refine fT (i := 2) (u := (.bool true)) (g := (gives_value _ fun _ => by rfl)) (h := ?_)
  refine fG (i := 3) (dj := 54) (g := (gL g2 59 (cg2 (-(gMul F2.inv (k0) (num bs0)))) 1 Tryd.underlying59 (hi_g2 _))) (h := ?_)
  refine fG (i := 4) (dj := 54) (g := (gives_call (vl := [.agg (cg2 (-(gMul F2.inv (k0) (num bs0))))]) (by kernel_rfl) (by rfl) (fun w h => k2_on_t _ w (hG.keep h.below) (ec2.on_neg (ing2 hk0 _).1)))) (h := ?_)
  refine fT (i := 5) (u := (.bool true)) (g := (gives_value _ fun _ => by rfl)) (h := ?_)
  refine fT (i := 6) (u := (.bool true)) (g := (gives_value _ fun _ => by rfl)) (h := ?_)
  refine fG (i := 7) (dj := 58) (g := (gL g3 59 (cg2 (gAdd F2.inv (gMul F2.inv (k0) (num bs0)) (-(gMul F2.inv (k0) (num bs0))))) 0 Tryd.underlying59 (hi_g2 _))) (h := ?_)
  refine fG (i := 8) (dj := 58) (g := (gives_call (vl := [.agg (cg2 (gAdd F2.inv (gMul F2.inv (k0) (num bs0)) (-(gMul F2.inv (k0) (num bs0)))))]) (by kernel_rfl) (by rfl) (fun w h => k2_on_t _ w (hG.keep h.below) (on_gadd ec2 F2.inv_zero (ing2 hk0 _).1 (ec2.on_neg (ing2 hk0 _).1))))) (h := ?_)
  refine fT (i := 9) (u := (.bool true)) (g := (gives_value _ fun _ => by rfl)) (h := ?_)
  refine fT (i := 10) (u := (.bool true)) (g := (gives_value _ fun _ => by rfl)) (h := ?_)
  refine fG (i := 11) (dj := 62) (g := (gL g3 59 (cg2 (gAdd F2.inv (gMul F2.inv (k0) (num bs0)) (-(gMul F2.inv (k0) (num bs0))))) 0 Tryd.underlying59 (hi_g2 _))) (h := ?_)
  refine fG (i := 12) (dj := 62) (g := (gives_call (vl := [.agg (cg2 (gAdd F2.inv (gMul F2.inv (k0) (num bs0)) (-(gMul F2.inv (k0) (num bs0)))))]) (by kernel_rfl) (by rfl) (fun w h => k2_neg _ w (hG.keep h.below)))) (h := ?_)
  refine fG (i := 13) (dj := 62) (g := (gives_call (vl := [.agg (cg2 (-(gAdd F2.inv (gMul F2.inv (k0) (num bs0)) (-(gMul F2.inv (k0) (num bs0))))))]) (by kernel_rfl) (by rfl) (fun w h => k2_on_t _ w (hG.keep h.below) (ec2.on_neg (on_gadd ec2 F2.inv_zero (ing2 hk0 _).1 (ec2.on_neg (ing2 hk0 _).1)))))) (h := ?_)
  refine fT (i := 14) (u := (.bool true)) (g := (gives_value _ fun _ => by rfl)) (h := ?_)
  refine fT (i := 15) (u := (.bool true)) (g := (gives_value _ fun _ => by rfl)) (h := ?_)
  refine fG (i := 16) (dj := 67) (g := (gL g1 59 (cg2 (gMul F2.inv (k0) (num bs0))) 2 Tryd.underlying59 (hi_g2 _))) (h := ?_)
  refine fG (i := 17) (dj := 67) (g := (gL g2 59 (cg2 (-(gMul F2.inv (k0) (num bs0)))) 1 Tryd.underlying59 (hi_g2 _))) (h := ?_)
  refine fG (i := 18) (dj := 67) (g := (gL g3 59 (cg2 (gAdd F2.inv (gMul F2.inv (k0) (num bs0)) (-(gMul F2.inv (k0) (num bs0))))) 0 Tryd.underlying59 (hi_g2 _))) (h := ?_)
  refine fG (i := 19) (dj := 67) (g := (gives_call (vl := [.agg (cg2 (gAdd F2.inv (gMul F2.inv (k0) (num bs0)) (-(gMul F2.inv (k0) (num bs0)))))]) (by kernel_rfl) (by rfl) (fun w h => k2_neg _ w (hG.keep h.below)))) (h := ?_)
  refine fG (i := 20) (dj := 67) (g := (gives_call (vl := [.agg (cg2 (gMul F2.inv (k0) (num bs0))), .agg (cg2 (-(gMul F2.inv (k0) (num bs0)))), .agg (cg2 (-(gAdd F2.inv (gMul F2.inv (k0) (num bs0)) (-(gMul F2.inv (k0) (num bs0))))))]) (by kernel_rfl) (by rfl) (fun w h => k2_sides _ _ _ w (hG.keep h.below) (ing2 hk0 _).1 (ec2.on_neg (ing2 hk0 _).1) rfl))) (h := ?_)
  refine fT (i := 21) (u := (.bool true)) (g := (gives_value _ fun _ => by rfl)) (h := ?_)
  refine fT (i := 22) (u := (.bool true)) (g := (gives_value _ fun _ => by rfl)) (h := ?_)
  refine fG (i := 23) (dj := 74) (g := (gL g3 59 (cg2 (gAdd F2.inv (gMul F2.inv (k0) (num bs0)) (-(gMul F2.inv (k0) (num bs0))))) 0 Tryd.underlying59 (hi_g2 _))) (h := ?_)
  refine fG (i := 24) (dj := 74) (g := (gL g2 59 (cg2 (-(gMul F2.inv (k0) (num bs0)))) 1 Tryd.underlying59 (hi_g2 _))) (h := ?_)
  refine fG (i := 25) (dj := 74) (g := (gL g1 59 (cg2 (gMul F2.inv (k0) (num bs0))) 2 Tryd.underlying59 (hi_g2 _))) (h := ?_)
  refine fG (i := 26) (dj := 74) (g := (gives_call (vl := [.agg (cg2 (-(gMul F2.inv (k0) (num bs0)))), .agg (cg2 (gMul F2.inv (k0) (num bs0)))]) (by kernel_rfl) (by rfl) (fun w h => k2_gadd _ _ w (hG.keep h.below)))) (h := ?_)
  refine fG (i := 27) (dj := 74) (u := (.bool true)) (g := (gives_eql (cg2 (gAdd F2.inv (gMul F2.inv (k0) (num bs0)) (-(gMul F2.inv (k0) (num bs0))))) (cg2 (gAdd F2.inv (-(gMul F2.inv (k0) (num bs0))) (gMul F2.inv (k0) (num bs0)))) true (by rfl) (by rfl) (by kernel_rfl) (fun w => eq_g2_t (d := 9995) w (gadd_comm ec2 F2.inv_zero (ing2 hk0 _).1 (ec2.on_neg (ing2 hk0 _).1))))) (h := ?_)
  refine fT (i := 28) (u := (.bool true)) (g := (gives_value _ fun _ => by rfl)) (h := ?_)
  refine fT (i := 29) (u := (.bool true)) (g := (gives_value _ fun _ => by rfl)) (h := ?_)
  refine fG (i := 30) (dj := 81) (g := (gL g1 59 (cg2 (gMul F2.inv (k0) (num bs0))) 2 Tryd.underlying59 (hi_g2 _))) (h := ?_)
  refine fG (i := 31) (dj := 81) (g := (gL g2 59 (cg2 (-(gMul F2.inv (k0) (num bs0)))) 1 Tryd.underlying59 (hi_g2 _))) (h := ?_)
  refine fG (i := 34) (dj := 81) (g := (gL g3 59 (cg2 (gAdd F2.inv (gMul F2.inv (k0) (num bs0)) (-(gMul F2.inv (k0) (num bs0))))) 0 Tryd.underlying59 (hi_g2 _))) (h := ?_)
  refine flow_one 32 (by kernel_rfl) ?_
  refine F_buildP 2 24 (cg2 0) [(0, (cg2 (gMul F2.inv (k0) (num bs0)))), (1, (cg2 (-(gMul F2.inv (k0) (num bs0)))))] (joinA [(cg2 (gMul F2.inv (k0) (num bs0))), (cg2 (-(gMul F2.inv (k0) (num bs0))))]) (by rfl) (by rfl) (Want.some (dj := 81) (by rfl) (by rfl) (by rfl) (by rfl)) Tryd.underlying68 (zs_g2) (zr_g2_2) (cg2_size _) (by decide) (by decide) (by simp [fits, cg2_size]) (by rfl) (by rfl) (List.Sublist.refl _) ?_; intro g4
  refine flow_one 33 (by kernel_rfl) ?_
  refine F_val (vl := [.slice (some ⟨g4, 0, none⟩) 2 2]) (.agg (cg2 (gSum F2.inv [gMul F2.inv (k0) (num bs0), -(gMul F2.inv (k0) (num bs0))]))) (by rfl) (by rfl) (Want.some (dj := 81) (by rfl) (by rfl) (by rfl) (by rfl)) (by kernel_rfl) (by rfl) (List.Sublist.cons _ (List.Sublist.refl _)) (fun w h => k2_gsum _ _ _ [gMul F2.inv (k0) (num bs0), -(gMul F2.inv (k0) (num bs0))] w (hG.keep h.below) (pts_blk [gMul F2.inv (k0) (num bs0), -(gMul F2.inv (k0) (num bs0))] 2 rfl cg2_size (h.blk 0 (by rfl))) (by omega)) ?_
  refine fGs (i := 35) (dj := 81) (u := (.bool true)) (e := (List.Sublist.cons _ (List.Sublist.refl _))) (g := (gives_eql (cg2 (gSum F2.inv [gMul F2.inv (k0) (num bs0), -(gMul F2.inv (k0) (num bs0))])) (cg2 (gAdd F2.inv (gMul F2.inv (k0) (num bs0)) (-(gMul F2.inv (k0) (num bs0))))) true (by rfl) (by rfl) (by kernel_rfl) (fun w => eq_g2_t (d := 9995) w rfl))) (h := ?_)
  refine fTs (i := 36) (u := (.bool true)) (e := (List.Sublist.cons _ (List.Sublist.refl _))) (g := (gives_value _ fun _ => by rfl)) (h := ?_)
  refine fTs (i := 37) (u := (.bool true)) (e := (List.Sublist.cons _ (List.Sublist.refl _))) (g := (gives_value _ fun _ => by rfl)) (h := ?_)
  refine flow_done (by kernel_rfl) ?_
  intro w11 hw11
  refine wp_ret ?_
  change bodyPost _ _ _ Exit.ret _ _
  refine (ret_tmp (by rfl) (by rfl) (by rfl) ⟨rfl, hw11.below⟩)
set_option maxRecDepth 100000 in
set_option maxHeartbeats 4000000 in
theorem g2_adds_3 (A0 : Option Addr) (L0 C0 : Nat) (bs0 : List Int) (A1 : Option Addr) (L1 C1 : Nat) (bs1 : List Int) (n m how : Int) (v : World) (hG : Glo v) (hR : GloR v) (hH : GSh v) (hr0 : Reads v v.heap.size A0 L0 (bs0.map (Value.int .u8))) (ho0 : Oct bs0) (hr1 : Reads v v.heap.size A1 L1 (bs1.map (Value.int .u8))) (ho1 : Oct bs1) (hQ : GQp v) (hn : 0 ≤ n ∧ n < 65536) (hm : 0 ≤ m ∧ m < 65536) (hs0 : L0 ≤ 100) (hs1 : L1 ≤ 100) (hh : how % 8 = 3) : Rets 9 #[.slice A0 L0 C0, .slice A1 L1 C1, .int .u16 n, .int .u16 m, .int .i64 how] v (.bool true) := by
  obtain ⟨k0, hk0⟩ : ∃ k : Pt F2, k = gen2 := ⟨_, rfl⟩
  refine calls_fr5 Tryd.func9 rfl (by rfl : _ = 89) (by rfl) ?_
  have hw := Hbl.nil v
  refine seq_plain hw [0] (by rfl) ?_
  refine L_val (.bool false) (by rfl) (by rfl) (gives_value _ fun _ => by rfl) ?_
  refine L_end ?_
  intro w1 hw1
  refine wp_seq ?_
  refine seq_plain hw1 [0, 1] (by rfl) ?_
  refine L_val (.bool true) (by rfl) (by rfl) (gives_call (vl := []) (by kernel_rfl) (by rfl) (fun w h => k2_head w (hG.keep h.below))) ?_
  refine L_val (.bool false) (by rfl) (by rfl) (gives_value _ fun _ => by rfl) ?_
  refine L_end ?_
  intro w2 hw2
  refine wp_cond_false (fr_at _ _ (by rfl) _) ?_
  refine wp_skip ?_
  change Code.wp _ _ _ _ _
  refine wp_seq ?_
  refine seq_plain hw2 [0, 1, 2] (by rfl) ?_
  refine L_val (.slice A0 L0 C0) (by rfl) (by rfl) (gives_value _ fun _ => by rfl) ?_
  refine L_val (.slice A1 L1 C1) (by rfl) (by rfl) (gives_value _ fun _ => by rfl) ?_
  refine L_val (.bool false) (by rfl) (by rfl) (gives_call (vl := [.slice A0 L0 C0, .slice A1 L1 C1, .slice none 0 0]) (by kernel_rfl) (by rfl) (fun w h => k2_long_no _ _ _ _ _ _ none 0 0 w (by omega) (by omega) (by omega))) ?_
  refine L_end ?_
  intro w3 hw3
  refine wp_cond_false (fr_at _ _ (by rfl) _) ?_
  refine wp_skip ?_
  change Code.wp _ _ _ _ _
  refine seq_plain hw3 [0, 1, 2, 3, 4, 5] (by rfl) ?_
  refine L_val (.agg (cg2 (k0))) (by rfl) (by rfl) (gives_call (vl := []) (by kernel_rfl) (by rfl) (fun w h => by rw [hk0]; exact k2_gen w (hG.keep h.below))) ?_
  refine L_val (.slice A0 L0 C0) (by rfl) (by rfl) (gives_value _ fun _ => by rfl) ?_
  refine L_val (.agg (frc (num bs0))) (by rfl) (by rfl) (gives_call (vl := [.slice A0 L0 C0]) (by kernel_rfl) (by rfl) (fun w h => k2_scalar A0 L0 C0 bs0 w (hR.keep h.below) (hH.keep h.below) ((hr0.below h.below).more h.below.size) ho0 (by omega))) ?_
  refine L_val (.agg (cg2 (gMul F2.inv (k0) (num bs0)))) (by rfl) (by rfl) (gives_call (vl := [.agg (cg2 (k0)), .agg (frc (num bs0))]) (by kernel_rfl) (by rfl) (fun w h => k2_gmul _ _ w (hG.keep h.below) (hR.keep h.below))) ?_
  refine L_alloc _ (by rfl) (by rfl) z_g2 (cg2 (0 : Pt F2)) rfl ?_; intro g1
  refine L_store (t := 59) 0 g1 _ _ (by rfl) (by rfl) (by rfl) (by rfl) (by rfl) (hi_g2 _) ((cg2_size _).trans (cg2_size _).symm) (cg2_one _) ?_
  simp only [List.set_cons_zero, List.set_cons_succ]
  refine L_end ?_
  intro w4 hw4
  refine seq_plain hw4 [0, 1, 2, 3, 4, 5] (by rfl) ?_
  refine L_val (.agg (cg2 (k0))) (by rfl) (by rfl) (gives_call (vl := []) (by kernel_rfl) (by rfl) (fun w h => by rw [hk0]; exact k2_gen w (hG.keep h.below))) ?_
  refine L_val (.slice A1 L1 C1) (by rfl) (by rfl) (gives_value _ fun _ => by rfl) ?_
  refine L_val (.agg (frc (num bs1))) (by rfl) (by rfl) (gives_call (vl := [.slice A1 L1 C1]) (by kernel_rfl) (by rfl) (fun w h => k2_scalar A1 L1 C1 bs1 w (hR.keep h.below) (hH.keep h.below) ((hr1.below h.below).more h.below.size) ho1 (by omega))) ?_
  refine L_val (.agg (cg2 (gMul F2.inv (k0) (num bs1)))) (by rfl) (by rfl) (gives_call (vl := [.agg (cg2 (k0)), .agg (frc (num bs1))]) (by kernel_rfl) (by rfl) (fun w h => k2_gmul _ _ w (hG.keep h.below) (hR.keep h.below))) ?_
  refine L_alloc _ (by rfl) (by rfl) z_g2 (cg2 (0 : Pt F2)) rfl ?_; intro g2
  refine L_store (t := 59) 0 g2 _ _ (by rfl) (by rfl) (by rfl) (by rfl) (by rfl) (hi_g2 _) ((cg2_size _).trans (cg2_size _).symm) (cg2_one _) ?_
  simp only [List.set_cons_zero, List.set_cons_succ]
  refine L_end ?_
  intro w5 hw5
  refine wp_seq ?_
  refine seq_plain hw5 [0, 1] (by rfl) ?_
  refine L_val (.int .i64 how) (by rfl) (by rfl) (gives_value _ fun _ => by rfl) ?_
  refine L_val (.int .i64 (how % 8)) (by rfl) (by rfl) (gives_and (k := .i64) (how) 7 (how % 8) (by rfl) (by rfl) (and_7 how)) ?_
  refine L_end ?_
  intro w6 hw6
  refine wp_block ?_
  refine seq_plain hw6 [0, 1] (by rfl) ?_
  refine L_val (.bool false) (by rfl) (by rfl) (gives_ieq (k := .i64) (how % 8) (1) false (by rfl) (by rfl) (decide_eq_false (by omega))) ?_
  refine L_val (.bool false) (by rfl) (by rfl) (gives_value _ fun _ => by rfl) ?_
  refine L_end ?_
  intro w7 hw7
  refine wp_cond_false (fr_at _ _ (by rfl) _) ?_
  refine seq_plain hw7 [0, 1] (by rfl) ?_
  refine L_val (.bool false) (by rfl) (by rfl) (gives_ieq (k := .i64) (how % 8) (2) false (by rfl) (by rfl) (decide_eq_false (by omega))) ?_
  refine L_val (.bool false) (by rfl) (by rfl) (gives_value _ fun _ => by rfl) ?_
  refine L_end ?_
  intro w8 hw8
  refine wp_cond_false (fr_at _ _ (by rfl) _) ?_
  refine seq_plain hw8 [0, 1] (by rfl) ?_
  refine L_val (.bool true) (by rfl) (by rfl) (gives_ieq (k := .i64) (how % 8) (3) true (by rfl) (by rfl) (decide_eq_true (by omega))) ?_
  refine L_val (.bool true) (by rfl) (by rfl) (gives_value _ fun _ => by rfl) ?_
  refine L_end ?_
  intro w9 hw9
  refine wp_cond_true (fr_at _ _ (by rfl) _) ?_
  refine one_plain hw9 [0, 1, 2] (by rfl) ?_
  refine L_val (.int .u16 n) (by rfl) (by rfl) (gives_value _ fun _ => by rfl) ?_
  refine L_callE (A := Unit) (B := (Pt F2)) (vl := [.int .u16 n]) (fun a b => .agg (cg2 b)) (fun _ x => OnC (F2.sm 4 4) x) (by rfl) (by rfl) Want.none (by kernel_rfl) (by rfl) (fun w h => k2_wild n w (hG.keep h.below) (hQ.keep h.below) hn) ?_; intro u_1 x_1 hu_1
  refine L_store (t := 59) 1 g1 _ _ (by rfl) (by rfl) (by rfl) (by rfl) (by rfl) (hi_g2 _) ((cg2_size _).trans (cg2_size _).symm) (cg2_one _) ?_
  simp only [List.set_cons_zero, List.set_cons_succ]
  refine L_end ?_
  intro w10 hw10
  change Code.wp _ _ _ _ _
  refine seq_plain hw10 [0, 1, 2, 3, 4] (by rfl) ?_
  refine L_val (.agg (cg2 (x_1))) (by rfl) (by rfl) (gL g1 59 (cg2 (x_1)) 1 Tryd.underlying59 (hi_g2 _)) ?_
  refine L_val (.agg (cg2 (gMul F2.inv (k0) (num bs1)))) (by rfl) (by rfl) (gL g2 59 (cg2 (gMul F2.inv (k0) (num bs1))) 0 Tryd.underlying59 (hi_g2 _)) ?_
  refine L_val (.agg (cg2 (gAdd F2.inv (x_1) (gMul F2.inv (k0) (num bs1))))) (by rfl) (by rfl) (gives_call (vl := [.agg (cg2 (x_1)), .agg (cg2 (gMul F2.inv (k0) (num bs1)))]) (by kernel_rfl) (by rfl) (fun w h => k2_gadd _ _ w (hG.keep h.below))) ?_
  refine L_alloc _ (by rfl) (by rfl) z_g2 (cg2 (0 : Pt F2)) rfl ?_; intro g3
  refine L_store (t := 59) 0 g3 _ _ (by rfl) (by rfl) (by rfl) (by rfl) (by rfl) (hi_g2 _) ((cg2_size _).trans (cg2_size _).symm) (cg2_one _) ?_
  simp only [List.set_cons_zero, List.set_cons_succ]
  refine L_end ?_
  intro w11 hw11
  refine seq_flow (by kernel_rfl) hw11 [] [(g3, 59, (cg2 (gAdd F2.inv (x_1) (gMul F2.inv (k0) (num bs1))))), (g2, 59, (cg2 (gMul F2.inv (k0) (num bs1)))), (g1, 59, (cg2 (x_1)))] 38 (by rfl) ?_
  refine fT (i := 0) (g := (gL g1 59 (cg2 (x_1)) 2 Tryd.underlying59 (hi_g2 _))) (h := ?_)
  refine fT (i := 1) (g := (gives_call (vl := [.agg (cg2 (x_1))]) (by kernel_rfl) (by rfl) (fun w h => k2_on_t _ w (hG.keep h.below) hu_1))) (h := ?_)
  refine fT (i := 2) (u := (.bool true)) (g := (gives_value _ fun _ => by rfl)) (h := ?_)
  refine fG (i := 3) (dj := 54) (g := (gL g2 59 (cg2 (gMul F2.inv (k0) (num bs1))) 1 Tryd.underlying59 (hi_g2 _))) (h := ?_)
  refine fG (i := 4) (dj := 54) (g := (gives_call (vl := [.agg (cg2 (gMul F2.inv (k0) (num bs1)))]) (by kernel_rfl) (by rfl) (fun w h => k2_on_t _ w (hG.keep h.below) (ing2 hk0 _).1))) (h := ?_)
  refine fT (i := 5) (u := (.bool true)) (g := (gives_value _ fun _ => by rfl)) (h := ?_)
  refine fT (i := 6) (u := (.bool true)) (g := (gives_value _ fun _ => by rfl)) (h := ?_)
  refine fG (i := 7) (dj := 58) (g := (gL g3 59 (cg2 (gAdd F2.inv (x_1) (gMul F2.inv (k0) (num bs1)))) 0 Tryd.underlying59 (hi_g2 _))) (h := ?_)
  refine fG (i := 8) (dj := 58) (g := (gives_call (vl := [.agg (cg2 (gAdd F2.inv (x_1) (gMul F2.inv (k0) (num bs1))))]) (by kernel_rfl) (by rfl) (fun w h => k2_on_t _ w (hG.keep h.below) (on_gadd ec2 F2.inv_zero hu_1 (ing2 hk0 _).1)))) (h := ?_)
  refine fT (i := 9) (u := (.bool true)) (g := (gives_value _ fun _ => by rfl)) (h := ?_)
  refine fT (i := 10) (u := (.bool true)) (g := (gives_value _ fun _ => by rfl)) (h := ?_)
  refine fG (i := 11) (dj := 62) (g := (gL g3 59 (cg2 (gAdd F2.inv (x_1) (gMul F2.inv (k0) (num bs1)))) 0 Tryd.underlying59 (hi_g2 _))) (h := ?_)
  refine fG (i := 12) (dj := 62) (g := (gives_call (vl := [.agg (cg2 (gAdd F2.inv (x_1) (gMul F2.inv (k0) (num bs1))))]) (by kernel_rfl) (by rfl) (fun w h => k2_neg _ w (hG.keep h.below)))) (h := ?_)
  refine fG (i := 13) (dj := 62) (g := (gives_call (vl := [.agg (cg2 (-(gAdd F2.inv (x_1) (gMul F2.inv (k0) (num bs1)))))]) (by kernel_rfl) (by rfl) (fun w h => k2_on_t _ w (hG.keep h.below) (ec2.on_neg (on_gadd ec2 F2.inv_zero hu_1 (ing2 hk0 _).1))))) (h := ?_)
  refine fT (i := 14) (u := (.bool true)) (g := (gives_value _ fun _ => by rfl)) (h := ?_)
  refine fT (i := 15) (u := (.bool true)) (g := (gives_value _ fun _ => by rfl)) (h := ?_)
  refine fG (i := 16) (dj := 67) (g := (gL g1 59 (cg2 (x_1)) 2 Tryd.underlying59 (hi_g2 _))) (h := ?_)
  refine fG (i := 17) (dj := 67) (g := (gL g2 59 (cg2 (gMul F2.inv (k0) (num bs1))) 1 Tryd.underlying59 (hi_g2 _))) (h := ?_)
  refine fG (i := 18) (dj := 67) (g := (gL g3 59 (cg2 (gAdd F2.inv (x_1) (gMul F2.inv (k0) (num bs1)))) 0 Tryd.underlying59 (hi_g2 _))) (h := ?_)
  refine fG (i := 19) (dj := 67) (g := (gives_call (vl := [.agg (cg2 (gAdd F2.inv (x_1) (gMul F2.inv (k0) (num bs1))))]) (by kernel_rfl) (by rfl) (fun w h => k2_neg _ w (hG.keep h.below)))) (h := ?_)
  refine fG (i := 20) (dj := 67) (g := (gives_call (vl := [.agg (cg2 (x_1)), .agg (cg2 (gMul F2.inv (k0) (num bs1))), .agg (cg2 (-(gAdd F2.inv (x_1) (gMul F2.inv (k0) (num bs1)))))]) (by kernel_rfl) (by rfl) (fun w h => k2_sides _ _ _ w (hG.keep h.below) hu_1 (ing2 hk0 _).1 rfl))) (h := ?_)
  refine fT (i := 21) (u := (.bool true)) (g := (gives_value _ fun _ => by rfl)) (h := ?_)
  refine fT (i := 22) (u := (.bool true)) (g := (gives_value _ fun _ => by rfl)) (h := ?_)
  refine fG (i := 23) (dj := 74) (g := (gL g3 59 (cg2 (gAdd F2.inv (x_1) (gMul F2.inv (k0) (num bs1)))) 0 Tryd.underlying59 (hi_g2 _))) (h := ?_)
  refine fG (i := 24) (dj := 74) (g := (gL g2 59 (cg2 (gMul F2.inv (k0) (num bs1))) 1 Tryd.underlying59 (hi_g2 _))) (h := ?_)
  refine fG (i := 25) (dj := 74) (g := (gL g1 59 (cg2 (x_1)) 2 Tryd.underlying59 (hi_g2 _))) (h := ?_)
  refine fG (i := 26) (dj := 74) (g := (gives_call (vl := [.agg (cg2 (gMul F2.inv (k0) (num bs1))), .agg (cg2 (x_1))]) (by kernel_rfl) (by rfl) (fun w h => k2_gadd _ _ w (hG.keep h.below)))) (h := ?_)
  refine fG (i := 27) (dj := 74) (u := (.bool true)) (g := (gives_eql (cg2 (gAdd F2.inv (x_1) (gMul F2.inv (k0) (num bs1)))) (cg2 (gAdd F2.inv (gMul F2.inv (k0) (num bs1)) (x_1))) true (by rfl) (by rfl) (by kernel_rfl) (fun w => eq_g2_t (d := 9995) w (gadd_comm ec2 F2.inv_zero hu_1 (ing2 hk0 _).1)))) (h := ?_)
  refine fT (i := 28) (u := (.bool true)) (g := (gives_value _ fun _ => by rfl)) (h := ?_)
  refine fT (i := 29) (u := (.bool true)) (g := (gives_value _ fun _ => by rfl)) (h := ?_)
  refine fG (i := 30) (dj := 81) (g := (gL g1 59 (cg2 (x_1)) 2 Tryd.underlying59 (hi_g2 _))) (h := ?_)
  refine fG (i := 31) (dj := 81) (g := (gL g2 59 (cg2 (gMul F2.inv (k0) (num bs1))) 1 Tryd.underlying59 (hi_g2 _))) (h := ?_)
  refine fG (i := 34) (dj := 81) (g := (gL g3 59 (cg2 (gAdd F2.inv (x_1) (gMul F2.inv (k0) (num bs1)))) 0 Tryd.underlying59 (hi_g2 _))) (h := ?_)
  refine flow_one 32 (by kernel_rfl) ?_
  refine F_buildP 2 24 (cg2 0) [(0, (cg2 (x_1))), (1, (cg2 (gMul F2.inv (k0) (num bs1))))] (joinA [(cg2 (x_1)), (cg2 (gMul F2.inv (k0) (num bs1)))]) (by rfl) (by rfl) (Want.some (dj := 81) (by rfl) (by rfl) (by rfl) (by rfl)) Tryd.underlying68 (zs_g2) (zr_g2_2) (cg2_size _) (by decide) (by decide) (by simp [fits, cg2_size]) (by rfl) (by rfl) (List.Sublist.refl _) ?_; intro g4
  refine flow_one 33 (by kernel_rfl) ?_
  refine F_val (vl := [.slice (some ⟨g4, 0, none⟩) 2 2]) (.agg (cg2 (gSum F2.inv [x_1, gMul F2.inv (k0) (num bs1)]))) (by rfl) (by rfl) (Want.some (dj := 81) (by rfl) (by rfl) (by rfl) (by rfl)) (by kernel_rfl) (by rfl) (List.Sublist.cons _ (List.Sublist.refl _)) (fun w h => k2_gsum _ _ _ [x_1, gMul F2.inv (k0) (num bs1)] w (hG.keep h.below) (pts_blk [x_1, gMul F2.inv (k0) (num bs1)] 2 rfl cg2_size (h.blk 0 (by rfl))) (by omega)) ?_
  refine fGs (i := 35) (dj := 81) (u := (.bool true)) (e := (List.Sublist.cons _ (List.Sublist.refl _))) (g := (gives_eql (cg2 (gSum F2.inv [x_1, gMul F2.inv (k0) (num bs1)])) (cg2 (gAdd F2.inv (x_1) (gMul F2.inv (k0) (num bs1)))) true (by rfl) (by rfl) (by kernel_rfl) (fun w => eq_g2_t (d := 9995) w rfl))) (h := ?_)
  refine fTs (i := 36) (u := (.bool true)) (e := (List.Sublist.cons _ (List.Sublist.refl _))) (g := (gives_value _ fun _ => by rfl)) (h := ?_)
  refine fTs (i := 37) (u := (.bool true)) (e := (List.Sublist.cons _ (List.Sublist.refl _))) (g := (gives_value _ fun _ => by rfl)) (h := ?_)
  refine flow_done (by kernel_rfl) ?_
  intro w12 hw12
  refine wp_ret ?_
  change bodyPost _ _ _ Exit.ret _ _
  refine (ret_tmp (by rfl) (by rfl) (by rfl) ⟨rfl, hw12.below⟩)
set_option maxRecDepth 100000 in
set_option maxHeartbeats 4000000 in
theorem g2_adds_4 (A0 : Option Addr) (L0 C0 : Nat) (bs0 : List Int) (A1 : Option Addr) (L1 C1 : Nat) (bs1 : List Int) (n m how : Int) (v : World) (hG : Glo v) (hR : GloR v) (hH : GSh v) (hr0 : Reads v v.heap.size A0 L0 (bs0.map (Value.int .u8))) (ho0 : Oct bs0) (hr1 : Reads v v.heap.size A1 L1 (bs1.map (Value.int .u8))) (ho1 : Oct bs1) (hQ : GQp v) (hn : 0 ≤ n ∧ n < 65536) (hm : 0 ≤ m ∧ m < 65536) (hs0 : L0 ≤ 100) (hs1 : L1 ≤ 100) (hh : how % 8 = 4) : Rets 9 #[.slice A0 L0 C0, .slice A1 L1 C1, .int .u16 n, .int .u16 m, .int .i64 how] v (.bool true) := by
  obtain ⟨k0, hk0⟩ : ∃ k : Pt F2, k = gen2 := ⟨_, rfl⟩
  refine calls_fr5 Tryd.func9 rfl (by rfl : _ = 89) (by rfl) ?_
  have hw := Hbl.nil v
  refine seq_plain hw [0] (by rfl) ?_
  refine L_val (.bool false) (by rfl) (by rfl) (gives_value _ fun _ => by rfl) ?_
  refine L_end ?_
  intro w1 hw1
  refine wp_seq ?_
  refine seq_plain hw1 [0, 1] (by rfl) ?_
  refine L_val (.bool true) (by rfl) (by rfl) (gives_call (vl := []) (by kernel_rfl) (by rfl) (fun w h => k2_head w (hG.keep h.below))) ?_
  refine L_val (.bool false) (by rfl) (by rfl) (gives_value _ fun _ => by rfl) ?_
  refine L_end ?_
  intro w2 hw2
  refine wp_cond_false (fr_at _ _ (by rfl) _) ?_
  refine wp_skip ?_
  change Code.wp _ _ _ _ _
  refine wp_seq ?_
  refine seq_plain hw2 [0, 1, 2] (by rfl) ?_
  refine L_val (.slice A0 L0 C0) (by rfl) (by rfl) (gives_value _ fun _ => by rfl) ?_
  refine L_val (.slice A1 L1 C1) (by rfl) (by rfl) (gives_value _ fun _ => by rfl) ?_
  refine L_val (.bool false) (by rfl) (by rfl) (gives_call (vl := [.slice A0 L0 C0, .slice A1 L1 C1, .slice none 0 0]) (by kernel_rfl) (by rfl) (fun w h => k2_long_no _ _ _ _ _ _ none 0 0 w (by omega) (by omega) (by omega))) ?_
  refine L_end ?_
  intro w3 hw3
  refine wp_cond_false (fr_at _ _ (by rfl) _) ?_
  refine wp_skip ?_
  change Code.wp _ _ _ _ _
  refine seq_plain hw3 [0, 1, 2, 3, 4, 5] (by rfl) ?_
  refine L_val (.agg (cg2 (k0))) (by rfl) (by rfl) (gives_call (vl := []) (by kernel_rfl) (by rfl) (fun w h => by rw [hk0]; exact k2_gen w (hG.keep h.below))) ?_
  refine L_val (.slice A0 L0 C0) (by rfl) (by rfl) (gives_value _ fun _ => by rfl) ?_
  refine L_val (.agg (frc (num bs0))) (by rfl) (by rfl) (gives_call (vl := [.slice A0 L0 C0]) (by kernel_rfl) (by rfl) (fun w h => k2_scalar A0 L0 C0 bs0 w (hR.keep h.below) (hH.keep h.below) ((hr0.below h.below).more h.below.size) ho0 (by omega))) ?_
  refine L_val (.agg (cg2 (gMul F2.inv (k0) (num bs0)))) (by rfl) (by rfl) (gives_call (vl := [.agg (cg2 (k0)), .agg (frc (num bs0))]) (by kernel_rfl) (by rfl) (fun w h => k2_gmul _ _ w (hG.keep h.below) (hR.keep h.below))) ?_
  refine L_alloc _ (by rfl) (by rfl) z_g2 (cg2 (0 : Pt F2)) rfl ?_; intro g1
  refine L_store (t := 59) 0 g1 _ _ (by rfl) (by rfl) (by rfl) (by rfl) (by rfl) (hi_g2 _) ((cg2_size _).trans (cg2_size _).symm) (cg2_one _) ?_
  simp only [List.set_cons_zero, List.set_cons_succ]
  refine L_end ?_
  intro w4 hw4
  refine seq_plain hw4 [0, 1, 2, 3, 4, 5] (by rfl) ?_
  refine L_val (.agg (cg2 (k0))) (by rfl) (by rfl) (gives_call (vl := []) (by kernel_rfl) (by rfl) (fun w h => by rw [hk0]; exact k2_gen w (hG.keep h.below))) ?_
  refine L_val (.slice A1 L1 C1) (by rfl) (by rfl) (gives_value _ fun _ => by rfl) ?_
  refine L_val (.agg (frc (num bs1))) (by rfl) (by rfl) (gives_call (vl := [.slice A1 L1 C1]) (by kernel_rfl) (by rfl) (fun w h => k2_scalar A1 L1 C1 bs1 w (hR.keep h.below) (hH.keep h.below) ((hr1.below h.below).more h.below.size) ho1 (by omega))) ?_
  refine L_val (.agg (cg2 (gMul F2.inv (k0) (num bs1)))) (by rfl) (by rfl) (gives_call (vl := [.agg (cg2 (k0)), .agg (frc (num bs1))]) (by kernel_rfl) (by rfl) (fun w h => k2_gmul _ _ w (hG.keep h.below) (hR.keep h.below))) ?_
  refine L_alloc _ (by rfl) (by rfl) z_g2 (cg2 (0 : Pt F2)) rfl ?_; intro g2
  refine L_store (t := 59) 0 g2 _ _ (by rfl) (by rfl) (by rfl) (by rfl) (by rfl) (hi_g2 _) ((cg2_size _).trans (cg2_size _).symm) (cg2_one _) ?_
  simp only [List.set_cons_zero, List.set_cons_succ]
  refine L_end ?_
  intro w5 hw5
  refine wp_seq ?_
  refine seq_plain hw5 [0, 1] (by rfl) ?_
  refine L_val (.int .i64 how) (by rfl) (by rfl) (gives_value _ fun _ => by rfl) ?_
  refine L_val (.int .i64 (how % 8)) (by rfl) (by rfl) (gives_and (k := .i64) (how) 7 (how % 8) (by rfl) (by rfl) (and_7 how)) ?_
  refine L_end ?_
  intro w6 hw6
  refine wp_block ?_
  refine seq_plain hw6 [0, 1] (by rfl) ?_
  refine L_val (.bool false) (by rfl) (by rfl) (gives_ieq (k := .i64) (how % 8) (1) false (by rfl) (by rfl) (decide_eq_false (by omega))) ?_
  refine L_val (.bool false) (by rfl) (by rfl) (gives_value _ fun _ => by rfl) ?_
  refine L_end ?_
  intro w7 hw7
  refine wp_cond_false (fr_at _ _ (by rfl) _) ?_
  refine seq_plain hw7 [0, 1] (by rfl) ?_
  refine L_val (.bool false) (by rfl) (by rfl) (gives_ieq (k := .i64) (how % 8) (2) false (by rfl) (by rfl) (decide_eq_false (by omega))) ?_
  refine L_val (.bool false) (by rfl) (by rfl) (gives_value _ fun _ => by rfl) ?_
  refine L_end ?_
  intro w8 hw8
  refine wp_cond_false (fr_at _ _ (by rfl) _) ?_
  refine seq_plain hw8 [0, 1] (by rfl) ?_
  refine L_val (.bool false) (by rfl) (by rfl) (gives_ieq (k := .i64) (how % 8) (3) false (by rfl) (by rfl) (decide_eq_false (by omega))) ?_
  refine L_val (.bool false) (by rfl) (by rfl) (gives_value _ fun _ => by rfl) ?_
  refine L_end ?_
  intro w9 hw9
  refine wp_cond_false (fr_at _ _ (by rfl) _) ?_
  refine seq_plain hw9 [0, 1] (by rfl) ?_
  refine L_val (.bool true) (by rfl) (by rfl) (gives_ieq (k := .i64) (how % 8) (4) true (by rfl) (by rfl) (decide_eq_true (by omega))) ?_
  refine L_val (.bool true) (by rfl) (by rfl) (gives_value _ fun _ => by rfl) ?_
  refine L_end ?_
  intro w10 hw10
  refine wp_cond_true (fr_at _ _ (by rfl) _) ?_
  refine seq_plain hw10 [0, 1, 2] (by rfl) ?_
  refine L_val (.int .u16 n) (by rfl) (by rfl) (gives_value _ fun _ => by rfl) ?_
  refine L_callE (A := Unit) (B := (Pt F2)) (vl := [.int .u16 n]) (fun a b => .agg (cg2 b)) (fun _ x => OnC (F2.sm 4 4) x) (by rfl) (by rfl) Want.none (by kernel_rfl) (by rfl) (fun w h => k2_wild n w (hG.keep h.below) (hQ.keep h.below) hn) ?_; intro u_1 x_1 hu_1
  refine L_store (t := 59) 1 g1 _ _ (by rfl) (by rfl) (by rfl) (by rfl) (by rfl) (hi_g2 _) ((cg2_size _).trans (cg2_size _).symm) (cg2_one _) ?_
  simp only [List.set_cons_zero, List.set_cons_succ]
  refine L_end ?_
  intro w11 hw11
  refine one_plain hw11 [0, 1, 2] (by rfl) ?_
  refine L_val (.int .u16 m) (by rfl) (by rfl) (gives_value _ fun _ => by rfl) ?_
  refine L_callE (A := Unit) (B := (Pt F2)) (vl := [.int .u16 m]) (fun a b => .agg (cg2 b)) (fun _ x => OnC (F2.sm 4 4) x) (by rfl) (by rfl) Want.none (by kernel_rfl) (by rfl) (fun w h => k2_wild m w (hG.keep h.below) (hQ.keep h.below) hm) ?_; intro u_2 x_2 hu_2
  refine L_store (t := 59) 0 g2 _ _ (by rfl) (by rfl) (by rfl) (by rfl) (by rfl) (hi_g2 _) ((cg2_size _).trans (cg2_size _).symm) (cg2_one _) ?_
  simp only [List.set_cons_zero, List.set_cons_succ]
  refine L_end ?_
  intro w12 hw12
  change Code.wp _ _ _ _ _
  refine seq_plain hw12 [0, 1, 2, 3, 4] (by rfl) ?_
  refine L_val (.agg (cg2 (x_1))) (by rfl) (by rfl) (gL g1 59 (cg2 (x_1)) 1 Tryd.underlying59 (hi_g2 _)) ?_
  refine L_val (.agg (cg2 (x_2))) (by rfl) (by rfl) (gL g2 59 (cg2 (x_2)) 0 Tryd.underlying59 (hi_g2 _)) ?_
  refine L_val (.agg (cg2 (gAdd F2.inv (x_1) (x_2)))) (by rfl) (by rfl) (gives_call (vl := [.agg (cg2 (x_1)), .agg (cg2 (x_2))]) (by kernel_rfl) (by rfl) (fun w h => k2_gadd _ _ w (hG.keep h.below))) ?_
  refine L_alloc _ (by rfl) (by rfl) z_g2 (cg2 (0 : Pt F2)) rfl ?_; intro g3
  refine L_store (t := 59) 0 g3 _ _ (by rfl) (by rfl) (by rfl) (by rfl) (by rfl) (hi_g2 _) ((cg2_size _).trans (cg2_size _).symm) (cg2_one _) ?_
  simp only [List.set_cons_zero, List.set_cons_succ]
  refine L_end ?_
  intro w13 hw13
  refine seq_flow (by kernel_rfl) hw13 [] [(g3, 59, (cg2 (gAdd F2.inv (x_1) (x_2)))), (g2, 59, (cg2 (x_2))), (g1, 59, (cg2 (x_1)))] 38 (by rfl) ?_
  refine fT (i := 0) (g := (gL g1 59 (cg2 (x_1)) 2 Tryd.underlying59 (hi_g2 _))) (h := ?_)
  refine fT (i := 1) (g := (gives_call (vl := [.agg (cg2 (x_1))]) (by kernel_rfl) (by rfl) (fun w h => k2_on_t _ w (hG.keep h.below) hu_1))) (h := ?_)
  refine fT (i := 2) (u := (.bool true)) (g := (gives_value _ fun _ => by rfl)) (h := ?_)
  refine fG (i := 3) (dj := 54) (g := (gL g2 59 (cg2 (x_2)) 1 Tryd.underlying59 (hi_g2 _))) (h := ?_)
  refine fG (i := 4) (dj := 54) (g := (gives_call (vl := [.agg (cg2 (x_2))]) (by kernel_rfl) (by rfl) (fun w h => k2_on_t _ w (hG.keep h.below) hu_2))) (h := ?_)
  refine fT (i := 5) (u := (.bool true)) (g := (gives_value _ fun _ => by rfl)) (h := ?_)
  refine fT (i := 6) (u := (.bool true)) (g := (gives_value _ fun _ => by rfl)) (h := ?_)
  refine fG (i := 7) (dj := 58) (g := (gL g3 59 (cg2 (gAdd F2.inv (x_1) (x_2))) 0 Tryd.underlying59 (hi_g2 _))) (h := ?_)
  refine fG (i := 8) (dj := 58) (g := (gives_call (vl := [.agg (cg2 (gAdd F2.inv (x_1) (x_2)))]) (by kernel_rfl) (by rfl) (fun w h => k2_on_t _ w (hG.keep h.below) (on_gadd ec2 F2.inv_zero hu_1 hu_2)))) (h := ?_)
  refine fT (i := 9) (u := (.bool true)) (g := (gives_value _ fun _ => by rfl)) (h := ?_)
  refine fT (i := 10) (u := (.bool true)) (g := (gives_value _ fun _ => by rfl)) (h := ?_)
  refine fG (i := 11) (dj := 62) (g := (gL g3 59 (cg2 (gAdd F2.inv (x_1) (x_2))) 0 Tryd.underlying59 (hi_g2 _))) (h := ?_)
  refine fG (i := 12) (dj := 62) (g := (gives_call (vl := [.agg (cg2 (gAdd F2.inv (x_1) (x_2)))]) (by kernel_rfl) (by rfl) (fun w h => k2_neg _ w (hG.keep h.below)))) (h := ?_)
  refine fG (i := 13) (dj := 62) (g := (gives_call (vl := [.agg (cg2 (-(gAdd F2.inv (x_1) (x_2))))]) (by kernel_rfl) (by rfl) (fun w h => k2_on_t _ w (hG.keep h.below) (ec2.on_neg (on_gadd ec2 F2.inv_zero hu_1 hu_2))))) (h := ?_)
  refine fT (i := 14) (u := (.bool true)) (g := (gives_value _ fun _ => by rfl)) (h := ?_)
  refine fT (i := 15) (u := (.bool true)) (g := (gives_value _ fun _ => by rfl)) (h := ?_)
  refine fG (i := 16) (dj := 67) (g := (gL g1 59 (cg2 (x_1)) 2 Tryd.underlying59 (hi_g2 _))) (h := ?_)
  refine fG (i := 17) (dj := 67) (g := (gL g2 59 (cg2 (x_2)) 1 Tryd.underlying59 (hi_g2 _))) (h := ?_)
  refine fG (i := 18) (dj := 67) (g := (gL g3 59 (cg2 (gAdd F2.inv (x_1) (x_2))) 0 Tryd.underlying59 (hi_g2 _))) (h := ?_)
  refine fG (i := 19) (dj := 67) (g := (gives_call (vl := [.agg (cg2 (gAdd F2.inv (x_1) (x_2)))]) (by kernel_rfl) (by rfl) (fun w h => k2_neg _ w (hG.keep h.below)))) (h := ?_)
  refine fG (i := 20) (dj := 67) (g := (gives_call (vl := [.agg (cg2 (x_1)), .agg (cg2 (x_2)), .agg (cg2 (-(gAdd F2.inv (x_1) (x_2))))]) (by kernel_rfl) (by rfl) (fun w h => k2_sides _ _ _ w (hG.keep h.below) hu_1 hu_2 rfl))) (h := ?_)
  refine fT (i := 21) (u := (.bool true)) (g := (gives_value _ fun _ => by rfl)) (h := ?_)
  refine fT (i := 22) (u := (.bool true)) (g := (gives_value _ fun _ => by rfl)) (h := ?_)
  refine fG (i := 23) (dj := 74) (g := (gL g3 59 (cg2 (gAdd F2.inv (x_1) (x_2))) 0 Tryd.underlying59 (hi_g2 _))) (h := ?_)
  refine fG (i := 24) (dj := 74) (g := (gL g2 59 (cg2 (x_2)) 1 Tryd.underlying59 (hi_g2 _))) (h := ?_)
  refine fG (i := 25) (dj := 74) (g := (gL g1 59 (cg2 (x_1)) 2 Tryd.underlying59 (hi_g2 _))) (h := ?_)
  refine fG (i := 26) (dj := 74) (g := (gives_call (vl := [.agg (cg2 (x_2)), .agg (cg2 (x_1))]) (by kernel_rfl) (by rfl) (fun w h => k2_gadd _ _ w (hG.keep h.below)))) (h := ?_)
  refine fG (i := 27) (dj := 74) (u := (.bool true)) (g := (gives_eql (cg2 (gAdd F2.inv (x_1) (x_2))) (cg2 (gAdd F2.inv (x_2) (x_1))) true (by rfl) (by rfl) (by kernel_rfl) (fun w => eq_g2_t (d := 9995) w (gadd_comm ec2 F2.inv_zero hu_1 hu_2)))) (h := ?_)
  refine fT (i := 28) (u := (.bool true)) (g := (gives_value _ fun _ => by rfl)) (h := ?_)
  refine fT (i := 29) (u := (.bool true)) (g := (gives_value _ fun _ => by rfl)) (h := ?_)
  refine fG (i := 30) (dj := 81) (g := (gL g1 59 (cg2 (x_1)) 2 Tryd.underlying59 (hi_g2 _))) (h := ?_)
  refine fG (i := 31) (dj := 81) (g := (gL g2 59 (cg2 (x_2)) 1 Tryd.underlying59 (hi_g2 _))) (h := ?_)
  refine fG (i := 34) (dj := 81) (g := (gL g3 59 (cg2 (gAdd F2.inv (x_1) (x_2))) 0 Tryd.underlying59 (hi_g2 _))) (h := ?_)
  refine flow_one 32 (by kernel_rfl) ?_
  refine F_buildP 2 24 (cg2 0) [(0, (cg2 (x_1))), (1, (cg2 (x_2)))] (joinA [(cg2 (x_1)), (cg2 (x_2))]) (by rfl) (by rfl) (Want.some (dj := 81) (by rfl) (by rfl) (by rfl) (by rfl)) Tryd.underlying68 (zs_g2) (zr_g2_2) (cg2_size _) (by decide) (by decide) (by simp [fits, cg2_size]) (by rfl) (by rfl) (List.Sublist.refl _) ?_; intro g4
  refine flow_one 33 (by kernel_rfl) ?_
  refine F_val (vl := [.slice (some ⟨g4, 0, none⟩) 2 2]) (.agg (cg2 (gSum F2.inv [x_1, x_2]))) (by rfl) (by rfl) (Want.some (dj := 81) (by rfl) (by rfl) (by rfl) (by rfl)) (by kernel_rfl) (by rfl) (List.Sublist.cons _ (List.Sublist.refl _)) (fun w h => k2_gsum _ _ _ [x_1, x_2] w (hG.keep h.below) (pts_blk [x_1, x_2] 2 rfl cg2_size (h.blk 0 (by rfl))) (by omega)) ?_
  refine fGs (i := 35) (dj := 81) (u := (.bool true)) (e := (List.Sublist.cons _ (List.Sublist.refl _))) (g := (gives_eql (cg2 (gSum F2.inv [x_1, x_2])) (cg2 (gAdd F2.inv (x_1) (x_2))) true (by rfl) (by rfl) (by kernel_rfl) (fun w => eq_g2_t (d := 9995) w rfl))) (h := ?_)
  refine fTs (i := 36) (u := (.bool true)) (e := (List.Sublist.cons _ (List.Sublist.refl _))) (g := (gives_value _ fun _ => by rfl)) (h := ?_)
  refine fTs (i := 37) (u := (.bool true)) (e := (List.Sublist.cons _ (List.Sublist.refl _))) (g := (gives_value _ fun _ => by rfl)) (h := ?_)
  refine flow_done (by kernel_rfl) ?_
  intro w14 hw14
  refine wp_ret ?_
  change bodyPost _ _ _ Exit.ret _ _
  refine (ret_tmp (by rfl) (by rfl) (by rfl) ⟨rfl, hw14.below⟩)
set_option maxRecDepth 100000 in
set_option maxHeartbeats 4000000 in
theorem g2_adds_5 (A0 : Option Addr) (L0 C0 : Nat) (bs0 : List Int) (A1 : Option Addr) (L1 C1 : Nat) (bs1 : List Int) (n m how : Int) (v : World) (hG : Glo v) (hR : GloR v) (hH : GSh v) (hr0 : Reads v v.heap.size A0 L0 (bs0.map (Value.int .u8))) (ho0 : Oct bs0) (hr1 : Reads v v.heap.size A1 L1 (bs1.map (Value.int .u8))) (ho1 : Oct bs1) (hQ : GQp v) (hn : 0 ≤ n ∧ n < 65536) (hm : 0 ≤ m ∧ m < 65536) (hs0 : L0 ≤ 100) (hs1 : L1 ≤ 100) (hh : how % 8 = 5) : Rets 9 #[.slice A0 L0 C0, .slice A1 L1 C1, .int .u16 n, .int .u16 m, .int .i64 how] v (.bool true) := by
  obtain ⟨k0, hk0⟩ : ∃ k : Pt F2, k = gen2 := ⟨_, rfl⟩
  refine calls_fr5 Tryd.func9 rfl (by rfl : _ = 89) (by rfl) ?_
  have hw := Hbl.nil v
  refine seq_plain hw [0] (by rfl) ?_
  refine L_val (.bool false) (by rfl) (by rfl) (gives_value _ fun _ => by rfl) ?_
  refine L_end ?_
  intro w1 hw1
  refine wp_seq ?_
  refine seq_plain hw1 [0, 1] (by rfl) ?_
  refine L_val (.bool true) (by rfl) (by rfl) (gives_call (vl := []) (by kernel_rfl) (by rfl) (fun w h => k2_head w (hG.keep h.below))) ?_
  refine L_val (.bool false) (by rfl) (by rfl) (gives_value _ fun _ => by rfl) ?_
  refine L_end ?_
  intro w2 hw2
  refine wp_cond_false (fr_at _ _ (by rfl) _) ?_
  refine wp_skip ?_
  change Code.wp _ _ _ _ _
  refine wp_seq ?_
  refine seq_plain hw2 [0, 1, 2] (by rfl) ?_
  refine L_val (.slice A0 L0 C0) (by rfl) (by rfl) (gives_value _ fun _ => by rfl) ?_
  refine L_val (.slice A1 L1 C1) (by rfl) (by rfl) (gives_value _ fun _ => by rfl) ?_
  refine L_val (.bool false) (by rfl) (by rfl) (gives_call (vl := [.slice A0 L0 C0, .slice A1 L1 C1, .slice none 0 0]) (by kernel_rfl) (by rfl) (fun w h => k2_long_no _ _ _ _ _ _ none 0 0 w (by omega) (by omega) (by omega))) ?_
  refine L_end ?_
  intro w3 hw3
  refine wp_cond_false (fr_at _ _ (by rfl) _) ?_
  refine wp_skip ?_
  change Code.wp _ _ _ _ _
  refine seq_plain hw3 [0, 1, 2, 3, 4, 5] (by rfl) ?_
  refine L_val (.agg (cg2 (k0))) (by rfl) (by rfl) (gives_call (vl := []) (by kernel_rfl) (by rfl) (fun w h => by rw [hk0]; exact k2_gen w (hG.keep h.below))) ?_
  refine L_val (.slice A0 L0 C0) (by rfl) (by rfl) (gives_value _ fun _ => by rfl) ?_
  refine L_val (.agg (frc (num bs0))) (by rfl) (by rfl) (gives_call (vl := [.slice A0 L0 C0]) (by kernel_rfl) (by rfl) (fun w h => k2_scalar A0 L0 C0 bs0 w (hR.keep h.below) (hH.keep h.below) ((hr0.below h.below).more h.below.size) ho0 (by omega))) ?_
  refine L_val (.agg (cg2 (gMul F2.inv (k0) (num bs0)))) (by rfl) (by rfl) (gives_call (vl := [.agg (cg2 (k0)), .agg (frc (num bs0))]) (by kernel_rfl) (by rfl) (fun w h => k2_gmul _ _ w (hG.keep h.below) (hR.keep h.below))) ?_
  refine L_alloc _ (by rfl) (by rfl) z_g2 (cg2 (0 : Pt F2)) rfl ?_; intro g1
  refine L_store (t := 59) 0 g1 _ _ (by rfl) (by rfl) (by rfl) (by rfl) (by rfl) (hi_g2 _) ((cg2_size _).trans (cg2_size _).symm) (cg2_one _) ?_
  simp only [List.set_cons_zero, List.set_cons_succ]
  refine L_end ?_
  intro w4 hw4
  refine seq_plain hw4 [0, 1, 2, 3, 4, 5] (by rfl) ?_
  refine L_val (.agg (cg2 (k0))) (by rfl) (by rfl) (gives_call (vl := []) (by kernel_rfl) (by rfl) (fun w h => by rw [hk0]; exact k2_gen w (hG.keep h.below))) ?_
  refine L_val (.slice A1 L1 C1) (by rfl) (by rfl) (gives_value _ fun _ => by rfl) ?_
  refine L_val (.agg (frc (num bs1))) (by rfl) (by rfl) (gives_call (vl := [.slice A1 L1 C1]) (by kernel_rfl) (by rfl) (fun w h => k2_scalar A1 L1 C1 bs1 w (hR.keep h.below) (hH.keep h.below) ((hr1.below h.below).more h.below.size) ho1 (by omega))) ?_
  refine L_val (.agg (cg2 (gMul F2.inv (k0) (num bs1)))) (by rfl) (by rfl) (gives_call (vl := [.agg (cg2 (k0)), .agg (frc (num bs1))]) (by kernel_rfl) (by rfl) (fun w h => k2_gmul _ _ w (hG.keep h.below) (hR.keep h.below))) ?_
  refine L_alloc _ (by rfl) (by rfl) z_g2 (cg2 (0 : Pt F2)) rfl ?_; intro g2
  refine L_store (t := 59) 0 g2 _ _ (by rfl) (by rfl) (by rfl) (by rfl) (by rfl) (hi_g2 _) ((cg2_size _).trans (cg2_size _).symm) (cg2_one _) ?_
  simp only [List.set_cons_zero, List.set_cons_succ]
  refine L_end ?_
  intro w5 hw5
  refine wp_seq ?_
  refine seq_plain hw5 [0, 1] (by rfl) ?_
  refine L_val (.int .i64 how) (by rfl) (by rfl) (gives_value _ fun _ => by rfl) ?_
  refine L_val (.int .i64 (how % 8)) (by rfl) (by rfl) (gives_and (k := .i64) (how) 7 (how % 8) (by rfl) (by rfl) (and_7 how)) ?_
  refine L_end ?_
  intro w6 hw6
  refine wp_block ?_
  refine seq_plain hw6 [0, 1] (by rfl) ?_
  refine L_val (.bool false) (by rfl) (by rfl) (gives_ieq (k := .i64) (how % 8) (1) false (by rfl) (by rfl) (decide_eq_false (by omega))) ?_
  refine L_val (.bool false) (by rfl) (by rfl) (gives_value _ fun _ => by rfl) ?_
  refine L_end ?_
  intro w7 hw7
  refine wp_cond_false (fr_at _ _ (by rfl) _) ?_
  refine seq_plain hw7 [0, 1] (by rfl) ?_
  refine L_val (.bool false) (by rfl) (by rfl) (gives_ieq (k := .i64) (how % 8) (2) false (by rfl) (by rfl) (decide_eq_false (by omega))) ?_
  refine L_val (.bool false) (by rfl) (by rfl) (gives_value _ fun _ => by rfl) ?_
  refine L_end ?_
  intro w8 hw8
  refine wp_cond_false (fr_at _ _ (by rfl) _) ?_
  refine seq_plain hw8 [0, 1] (by rfl) ?_
  refine L_val (.bool false) (by rfl) (by rfl) (gives_ieq (k := .i64) (how % 8) (3) false (by rfl) (by rfl) (decide_eq_false (by omega))) ?_
  refine L_val (.bool false) (by rfl) (by rfl) (gives_value _ fun _ => by rfl) ?_
  refine L_end ?_
  intro w9 hw9
  refine wp_cond_false (fr_at _ _ (by rfl) _) ?_
  refine seq_plain hw9 [0, 1] (by rfl) ?_
  refine L_val (.bool false) (by rfl) (by rfl) (gives_ieq (k := .i64) (how % 8) (4) false (by rfl) (by rfl) (decide_eq_false (by omega))) ?_
  refine L_val (.bool false) (by rfl) (by rfl) (gives_value _ fun _ => by rfl) ?_
  refine L_end ?_
  intro w10 hw10
  refine wp_cond_false (fr_at _ _ (by rfl) _) ?_
  refine seq_plain hw10 [0, 1] (by rfl) ?_
  refine L_val (.bool true) (by rfl) (by rfl) (gives_ieq (k := .i64) (how % 8) (5) true (by rfl) (by rfl) (decide_eq_true (by omega))) ?_
  refine L_val (.bool true) (by rfl) (by rfl) (gives_value _ fun _ => by rfl) ?_
  refine L_end ?_
  intro w11 hw11
  refine wp_cond_true (fr_at _ _ (by rfl) _) ?_
  refine one_plain hw11 [0, 1] (by rfl) ?_
  refine L_val (.agg (cg2 (0 : Pt F2))) (by rfl) (by rfl) (gb_g2 [] trivial (by rfl) (cg2 (0 : Pt F2)) (by rfl)) ?_
  refine L_store (t := 59) 1 g1 _ _ (by rfl) (by rfl) (by rfl) (by rfl) (by rfl) (hi_g2 _) ((cg2_size _).trans (cg2_size _).symm) (cg2_one _) ?_
  simp only [List.set_cons_zero, List.set_cons_succ]
  refine L_end ?_
  intro w12 hw12
  change Code.wp _ _ _ _ _
  refine seq_plain hw12 [0, 1, 2, 3, 4] (by rfl) ?_
  refine L_val (.agg (cg2 (0 : Pt F2))) (by rfl) (by rfl) (gL g1 59 (cg2 (0 : Pt F2)) 1 Tryd.underlying59 (hi_g2 _)) ?_
  refine L_val (.agg (cg2 (gMul F2.inv (k0) (num bs1)))) (by rfl) (by rfl) (gL g2 59 (cg2 (gMul F2.inv (k0) (num bs1))) 0 Tryd.underlying59 (hi_g2 _)) ?_
  refine L_val (.agg (cg2 (gAdd F2.inv (0 : Pt F2) (gMul F2.inv (k0) (num bs1))))) (by rfl) (by rfl) (gives_call (vl := [.agg (cg2 (0 : Pt F2)), .agg (cg2 (gMul F2.inv (k0) (num bs1)))]) (by kernel_rfl) (by rfl) (fun w h => k2_gadd _ _ w (hG.keep h.below))) ?_
  refine L_alloc _ (by rfl) (by rfl) z_g2 (cg2 (0 : Pt F2)) rfl ?_; intro g3
  refine L_store (t := 59) 0 g3 _ _ (by rfl) (by rfl) (by rfl) (by rfl) (by rfl) (hi_g2 _) ((cg2_size _).trans (cg2_size _).symm) (cg2_one _) ?_
  simp only [List.set_cons_zero, List.set_cons_succ]
  refine L_end ?_
  intro w13 hw13
  refine seq_flow (by kernel_rfl) hw13 [] [(g3, 59, (cg2 (gAdd F2.inv (0 : Pt F2) (gMul F2.inv (k0) (num bs1))))), (g2, 59, (cg2 (gMul F2.inv (k0) (num bs1)))), (g1, 59, (cg2 (0 : Pt F2)))] 38 (by rfl) ?_
  refine fT (i := 0) (g := (gL g1 59 (cg2 (0 : Pt F2)) 2 Tryd.underlying59 (hi_g2 _))) (h := ?_)
  refine fT (i := 1) (g := (gives_call (vl := [.agg (cg2 (0 : Pt F2))]) (by kernel_rfl) (by rfl) (fun w h => k2_on_t _ w (hG.keep h.below) (.inl rfl)))) (h := ?_)
  refine fT (i := 2) (u := (.bool true)) (g := (gives_value _ fun _ => by rfl)) (h := ?_)
  refine fG (i := 3) (dj := 54) (g := (gL g2 59 (cg2 (gMul F2.inv (k0) (num bs1))) 1 Tryd.underlying59 (hi_g2 _))) (h := ?_)
  refine fG (i := 4) (dj := 54) (g := (gives_call (vl := [.agg (cg2 (gMul F2.inv (k0) (num bs1)))]) (by kernel_rfl) (by rfl) (fun w h => k2_on_t _ w (hG.keep h.below) (ing2 hk0 _).1))) (h := ?_)
  refine fT (i := 5) (u := (.bool true)) (g := (gives_value _ fun _ => by rfl)) (h := ?_)
  refine fT (i := 6) (u := (.bool true)) (g := (gives_value _ fun _ => by rfl)) (h := ?_)
  refine fG (i := 7) (dj := 58) (g := (gL g3 59 (cg2 (gAdd F2.inv (0 : Pt F2) (gMul F2.inv (k0) (num bs1)))) 0 Tryd.underlying59 (hi_g2 _))) (h := ?_)
  refine fG (i := 8) (dj := 58) (g := (gives_call (vl := [.agg (cg2 (gAdd F2.inv (0 : Pt F2) (gMul F2.inv (k0) (num bs1))))]) (by kernel_rfl) (by rfl) (fun w h => k2_on_t _ w (hG.keep h.below) (on_gadd ec2 F2.inv_zero (.inl rfl) (ing2 hk0 _).1)))) (h := ?_)
  refine fT (i := 9) (u := (.bool true)) (g := (gives_value _ fun _ => by rfl)) (h := ?_)
  refine fT (i := 10) (u := (.bool true)) (g := (gives_value _ fun _ => by rfl)) (h := ?_)
  refine fG (i := 11) (dj := 62) (g := (gL g3 59 (cg2 (gAdd F2.inv (0 : Pt F2) (gMul F2.inv (k0) (num bs1)))) 0 Tryd.underlying59 (hi_g2 _))) (h := ?_)
  refine fG (i := 12) (dj := 62) (g := (gives_call (vl := [.agg (cg2 (gAdd F2.inv (0 : Pt F2) (gMul F2.inv (k0) (num bs1))))]) (by kernel_rfl) (by rfl) (fun w h => k2_neg _ w (hG.keep h.below)))) (h := ?_)
  refine fG (i := 13) (dj := 62) (g := (gives_call (vl := [.agg (cg2 (-(gAdd F2.inv (0 : Pt F2) (gMul F2.inv (k0) (num bs1)))))]) (by kernel_rfl) (by rfl) (fun w h => k2_on_t _ w (hG.keep h.below) (ec2.on_neg (on_gadd ec2 F2.inv_zero (.inl rfl) (ing2 hk0 _).1))))) (h := ?_)
  refine fT (i := 14) (u := (.bool true)) (g := (gives_value _ fun _ => by rfl)) (h := ?_)
  refine fT (i := 15) (u := (.bool true)) (g := (gives_value _ fun _ => by rfl)) (h := ?_)
  refine fG (i := 16) (dj := 67) (g := (gL g1 59 (cg2 (0 : Pt F2)) 2 Tryd.underlying59 (hi_g2 _))) (h := ?_)
  refine fG (i := 17) (dj := 67) (g := (gL g2 59 (cg2 (gMul F2.inv (k0) (num bs1))) 1 Tryd.underlying59 (hi_g2 _))) (h := ?_)
  refine fG (i := 18) (dj := 67) (g := (gL g3 59 (cg2 (gAdd F2.inv (0 : Pt F2) (gMul F2.inv (k0) (num bs1)))) 0 Tryd.underlying59 (hi_g2 _))) (h := ?_)
  refine fG (i := 19) (dj := 67) (g := (gives_call (vl := [.agg (cg2 (gAdd F2.inv (0 : Pt F2) (gMul F2.inv (k0) (num bs1))))]) (by kernel_rfl) (by rfl) (fun w h => k2_neg _ w (hG.keep h.below)))) (h := ?_)
  refine fG (i := 20) (dj := 67) (g := (gives_call (vl := [.agg (cg2 (0 : Pt F2)), .agg (cg2 (gMul F2.inv (k0) (num bs1))), .agg (cg2 (-(gAdd F2.inv (0 : Pt F2) (gMul F2.inv (k0) (num bs1)))))]) (by kernel_rfl) (by rfl) (fun w h => k2_sides _ _ _ w (hG.keep h.below) (.inl rfl) (ing2 hk0 _).1 rfl))) (h := ?_)
  refine fT (i := 21) (u := (.bool true)) (g := (gives_value _ fun _ => by rfl)) (h := ?_)
  refine fT (i := 22) (u := (.bool true)) (g := (gives_value _ fun _ => by rfl)) (h := ?_)
  refine fG (i := 23) (dj := 74) (g := (gL g3 59 (cg2 (gAdd F2.inv (0 : Pt F2) (gMul F2.inv (k0) (num bs1)))) 0 Tryd.underlying59 (hi_g2 _))) (h := ?_)
  refine fG (i := 24) (dj := 74) (g := (gL g2 59 (cg2 (gMul F2.inv (k0) (num bs1))) 1 Tryd.underlying59 (hi_g2 _))) (h := ?_)
  refine fG (i := 25) (dj := 74) (g := (gL g1 59 (cg2 (0 : Pt F2)) 2 Tryd.underlying59 (hi_g2 _))) (h := ?_)
  refine fG (i := 26) (dj := 74) (g := (gives_call (vl := [.agg (cg2 (gMul F2.inv (k0) (num bs1))), .agg (cg2 (0 : Pt F2))]) (by kernel_rfl) (by rfl) (fun w h => k2_gadd _ _ w (hG.keep h.below)))) (h := ?_)
  refine fG (i := 27) (dj := 74) (u := (.bool true)) (g := (gives_eql (cg2 (gAdd F2.inv (0 : Pt F2) (gMul F2.inv (k0) (num bs1)))) (cg2 (gAdd F2.inv (gMul F2.inv (k0) (num bs1)) (0 : Pt F2))) true (by rfl) (by rfl) (by kernel_rfl) (fun w => eq_g2_t (d := 9995) w (gadd_comm ec2 F2.inv_zero (.inl rfl) (ing2 hk0 _).1)))) (h := ?_)
  refine fT (i := 28) (u := (.bool true)) (g := (gives_value _ fun _ => by rfl)) (h := ?_)
  refine fT (i := 29) (u := (.bool true)) (g := (gives_value _ fun _ => by rfl)) (h := ?_)
  refine fG (i := 30) (dj := 81) (g := (gL g1 59 (cg2 (0 : Pt F2)) 2 Tryd.underlying59 (hi_g2 _))) (h := ?_)
  refine fG (i := 31) (dj := 81) (g := (gL g2 59 (cg2 (gMul F2.inv (k0) (num bs1))) 1 Tryd.underlying59 (hi_g2 _))) (h := ?_)
  refine fG (i := 34) (dj := 81) (g := (gL g3 59 (cg2 (gAdd F2.inv (0 : Pt F2) (gMul F2.inv (k0) (num bs1)))) 0 Tryd.underlying59 (hi_g2 _))) (h := ?_)
  refine flow_one 32 (by kernel_rfl) ?_
  refine F_buildP 2 24 (cg2 0) [(0, (cg2 (0 : Pt F2))), (1, (cg2 (gMul F2.inv (k0) (num bs1))))] (joinA [(cg2 (0 : Pt F2)), (cg2 (gMul F2.inv (k0) (num bs1)))]) (by rfl) (by rfl) (Want.some (dj := 81) (by rfl) (by rfl) (by rfl) (by rfl)) Tryd.underlying68 (zs_g2) (zr_g2_2) (cg2_size _) (by decide) (by decide) (by simp [fits, cg2_size]) (by rfl) (by rfl) (List.Sublist.refl _) ?_; intro g4
  refine flow_one 33 (by kernel_rfl) ?_
  refine F_val (vl := [.slice (some ⟨g4, 0, none⟩) 2 2]) (.agg (cg2 (gSum F2.inv [(0 : Pt F2), gMul F2.inv (k0) (num bs1)]))) (by rfl) (by rfl) (Want.some (dj := 81) (by rfl) (by rfl) (by rfl) (by rfl)) (by kernel_rfl) (by rfl) (List.Sublist.cons _ (List.Sublist.refl _)) (fun w h => k2_gsum _ _ _ [(0 : Pt F2), gMul F2.inv (k0) (num bs1)] w (hG.keep h.below) (pts_blk [(0 : Pt F2), gMul F2.inv (k0) (num bs1)] 2 rfl cg2_size (h.blk 0 (by rfl))) (by omega)) ?_
  refine fGs (i := 35) (dj := 81) (u := (.bool true)) (e := (List.Sublist.cons _ (List.Sublist.refl _))) (g := (gives_eql (cg2 (gSum F2.inv [(0 : Pt F2), gMul F2.inv (k0) (num bs1)])) (cg2 (gAdd F2.inv (0 : Pt F2) (gMul F2.inv (k0) (num bs1)))) true (by rfl) (by rfl) (by kernel_rfl) (fun w => eq_g2_t (d := 9995) w rfl))) (h := ?_)
  refine fTs (i := 36) (u := (.bool true)) (e := (List.Sublist.cons _ (List.Sublist.refl _))) (g := (gives_value _ fun _ => by rfl)) (h := ?_)
  refine fTs (i := 37) (u := (.bool true)) (e := (List.Sublist.cons _ (List.Sublist.refl _))) (g := (gives_value _ fun _ => by rfl)) (h := ?_)
  refine flow_done (by kernel_rfl) ?_
  intro w14 hw14
  refine wp_ret ?_
  change bodyPost _ _ _ Exit.ret _ _
  refine (ret_tmp (by rfl) (by rfl) (by rfl) ⟨rfl, hw14.below⟩)
set_option maxRecDepth 100000 in
set_option maxHeartbeats 4000000 in
theorem g2_adds_6 (A0 : Option Addr) (L0 C0 : Nat) (bs0 : List Int) (A1 : Option Addr) (L1 C1 : Nat) (bs1 : List Int) (n m how : Int) (v : World) (hG : Glo v) (hR : GloR v) (hH : GSh v) (hr0 : Reads v v.heap.size A0 L0 (bs0.map (Value.int .u8))) (ho0 : Oct bs0) (hr1 : Reads v v.heap.size A1 L1 (bs1.map (Value.int .u8))) (ho1 : Oct bs1) (hQ : GQp v) (hn : 0 ≤ n ∧ n < 65536) (hm : 0 ≤ m ∧ m < 65536) (hs0 : L0 ≤ 100) (hs1 : L1 ≤ 100) (hh : how % 8 ≠ 1 ∧ how % 8 ≠ 2 ∧ how % 8 ≠ 3 ∧ how % 8 ≠ 4 ∧ how % 8 ≠ 5) : Rets 9 #[.slice A0 L0 C0, .slice A1 L1 C1, .int .u16 n, .int .u16 m, .int .i64 how] v (.bool true) := by
  obtain ⟨k0, hk0⟩ : ∃ k : Pt F2, k = gen2 := ⟨_, rfl⟩
  refine calls_fr5 Tryd.func9 rfl (by rfl : _ = 89) (by rfl) ?_
  have hw := Hbl.nil v
  refine seq_plain hw [0] (by rfl) ?_
  refine L_val (.bool false) (by rfl) (by rfl) (gives_value _ fun _ => by rfl) ?_
  refine L_end ?_
  intro w1 hw1
  refine wp_seq ?_
  refine seq_plain hw1 [0, 1] (by rfl) ?_
  refine L_val (.bool true) (by rfl) (by rfl) (gives_call (vl := []) (by kernel_rfl) (by rfl) (fun w h => k2_head w (hG.keep h.below))) ?_
  refine L_val (.bool false) (by rfl) (by rfl) (gives_value _ fun _ => by rfl) ?_
  refine L_end ?_
  intro w2 hw2
  refine wp_cond_false (fr_at _ _ (by rfl) _) ?_
  refine wp_skip ?_
  change Code.wp _ _ _ _ _
  refine wp_seq ?_
  refine seq_plain hw2 [0, 1, 2] (by rfl) ?_
  refine L_val (.slice A0 L0 C0) (by rfl) (by rfl) (gives_value _ fun _ => by rfl) ?_
  refine L_val (.slice A1 L1 C1) (by rfl) (by rfl) (gives_value _ fun _ => by rfl) ?_
  refine L_val (.bool false) (by rfl) (by rfl) (gives_call (vl := [.slice A0 L0 C0, .slice A1 L1 C1, .slice none 0 0]) (by kernel_rfl) (by rfl) (fun w h => k2_long_no _ _ _ _ _ _ none 0 0 w (by omega) (by omega) (by omega))) ?_
  refine L_end ?_
  intro w3 hw3
  refine wp_cond_false (fr_at _ _ (by rfl) _) ?_
  refine wp_skip ?_
  change Code.wp _ _ _ _ _
  refine seq_plain hw3 [0, 1, 2, 3, 4, 5] (by rfl) ?_
  refine L_val (.agg (cg2 (k0))) (by rfl) (by rfl) (gives_call (vl := []) (by kernel_rfl) (by rfl) (fun w h => by rw [hk0]; exact k2_gen w (hG.keep h.below))) ?_
  refine L_val (.slice A0 L0 C0) (by rfl) (by rfl) (gives_value _ fun _ => by rfl) ?_
  refine L_val (.agg (frc (num bs0))) (by rfl) (by rfl) (gives_call (vl := [.slice A0 L0 C0]) (by kernel_rfl) (by rfl) (fun w h => k2_scalar A0 L0 C0 bs0 w (hR.keep h.below) (hH.keep h.below) ((hr0.below h.below).more h.below.size) ho0 (by omega))) ?_
  refine L_val (.agg (cg2 (gMul F2.inv (k0) (num bs0)))) (by rfl) (by rfl) (gives_call (vl := [.agg (cg2 (k0)), .agg (frc (num bs0))]) (by kernel_rfl) (by rfl) (fun w h => k2_gmul _ _ w (hG.keep h.below) (hR.keep h.below))) ?_
  refine L_alloc _ (by rfl) (by rfl) z_g2 (cg2 (0 : Pt F2)) rfl ?_; intro g1
  refine L_store (t := 59) 0 g1 _ _ (by rfl) (by rfl) (by rfl) (by rfl) (by rfl) (hi_g2 _) ((cg2_size _).trans (cg2_size _).symm) (cg2_one _) ?_
  simp only [List.set_cons_zero, List.set_cons_succ]
  refine L_end ?_
  intro w4 hw4
  refine seq_plain hw4 [0, 1, 2, 3, 4, 5] (by rfl) ?_
  refine L_val (.agg (cg2 (k0))) (by rfl) (by rfl) (gives_call (vl := []) (by kernel_rfl) (by rfl) (fun w h => by rw [hk0]; exact k2_gen w (hG.keep h.below))) ?_
  refine L_val (.slice A1 L1 C1) (by rfl) (by rfl) (gives_value _ fun _ => by rfl) ?_
  refine L_val (.agg (frc (num bs1))) (by rfl) (by rfl) (gives_call (vl := [.slice A1 L1 C1]) (by kernel_rfl) (by rfl) (fun w h => k2_scalar A1 L1 C1 bs1 w (hR.keep h.below) (hH.keep h.below) ((hr1.below h.below).more h.below.size) ho1 (by omega))) ?_
  refine L_val (.agg (cg2 (gMul F2.inv (k0) (num bs1)))) (by rfl) (by rfl) (gives_call (vl := [.agg (cg2 (k0)), .agg (frc (num bs1))]) (by kernel_rfl) (by rfl) (fun w h => k2_gmul _ _ w (hG.keep h.below) (hR.keep h.below))) ?_
  refine L_alloc _ (by rfl) (by rfl) z_g2 (cg2 (0 : Pt F2)) rfl ?_; intro g2
  refine L_store (t := 59) 0 g2 _ _ (by rfl) (by rfl) (by rfl) (by rfl) (by rfl) (hi_g2 _) ((cg2_size _).trans (cg2_size _).symm) (cg2_one _) ?_
  simp only [List.set_cons_zero, List.set_cons_succ]
  refine L_end ?_
  intro w5 hw5
  refine wp_seq ?_
  refine seq_plain hw5 [0, 1] (by rfl) ?_
  refine L_val (.int .i64 how) (by rfl) (by rfl) (gives_value _ fun _ => by rfl) ?_
  refine L_val (.int .i64 (how % 8)) (by rfl) (by rfl) (gives_and (k := .i64) (how) 7 (how % 8) (by rfl) (by rfl) (and_7 how)) ?_
  refine L_end ?_
  intro w6 hw6
  refine wp_block ?_
  refine seq_plain hw6 [0, 1] (by rfl) ?_
  refine L_val (.bool false) (by rfl) (by rfl) (gives_ieq (k := .i64) (how % 8) (1) false (by rfl) (by rfl) (decide_eq_false (by omega))) ?_
  refine L_val (.bool false) (by rfl) (by rfl) (gives_value _ fun _ => by rfl) ?_
  refine L_end ?_
  intro w7 hw7
  refine wp_cond_false (fr_at _ _ (by rfl) _) ?_
  refine seq_plain hw7 [0, 1] (by rfl) ?_
  refine L_val (.bool false) (by rfl) (by rfl) (gives_ieq (k := .i64) (how % 8) (2) false (by rfl) (by rfl) (decide_eq_false (by omega))) ?_
  refine L_val (.bool false) (by rfl) (by rfl) (gives_value _ fun _ => by rfl) ?_
  refine L_end ?_
  intro w8 hw8
  refine wp_cond_false (fr_at _ _ (by rfl) _) ?_
  refine seq_plain hw8 [0, 1] (by rfl) ?_
  refine L_val (.bool false) (by rfl) (by rfl) (gives_ieq (k := .i64) (how % 8) (3) false (by rfl) (by rfl) (decide_eq_false (by omega))) ?_
  refine L_val (.bool false) (by rfl) (by rfl) (gives_value _ fun _ => by rfl) ?_
  refine L_end ?_
  intro w9 hw9
  refine wp_cond_false (fr_at _ _ (by rfl) _) ?_
  refine seq_plain hw9 [0, 1] (by rfl) ?_
  refine L_val (.bool false) (by rfl) (by rfl) (gives_ieq (k := .i64) (how % 8) (4) false (by rfl) (by rfl) (decide_eq_false (by omega))) ?_
  refine L_val (.bool false) (by rfl) (by rfl) (gives_value _ fun _ => by rfl) ?_
  refine L_end ?_
  intro w10 hw10
  refine wp_cond_false (fr_at _ _ (by rfl) _) ?_
  refine seq_plain hw10 [0, 1] (by rfl) ?_
  refine L_val (.bool false) (by rfl) (by rfl) (gives_ieq (k := .i64) (how % 8) (5) false (by rfl) (by rfl) (decide_eq_false (by omega))) ?_
  refine L_val (.bool false) (by rfl) (by rfl) (gives_value _ fun _ => by rfl) ?_
  refine L_end ?_
  intro w11 hw11
  refine wp_cond_false (fr_at _ _ (by rfl) _) ?_
  refine wp_skip ?_
  change Code.wp _ _ _ _ _
  refine seq_plain hw11 [0, 1, 2, 3, 4] (by rfl) ?_
  refine L_val (.agg (cg2 (gMul F2.inv (k0) (num bs0)))) (by rfl) (by rfl) (gL g1 59 (cg2 (gMul F2.inv (k0) (num bs0))) 1 Tryd.underlying59 (hi_g2 _)) ?_
  refine L_val (.agg (cg2 (gMul F2.inv (k0) (num bs1)))) (by rfl) (by rfl) (gL g2 59 (cg2 (gMul F2.inv (k0) (num bs1))) 0 Tryd.underlying59 (hi_g2 _)) ?_
  refine L_val (.agg (cg2 (gAdd F2.inv (gMul F2.inv (k0) (num bs0)) (gMul F2.inv (k0) (num bs1))))) (by rfl) (by rfl) (gives_call (vl := [.agg (cg2 (gMul F2.inv (k0) (num bs0))), .agg (cg2 (gMul F2.inv (k0) (num bs1)))]) (by kernel_rfl) (by rfl) (fun w h => k2_gadd _ _ w (hG.keep h.below))) ?_
  refine L_alloc _ (by rfl) (by rfl) z_g2 (cg2 (0 : Pt F2)) rfl ?_; intro g3
  refine L_store (t := 59) 0 g3 _ _ (by rfl) (by rfl) (by rfl) (by rfl) (by rfl) (hi_g2 _) ((cg2_size _).trans (cg2_size _).symm) (cg2_one _) ?_
  simp only [List.set_cons_zero, List.set_cons_succ]
  refine L_end ?_
  intro w12 hw12
  refine seq_flow (by kernel_rfl) hw12 [] [(g3, 59, (cg2 (gAdd F2.inv (gMul F2.inv (k0) (num bs0)) (gMul F2.inv (k0) (num bs1))))), (g2, 59, (cg2 (gMul F2.inv (k0) (num bs1)))), (g1, 59, (cg2 (gMul F2.inv (k0) (num bs0))))] 38 (by rfl) ?_
  refine fT (i := 0) (g := (gL g1 59 (cg2 (gMul F2.inv (k0) (num bs0))) 2 Tryd.underlying59 (hi_g2 _))) (h := ?_)
  refine fT (i := 1) (g := (gives_call (vl := [.agg (cg2 (gMul F2.inv (k0) (num bs0)))]) (by kernel_rfl) (by rfl) (fun w h => k2_on_t _ w (hG.keep h.below) (ing2 hk0 _).1))) (h := ?_)
  refine fT (i := 2) (u := (.bool true)) (g := (gives_value _ fun _ => by rfl)) (h := ?_)
  refine fG (i := 3) (dj := 54) (g := (gL g2 59 (cg2 (gMul F2.inv (k0) (num bs1))) 1 Tryd.underlying59 (hi_g2 _))) (h := ?_)
  refine fG (i := 4) (dj := 54) (g := (gives_call (vl := [.agg (cg2 (gMul F2.inv (k0) (num bs1)))]) (by kernel_rfl) (by rfl) (fun w h => k2_on_t _ w (hG.keep h.below) (ing2 hk0 _).1))) (h := ?_)
  refine fT (i := 5) (u := (.bool true)) (g := (gives_value _ fun _ => by rfl)) (h := ?_)
  refine fT (i := 6) (u := (.bool true)) (g := (gives_value _ fun _ => by rfl)) (h := ?_)
  refine fG (i := 7) (dj := 58) (g := (gL g3 59 (cg2 (gAdd F2.inv (gMul F2.inv (k0) (num bs0)) (gMul F2.inv (k0) (num bs1)))) 0 Tryd.underlying59 (hi_g2 _))) (h := ?_)
  refine fG (i := 8) (dj := 58) (g := (gives_call (vl := [.agg (cg2 (gAdd F2.inv (gMul F2.inv (k0) (num bs0)) (gMul F2.inv (k0) (num bs1))))]) (by kernel_rfl) (by rfl) (fun w h => k2_on_t _ w (hG.keep h.below) (on_gadd ec2 F2.inv_zero (ing2 hk0 _).1 (ing2 hk0 _).1)))) (h := ?_)
  refine fT (i := 9) (u := (.bool true)) (g := (gives_value _ fun _ => by rfl)) (h := ?_)
  refine fT (i := 10) (u := (.bool true)) (g := (gives_value _ fun _ => by rfl)) (h := ?_)
  refine fG (i := 11) (dj := 62) (g := (gL g3 59 (cg2 (gAdd F2.inv (gMul F2.inv (k0) (num bs0)) (gMul F2.inv (k0) (num bs1)))) 0 Tryd.underlying59 (hi_g2 _))) (h := ?_)
  refine fG (i := 12) (dj := 62) (g := (gives_call (vl := [.agg (cg2 (gAdd F2.inv (gMul F2.inv (k0) (num bs0)) (gMul F2.inv (k0) (num bs1))))]) (by kernel_rfl) (by rfl) (fun w h => k2_neg _ w (hG.keep h.below)))) (h := ?_)
  refine fG (i := 13) (dj := 62) (g := (gives_call (vl := [.agg (cg2 (-(gAdd F2.inv (gMul F2.inv (k0) (num bs0)) (gMul F2.inv (k0) (num bs1)))))]) (by kernel_rfl) (by rfl) (fun w h => k2_on_t _ w (hG.keep h.below) (ec2.on_neg (on_gadd ec2 F2.inv_zero (ing2 hk0 _).1 (ing2 hk0 _).1))))) (h := ?_)
  refine fT (i := 14) (u := (.bool true)) (g := (gives_value _ fun _ => by rfl)) (h := ?_)
  refine fT (i := 15) (u := (.bool true)) (g := (gives_value _ fun _ => by rfl)) (h := ?_)
  refine fG (i := 16) (dj := 67) (g := (gL g1 59 (cg2 (gMul F2.inv (k0) (num bs0))) 2 Tryd.underlying59 (hi_g2 _))) (h := ?_)
  refine fG (i := 17) (dj := 67) (g := (gL g2 59 (cg2 (gMul F2.inv (k0) (num bs1))) 1 Tryd.underlying59 (hi_g2 _))) (h := ?_)
  refine fG (i := 18) (dj := 67) (g := (gL g3 59 (cg2 (gAdd F2.inv (gMul F2.inv (k0) (num bs0)) (gMul F2.inv (k0) (num bs1)))) 0 Tryd.underlying59 (hi_g2 _))) (h := ?_)
  refine fG (i := 19) (dj := 67) (g := (gives_call (vl := [.agg (cg2 (gAdd F2.inv (gMul F2.inv (k0) (num bs0)) (gMul F2.inv (k0) (num bs1))))]) (by kernel_rfl) (by rfl) (fun w h => k2_neg _ w (hG.keep h.below)))) (h := ?_)
  refine fG (i := 20) (dj := 67) (g := (gives_call (vl := [.agg (cg2 (gMul F2.inv (k0) (num bs0))), .agg (cg2 (gMul F2.inv (k0) (num bs1))), .agg (cg2 (-(gAdd F2.inv (gMul F2.inv (k0) (num bs0)) (gMul F2.inv (k0) (num bs1)))))]) (by kernel_rfl) (by rfl) (fun w h => k2_sides _ _ _ w (hG.keep h.below) (ing2 hk0 _).1 (ing2 hk0 _).1 rfl))) (h := ?_)
  refine fT (i := 21) (u := (.bool true)) (g := (gives_value _ fun _ => by rfl)) (h := ?_)
  refine fT (i := 22) (u := (.bool true)) (g := (gives_value _ fun _ => by rfl)) (h := ?_)
  refine fG (i := 23) (dj := 74) (g := (gL g3 59 (cg2 (gAdd F2.inv (gMul F2.inv (k0) (num bs0)) (gMul F2.inv (k0) (num bs1)))) 0 Tryd.underlying59 (hi_g2 _))) (h := ?_)
  refine fG (i := 24) (dj := 74) (g := (gL g2 59 (cg2 (gMul F2.inv (k0) (num bs1))) 1 Tryd.underlying59 (hi_g2 _))) (h := ?_)
  refine fG (i := 25) (dj := 74) (g := (gL g1 59 (cg2 (gMul F2.inv (k0) (num bs0))) 2 Tryd.underlying59 (hi_g2 _))) (h := ?_)
  refine fG (i := 26) (dj := 74) (g := (gives_call (vl := [.agg (cg2 (gMul F2.inv (k0) (num bs1))), .agg (cg2 (gMul F2.inv (k0) (num bs0)))]) (by kernel_rfl) (by rfl) (fun w h => k2_gadd _ _ w (hG.keep h.below)))) (h := ?_)
  refine fG (i := 27) (dj := 74) (u := (.bool true)) (g := (gives_eql (cg2 (gAdd F2.inv (gMul F2.inv (k0) (num bs0)) (gMul F2.inv (k0) (num bs1)))) (cg2 (gAdd F2.inv (gMul F2.inv (k0) (num bs1)) (gMul F2.inv (k0) (num bs0)))) true (by rfl) (by rfl) (by kernel_rfl) (fun w => eq_g2_t (d := 9995) w (gadd_comm ec2 F2.inv_zero (ing2 hk0 _).1 (ing2 hk0 _).1)))) (h := ?_)
  refine fT (i := 28) (u := (.bool true)) (g := (gives_value _ fun _ => by rfl)) (h := ?_)
  refine fT (i := 29) (u := (.bool true)) (g := (gives_value _ fun _ => by rfl)) (h := ?_)
  refine fG (i := 30) (dj := 81) (g := (gL g1 59 (cg2 (gMul F2.inv (k0) (num bs0))) 2 Tryd.underlying59 (hi_g2 _))) (h := ?_)
  refine fG (i := 31) (dj := 81) (g := (gL g2 59 (cg2 (gMul F2.inv (k0) (num bs1))) 1 Tryd.underlying59 (hi_g2 _))) (h := ?_)
  refine fG (i := 34) (dj := 81) (g := (gL g3 59 (cg2 (gAdd F2.inv (gMul F2.inv (k0) (num bs0)) (gMul F2.inv (k0) (num bs1)))) 0 Tryd.underlying59 (hi_g2 _))) (h := ?_)
  refine flow_one 32 (by kernel_rfl) ?_
  refine F_buildP 2 24 (cg2 0) [(0, (cg2 (gMul F2.inv (k0) (num bs0)))), (1, (cg2 (gMul F2.inv (k0) (num bs1))))] (joinA [(cg2 (gMul F2.inv (k0) (num bs0))), (cg2 (gMul F2.inv (k0) (num bs1)))]) (by rfl) (by rfl) (Want.some (dj := 81) (by rfl) (by rfl) (by rfl) (by rfl)) Tryd.underlying68 (zs_g2) (zr_g2_2) (cg2_size _) (by decide) (by decide) (by simp [fits, cg2_size]) (by rfl) (by rfl) (List.Sublist.refl _) ?_; intro g4
  refine flow_one 33 (by kernel_rfl) ?_
  refine F_val (vl := [.slice (some ⟨g4, 0, none⟩) 2 2]) (.agg (cg2 (gSum F2.inv [gMul F2.inv (k0) (num bs0), gMul F2.inv (k0) (num bs1)]))) (by rfl) (by rfl) (Want.some (dj := 81) (by rfl) (by rfl) (by rfl) (by rfl)) (by kernel_rfl) (by rfl) (List.Sublist.cons _ (List.Sublist.refl _)) (fun w h => k2_gsum _ _ _ [gMul F2.inv (k0) (num bs0), gMul F2.inv (k0) (num bs1)] w (hG.keep h.below) (pts_blk [gMul F2.inv (k0) (num bs0), gMul F2.inv (k0) (num bs1)] 2 rfl cg2_size (h.blk 0 (by rfl))) (by omega)) ?_
  refine fGs (i := 35) (dj := 81) (u := (.bool true)) (e := (List.Sublist.cons _ (List.Sublist.refl _))) (g := (gives_eql (cg2 (gSum F2.inv [gMul F2.inv (k0) (num bs0), gMul F2.inv (k0) (num bs1)])) (cg2 (gAdd F2.inv (gMul F2.inv (k0) (num bs0)) (gMul F2.inv (k0) (num bs1)))) true (by rfl) (by rfl) (by kernel_rfl) (fun w => eq_g2_t (d := 9995) w rfl))) (h := ?_)
  refine fTs (i := 36) (u := (.bool true)) (e := (List.Sublist.cons _ (List.Sublist.refl _))) (g := (gives_value _ fun _ => by rfl)) (h := ?_)
  refine fTs (i := 37) (u := (.bool true)) (e := (List.Sublist.cons _ (List.Sublist.refl _))) (g := (gives_value _ fun _ => by rfl)) (h := ?_)
  refine flow_done (by kernel_rfl) ?_
  intro w13 hw13
  refine wp_ret ?_
  change bodyPost _ _ _ Exit.ret _ _
  refine (ret_tmp (by rfl) (by rfl) (by rfl) ⟨rfl, hw13.below⟩)
theorem g2_adds_any (A0 : Option Addr) (L0 C0 : Nat) (bs0 : List Int) (A1 : Option Addr) (L1 C1 : Nat) (bs1 : List Int) (n m how : Int) (v : World) (hG : Glo v) (hR : GloR v) (hH : GSh v) (hr0 : Reads v v.heap.size A0 L0 (bs0.map (Value.int .u8))) (ho0 : Oct bs0) (hr1 : Reads v v.heap.size A1 L1 (bs1.map (Value.int .u8))) (ho1 : Oct bs1) (hQ : GQp v) (hn : 0 ≤ n ∧ n < 65536) (hm : 0 ≤ m ∧ m < 65536) : Rets 9 #[.slice A0 L0 C0, .slice A1 L1 C1, .int .u16 n, .int .u16 m, .int .i64 how] v (.bool true) := by
  by_cases hlong : 100 < L0 ∨ 100 < L1
  · exact g2_adds_long A0 L0 C0 bs0 A1 L1 C1 bs1 n m how v hG hR hH hr0 ho0 hr1 ho1 hQ hn hm hlong
  · have h0 : L0 ≤ 100 := by omega
    have h1 : L1 ≤ 100 := by omega
    by_cases hh1 : how % 8 = 1
    · exact g2_adds_1 A0 L0 C0 bs0 A1 L1 C1 bs1 n m how v hG hR hH hr0 ho0 hr1 ho1 hQ hn hm h0 h1 hh1
    by_cases hh2 : how % 8 = 2
    · exact g2_adds_2 A0 L0 C0 bs0 A1 L1 C1 bs1 n m how v hG hR hH hr0 ho0 hr1 ho1 hQ hn hm h0 h1 hh2
    by_cases hh3 : how % 8 = 3
    · exact g2_adds_3 A0 L0 C0 bs0 A1 L1 C1 bs1 n m how v hG hR hH hr0 ho0 hr1 ho1 hQ hn hm h0 h1 hh3
    by_cases hh4 : how % 8 = 4
    · exact g2_adds_4 A0 L0 C0 bs0 A1 L1 C1 bs1 n m how v hG hR hH hr0 ho0 hr1 ho1 hQ hn hm h0 h1 hh4
    by_cases hh5 : how % 8 = 5
    · exact g2_adds_5 A0 L0 C0 bs0 A1 L1 C1 bs1 n m how v hG hR hH hr0 ho0 hr1 ho1 hQ hn hm h0 h1 hh5
    exact g2_adds_6 A0 L0 C0 bs0 A1 L1 C1 bs1 n m how v hG hR hH hr0 ho0 hr1 ho1 hQ hn hm h0 h1 ⟨hh1, hh2, hh3, hh4, hh5⟩
end Go.Proofs.YtifnnckbcjafgaaDoor
