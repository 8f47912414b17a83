/-
  TowerPowers: the walk.
-/
import Derived.Test.YtnebmgiajfbnaaaDoorTwN
namespace Go.Proofs.YtnebmgiajfbnaaaDoor
set_option linter.unusedSimpArgs false
set_option linter.unusedVariables false
open Go.RowKit
theorem bfill2 (b0 b1 : Int) : Instr.fill (fun i => some (i * 1, 1)) (Array.map (fun x => (Value.int IntKind.u8 0).cells[x % (Value.int IntKind.u8 0).cells.size]!) (Array.range (2 * 1)))
    [(0, Value.int IntKind.u8 b0), (1, Value.int IntKind.u8 b1)] = some (ag8 [b0, b1]) := by
  have e : Array.map (fun x => (Value.int IntKind.u8 0).cells[x % (Value.int IntKind.u8 0).cells.size]!) (Array.range (2 * 1)) = Array.replicate 2 (.int .u8 0) := by kernel_rfl
  rw [e]
  simp [Instr.fill, ag8, Value.cells, Array.replicate]
theorem bfill3 (b0 b1 b2 : Int) : Instr.fill (fun i => some (i * 1, 1)) (Array.map (fun x => (Value.int IntKind.u8 0).cells[x % (Value.int IntKind.u8 0).cells.size]!) (Array.range (3 * 1)))
    [(0, Value.int IntKind.u8 b0), (1, Value.int IntKind.u8 b1), (2, Value.int IntKind.u8 b2)] = some (ag8 [b0, b1, b2]) := by
  have e : Array.map (fun x => (Value.int IntKind.u8 0).cells[x % (Value.int IntKind.u8 0).cells.size]!) (Array.range (3 * 1)) = Array.replicate 3 (.int .u8 0) := by kernel_rfl
  rw [e]
  simp [Instr.fill, ag8, Value.cells, Array.replicate]
section
variable {ops : Array Oper} {late : List Nat} {R : Act → World → Prop} {v : World} {L L0 : List (Nat × TypeId × Array Value)} {n : Nat} {sl : List (Nat × Value)}
theorem L_build2 {i d : Nat} {il : List Nat} {ty : TypeId} {pos : String} {after : Array Edge} {gd : Option (Nat × Bool)} {p0 p1 : Operand} (b0 b1 : Int)
    (hi : ops[i]? = some ⟨some d, .buildSlice 22 2 #[(0, p0), (1, p1)], ty, pos, after, gd⟩) (hl : inFr n sl = true) (hw : Want ops n sl gd) (h0 : rho sl p0 = .int .u8 b0) (h1 : rho sl p1 = .int .u8 b1)
    (h : ∀ g, wpL Tryd.prog ops R il (fr n ((d, .slice (some ⟨g, 0, none⟩) 2 2) :: sl)) (Hbl v ((g, 5, ag8 [b0, b1]) :: L))) : wpL Tryd.prog ops R (i :: il) (fr n sl) (Hbl v L) := fun w hS => by
  obtain ⟨ie, he, hz⟩ := Option.map_eq_some_iff.1 u8_zs
  simp only [Prod.mk.injEq] at hz
  have hrun : (Instr.buildSlice 22 2 (#[(0, p0), (1, p1)].map fun x => (x.1, rho sl x.2))).run Tryd.prog w = .ok (.slice (some ⟨w.heap.size, 0, none⟩) 2 2) (w.alloc (.cells (ag8 [b0, b1]) 5)) := by
    refine run_buildSlice w _ _ 2 _ _ ie (.int .u8 0) und_u8s he hz.1 (by rw [hz.2]; decide) (by rw [hz.2]; decide) ?_
    rw [hz.2]
    simp only [List.map_toArray, List.map_cons, List.map_nil, h0, h1]
    exact bfill2 ..
  exact wpOp_runG (w' := w.alloc (.cells (ag8 [b0, b1]) 5)) hi (hw ..) (by rw [fr_eval n sl hl]; simp only [execOp, Sem.run_bind]; rw [hrun]; rfl) ⟨_, Hbl.stays v _, hS.alloc 5 (ag8 [b0, b1]), h _⟩
theorem F_build2 {i d : Nat} {fuel : Nat} {listed : Array Bool} {ty : TypeId} {pos : String} {after : Array Edge} {gd : Option (Nat × Bool)} {p0 p1 : Operand} (b0 b1 : Int)
    (hi : ops[i]? = some ⟨some d, .buildSlice 22 2 #[(0, p0), (1, p1)], ty, pos, after, gd⟩) (hl : inFr n sl = true) (hw : Want ops n sl gd) (h0 : rho sl p0 = .int .u8 b0) (h1 : rho sl p1 = .int .u8 b1) (hs : L0.Sublist L)
    (h : ∀ g, wpF Tryd.prog .any ops late R (Hbl v L0) fuel (listed.setIfInBounds i true) (fr n ((d, .slice (some ⟨g, 0, none⟩) 2 2) :: sl)) (Hbl v ((g, 5, ag8 [b0, b1]) :: L))) :
    ∀ w, Hbl v L w → wpOp Tryd.prog ops (Nrm R) i (fun a' w' => ∃ S', (i ∈ late ∨ Ext (Hbl v L0) S') ∧ S' w' ∧ wpF Tryd.prog .any ops late R (Hbl v L0) fuel (listed.setIfInBounds i true) a' S') (fr n sl) w := fun w hS => by
  obtain ⟨ie, he, hz⟩ := Option.map_eq_some_iff.1 u8_zs
  simp only [Prod.mk.injEq] at hz
  have hrun : (Instr.buildSlice 22 2 (#[(0, p0), (1, p1)].map fun x => (x.1, rho sl x.2))).run Tryd.prog w = .ok (.slice (some ⟨w.heap.size, 0, none⟩) 2 2) (w.alloc (.cells (ag8 [b0, b1]) 5)) := by
    refine run_buildSlice w _ _ 2 _ _ ie (.int .u8 0) und_u8s he hz.1 (by rw [hz.2]; decide) (by rw [hz.2]; decide) ?_
    rw [hz.2]
    simp only [List.map_toArray, List.map_cons, List.map_nil, h0, h1]
    exact bfill2 ..
  exact wpOp_runG (w' := w.alloc (.cells (ag8 [b0, b1]) 5)) hi (hw ..) (by rw [fr_eval n sl hl]; simp only [execOp, Sem.run_bind]; rw [hrun]; rfl) ⟨_, .inr (Ext.of_sub (.cons _ hs)), hS.alloc 5 (ag8 [b0, b1]), h _⟩
theorem L_build3 {i d : Nat} {il : List Nat} {ty : TypeId} {pos : String} {after : Array Edge} {gd : Option (Nat × Bool)} {p0 p1 p2 : Operand} (b0 b1 b2 : Int)
    (hi : ops[i]? = some ⟨some d, .buildSlice 22 3 #[(0, p0), (1, p1), (2, p2)], ty, pos, after, gd⟩) (hl : inFr n sl = true) (hw : Want ops n sl gd) (h0 : rho sl p0 = .int .u8 b0) (h1 : rho sl p1 = .int .u8 b1) (h2 : rho sl p2 = .int .u8 b2)
    (h : ∀ g, wpL Tryd.prog ops R il (fr n ((d, .slice (some ⟨g, 0, none⟩) 3 3) :: sl)) (Hbl v ((g, 5, ag8 [b0, b1, b2]) :: L))) : wpL Tryd.prog ops R (i :: il) (fr n sl) (Hbl v L) := fun w hS => by
  obtain ⟨ie, he, hz⟩ := Option.map_eq_some_iff.1 u8_zs
  simp only [Prod.mk.injEq] at hz
  have hrun : (Instr.buildSlice 22 3 (#[(0, p0), (1, p1), (2, p2)].map fun x => (x.1, rho sl x.2))).run Tryd.prog w = .ok (.slice (some ⟨w.heap.size, 0, none⟩) 3 3) (w.alloc (.cells (ag8 [b0, b1, b2]) 5)) := by
    refine run_buildSlice w _ _ 3 _ _ ie (.int .u8 0) und_u8s he hz.1 (by rw [hz.2]; decide) (by rw [hz.2]; decide) ?_
    rw [hz.2]
    simp only [List.map_toArray, List.map_cons, List.map_nil, h0, h1, h2]
    exact bfill3 ..
  exact wpOp_runG (w' := w.alloc (.cells (ag8 [b0, b1, b2]) 5)) hi (hw ..) (by rw [fr_eval n sl hl]; simp only [execOp, Sem.run_bind]; rw [hrun]; rfl) ⟨_, Hbl.stays v _, hS.alloc 5 (ag8 [b0, b1, b2]), h _⟩
theorem F_build3 {i d : Nat} {fuel : Nat} {listed : Array Bool} {ty : TypeId} {pos : String} {after : Array Edge} {gd : Option (Nat × Bool)} {p0 p1 p2 : Operand} (b0 b1 b2 : Int)
    (hi : ops[i]? = some ⟨some d, .buildSlice 22 3 #[(0, p0), (1, p1), (2, p2)], ty, pos, after, gd⟩) (hl : inFr n sl = true) (hw : Want ops n sl gd) (h0 : rho sl p0 = .int .u8 b0) (h1 : rho sl p1 = .int .u8 b1) (h2 : rho sl p2 = .int .u8 b2) (hs : L0.Sublist L)
    (h : ∀ g, wpF Tryd.prog .any ops late R (Hbl v L0) fuel (listed.setIfInBounds i true) (fr n ((d, .slice (some ⟨g, 0, none⟩) 3 3) :: sl)) (Hbl v ((g, 5, ag8 [b0, b1, b2]) :: L))) :
    ∀ w, Hbl v L w → wpOp Tryd.prog ops (Nrm R) i (fun a' w' => ∃ S', (i ∈ late ∨ Ext (Hbl v L0) S') ∧ S' w' ∧ wpF Tryd.prog .any ops late R (Hbl v L0) fuel (listed.setIfInBounds i true) a' S') (fr n sl) w := fun w hS => by
  obtain ⟨ie, he, hz⟩ := Option.map_eq_some_iff.1 u8_zs
  simp only [Prod.mk.injEq] at hz
  have hrun : (Instr.buildSlice 22 3 (#[(0, p0), (1, p1), (2, p2)].map fun x => (x.1, rho sl x.2))).run Tryd.prog w = .ok (.slice (some ⟨w.heap.size, 0, none⟩) 3 3) (w.alloc (.cells (ag8 [b0, b1, b2]) 5)) := by
    refine run_buildSlice w _ _ 3 _ _ ie (.int .u8 0) und_u8s he hz.1 (by rw [hz.2]; decide) (by rw [hz.2]; decide) ?_
    rw [hz.2]
    simp only [List.map_toArray, List.map_cons, List.map_nil, h0, h1, h2]
    exact bfill3 ..
  exact wpOp_runG (w' := w.alloc (.cells (ag8 [b0, b1, b2]) 5)) hi (hw ..) (by rw [fr_eval n sl hl]; simp only [execOp, Sem.run_bind]; rw [hrun]; rfl) ⟨_, .inr (Ext.of_sub (.cons _ hs)), hS.alloc 5 (ag8 [b0, b1, b2]), h _⟩
end
theorem und_u16 : Tryd.prog.underlying 63 = some (.int .u16) := by kernel_rfl
theorem shr_8u16 (a : Int) : a.fdiv (2 ^ (min (8 : Int).toNat IntKind.u16.bits)) = a / 256 := by
  have e : min (8 : Int).toNat IntKind.u16.bits = 8 := by decide
  rw [e, Int.fdiv_eq_ediv_of_nonneg _ (by decide)]
  rfl
theorem shr_8u32 (a : Int) : a.fdiv (2 ^ (min (8 : Int).toNat IntKind.u32.bits)) = a / 256 := by
  have e : min (8 : Int).toNat IntKind.u32.bits = 8 := by decide
  rw [e, Int.fdiv_eq_ediv_of_nonneg _ (by decide)]
  rfl
theorem powers_add (x : T12) (n m : Int) (hn : 0 ≤ n ∧ n < 65536) (hm : 0 ≤ m ∧ m < 65536) : (pw (x) (num [(n / 256) % 256, n % 256]).toNat) * (pw (x) (num [0, (m / 256) % 256, m % 256]).toNat) = pw (x) (num [((n + m) / 65536) % 256, ((n + m) / 256) % 256, (n + m) % 256]).toNat := by
  rw [← pw_add T12.cr]
  congr 1
  simp only [num, List.foldl]
  omega
theorem powers_one (x : T12) : pw x (num [0, 1]).toNat = x := T12.cr.one_mul x
attribute [local irreducible] wpL wpF fr Code.wp bodyPost
set_option maxRecDepth 100000 in
set_option maxHeartbeats 4000000 in
theorem t_powers_long (A0 : Option Addr) (L0 C0 : Nat) (bs0 : List Int) (n m : Int) (v : World) (hG : Glo v) (hr0 : Reads v v.heap.size A0 L0 (bs0.map (Value.int .u8))) (ho0 : Oct bs0) (hn : 0 ≤ n ∧ n < 65536) (hm : 0 ≤ m ∧ m < 65536) (hlong : 2000 < L0) : Rets 9 #[.slice A0 L0 C0, .int .u16 n, .int .u16 m] v (.bool true) := by
  refine calls_fr3 Tryd.func9 rfl (by rfl : _ = 70) (by rfl) ?_
  have hw := Hbl.nil v
  refine seq_plain hw [0] (by rfl) ?_
  refine L_val (.bool false) (by rfl) (by rfl) (gives_value _ fun _ => by rfl) ?_
  refine L_end ?_
  intro w1 hw1
  refine wp_seq ?_
  refine seq_plain hw1 [0, 1] (by rfl) ?_
  refine L_val (.bool true) (by rfl) (by rfl) (gives_call (vl := []) (by kernel_rfl) (by rfl) (fun w h => t_head w (hG.keep h.below))) ?_
  refine L_val (.bool false) (by rfl) (by rfl) (gives_value _ fun _ => by rfl) ?_
  refine L_end ?_
  intro w2 hw2
  refine wp_cond_false (fr_at _ _ (by rfl) _) ?_
  refine wp_skip ?_
  change Code.wp _ _ _ _ _
  refine wp_seq ?_
  refine seq_plain hw2 [0, 1] (by rfl) ?_
  refine L_val (.slice A0 L0 C0) (by rfl) (by rfl) (gives_value _ fun _ => by rfl) ?_
  refine L_val (.bool true) (by rfl) (by rfl) (gives_call (vl := [.slice A0 L0 C0, .slice none 0 0]) (by kernel_rfl) (by rfl) (fun w h => tlong_yes _ _ _ none 0 0 w (by omega))) ?_
  refine L_end ?_
  intro w3 hw3
  refine wp_cond_true (fr_at _ _ (by rfl) _) ?_
  refine seq_plain hw3 [0] (by rfl) ?_
  refine L_val (.bool true) (by rfl) (by rfl) (gives_value _ fun _ => by rfl) ?_
  refine L_end ?_
  intro w4 hw4
  refine wp_ret ?_
  change bodyPost _ _ _ Exit.ret _ _
  refine (ret_tmp (by rfl) (by rfl) (by rfl) ⟨rfl, hw4.below⟩)
set_option maxRecDepth 100000 in
set_option maxHeartbeats 4000000 in
theorem t_powers_short (A0 : Option Addr) (L0 C0 : Nat) (bs0 : List Int) (n m : Int) (v : World) (hG : Glo v) (hr0 : Reads v v.heap.size A0 L0 (bs0.map (Value.int .u8))) (ho0 : Oct bs0) (hn : 0 ≤ n ∧ n < 65536) (hm : 0 ≤ m ∧ m < 65536) (hs0 : L0 ≤ 2000) : Rets 9 #[.slice A0 L0 C0, .int .u16 n, .int .u16 m] v (.bool true) := by
  refine calls_fr3 Tryd.func9 rfl (by rfl : _ = 70) (by rfl) ?_
  have hw := Hbl.nil v
  refine seq_plain hw [0] (by rfl) ?_
  refine L_val (.bool false) (by rfl) (by rfl) (gives_value _ fun _ => by rfl) ?_
  refine L_end ?_
  intro w1 hw1
  refine wp_seq ?_
  refine seq_plain hw1 [0, 1] (by rfl) ?_
  refine L_val (.bool true) (by rfl) (by rfl) (gives_call (vl := []) (by kernel_rfl) (by rfl) (fun w h => t_head w (hG.keep h.below))) ?_
  refine L_val (.bool false) (by rfl) (by rfl) (gives_value _ fun _ => by rfl) ?_
  refine L_end ?_
  intro w2 hw2
  refine wp_cond_false (fr_at _ _ (by rfl) _) ?_
  refine wp_skip ?_
  change Code.wp _ _ _ _ _
  refine wp_seq ?_
  refine seq_plain hw2 [0, 1] (by rfl) ?_
  refine L_val (.slice A0 L0 C0) (by rfl) (by rfl) (gives_value _ fun _ => by rfl) ?_
  refine L_val (.bool false) (by rfl) (by rfl) (gives_call (vl := [.slice A0 L0 C0, .slice none 0 0]) (by kernel_rfl) (by rfl) (fun w h => tlong_no _ _ _ none 0 0 w (by omega) (by omega))) ?_
  refine L_end ?_
  intro w3 hw3
  refine wp_cond_false (fr_at _ _ (by rfl) _) ?_
  refine wp_skip ?_
  change Code.wp _ _ _ _ _
  refine seq_plain hw3 [0, 1, 2, 3, 4, 5, 6, 7, 8] (by rfl) ?_
  refine L_val (.slice A0 L0 C0) (by rfl) (by rfl) (gives_value _ fun _ => by rfl) ?_
  refine L_callE (A := (Array Value)) (B := T12) (vl := [.slice A0 L0 C0]) (fun a b => .tuple #[.agg a, .agg (c12 b)]) (fun u _ => u.size = 12 ∧ u.all (·.oneCell') = true) (by rfl) (by rfl) Want.none (by kernel_rfl) (by rfl) (fun w h => number_any A0 L0 C0 bs0 w (hG.keep h.below) ((hr0.below h.below).more h.below.size) ho0 (by omega)) ?_; intro u_1 x_1 hu_1
  refine L_val (.tuple #[.agg u_1, .agg (c12 (x_1))]) (by rfl) (by rfl) (gives_value _ fun _ => by rfl) ?_
  refine L_val (.agg u_1) (by rfl) (by rfl) (gives_value _ fun _ => by kernel_rfl) ?_
  refine L_val (.agg (c12 (x_1))) (by rfl) (by rfl) (gives_value _ fun _ => by kernel_rfl) ?_
  refine L_alloc _ (by rfl) (by rfl) z_aN (joinA [#[.slice none 0 0, .slice none 0 0], #[.slice none 0 0, .slice none 0 0], #[.slice none 0 0, .slice none 0 0], #[.slice none 0 0, .slice none 0 0], #[.slice none 0 0, .slice none 0 0], #[.slice none 0 0, .slice none 0 0]]) rfl ?_; intro g1
  refine L_alloc _ (by rfl) (by rfl) z_12 (c12 (0 : T12)) rfl ?_; intro g2
  refine L_store (t := 47) 1 g1 (joinA [#[.slice none 0 0, .slice none 0 0], #[.slice none 0 0, .slice none 0 0], #[.slice none 0 0, .slice none 0 0], #[.slice none 0 0, .slice none 0 0], #[.slice none 0 0, .slice none 0 0], #[.slice none 0 0, .slice none 0 0]]) u_1 (by rfl) (by rfl) (by rfl) (by rfl) (by rfl) (hi_opN hu_1.1) ((joinC_size 2 _ (by simp)).trans hu_1.1.symm) hu_1.2 ?_
  simp only [List.set_cons_zero, List.set_cons_succ]
  refine L_store (t := 51) 0 g2 (c12 (0 : T12)) (c12 (x_1)) (by rfl) (by rfl) (by rfl) (by rfl) (by rfl) (hi_12 _) ((c12_size _).trans (c12_size _).symm) (c12_one _) ?_
  simp only [List.set_cons_zero, List.set_cons_succ]
  refine L_end ?_
  intro w4 hw4
  refine seq_plain hw4 [0, 1, 2, 3, 4, 5] (by rfl) ?_
  refine L_val (.int .u16 n) (by rfl) (by rfl) (gives_value _ fun _ => by rfl) ?_
  refine L_val (.int .u32 n) (by rfl) (by rfl) (gives_conv (k2 := .u32) (n) (n) (by rfl) und_u16 und_u32 (IntWalk.u32_in _ (by omega))) ?_
  refine L_val (.int .u16 m) (by rfl) (by rfl) (gives_value _ fun _ => by rfl) ?_
  refine L_val (.int .u32 m) (by rfl) (by rfl) (gives_conv (k2 := .u32) (m) (m) (by rfl) und_u16 und_u32 (IntWalk.u32_in _ (by omega))) ?_
  refine L_val (.int .u32 (n + m)) (by rfl) (by rfl) (gives_add (k := .u32) (n) (m) (n + m) (by rfl) (by rfl) (IntWalk.u32_in _ (by omega))) ?_
  refine L_val (.int .u32 (n + m)) (by rfl) (by rfl) (gives_value _ fun _ => by rfl) ?_
  refine L_end ?_
  intro w5 hw5
  refine seq_plain hw5 [0, 1, 2, 3, 4, 5, 6, 7, 8, 9] (by rfl) ?_
  refine L_val (.agg (c12 (x_1))) (by rfl) (by rfl) (gives_load g2 0 51 (c12 (x_1)) (c12 (x_1)) _ (by rfl) (fun _ h => h.blk 0 (by rfl)) (Sl.refl _) Tryd.underlying51 (by rfl) (hi_12 _)) ?_
  refine L_val (.int .u16 n) (by rfl) (by rfl) (gives_value _ fun _ => by rfl) ?_
  refine L_val (.int .u16 (n / 256)) (by rfl) (by rfl) (gives_shr (k := .u16) (k2 := .u64) (n) 8 (n / 256) (by rfl) (by rfl) (by omega) (shr_8u16 _)) ?_
  refine L_val (.int .u8 ((n / 256) % 256)) (by rfl) (by rfl) (gives_conv (k2 := .u8) (n / 256) ((n / 256) % 256) (by rfl) und_u16 und_u8' (u8wrap _)) ?_
  refine L_val (.int .u16 n) (by rfl) (by rfl) (gives_value _ fun _ => by rfl) ?_
  refine L_val (.int .u8 (n % 256)) (by rfl) (by rfl) (gives_conv (k2 := .u8) (n) (n % 256) (by rfl) und_u16 und_u8' (u8wrap _)) ?_
  refine L_build2 ((n / 256) % 256) (n % 256) (by rfl) (by rfl) Want.none (by rfl) (by rfl) ?_; intro g3
  refine L_val (.agg (c12 (pw (x_1) (num [(n / 256) % 256, n % 256]).toNat))) (by rfl) (by rfl) (gives_call (vl := [.agg (c12 (x_1)), .slice (some ⟨g3, 0, none⟩) 2 2]) (by kernel_rfl) (by rfl) (fun w h => t_power _ _ _ _ [(n / 256) % 256, n % 256] w (hG.keep h.below) (copy_reads (bs := [(n / 256) % 256, n % 256]) (h.blk 0 (by rfl)) rfl) (by intro b hb; simp at hb; omega) (by omega))) ?_
  refine L_alloc _ (by rfl) (by rfl) z_12 (c12 (0 : T12)) rfl ?_; intro g4
  refine L_store (t := 51) 0 g4 (c12 (0 : T12)) (c12 (pw (x_1) (num [(n / 256) % 256, n % 256]).toNat)) (by rfl) (by rfl) (by rfl) (by rfl) (by rfl) (hi_12 _) ((c12_size _).trans (c12_size _).symm) (c12_one _) ?_
  simp only [List.set_cons_zero, List.set_cons_succ]
  refine L_end ?_
  intro w6 hw6
  refine seq_plain hw6 [0, 1, 2, 3, 4, 5, 6, 7, 8, 9] (by rfl) ?_
  refine L_val (.agg (c12 (x_1))) (by rfl) (by rfl) (gives_load g2 0 51 (c12 (x_1)) (c12 (x_1)) _ (by rfl) (fun _ h => h.blk 2 (by rfl)) (Sl.refl _) Tryd.underlying51 (by rfl) (hi_12 _)) ?_
  refine L_val (.int .u16 m) (by rfl) (by rfl) (gives_value _ fun _ => by rfl) ?_
  refine L_val (.int .u16 (m / 256)) (by rfl) (by rfl) (gives_shr (k := .u16) (k2 := .u64) (m) 8 (m / 256) (by rfl) (by rfl) (by omega) (shr_8u16 _)) ?_
  refine L_val (.int .u8 ((m / 256) % 256)) (by rfl) (by rfl) (gives_conv (k2 := .u8) (m / 256) ((m / 256) % 256) (by rfl) und_u16 und_u8' (u8wrap _)) ?_
  refine L_val (.int .u16 m) (by rfl) (by rfl) (gives_value _ fun _ => by rfl) ?_
  refine L_val (.int .u8 (m % 256)) (by rfl) (by rfl) (gives_conv (k2 := .u8) (m) (m % 256) (by rfl) und_u16 und_u8' (u8wrap _)) ?_
  refine L_build3 0 ((m / 256) % 256) (m % 256) (by rfl) (by rfl) Want.none (by rfl) (by rfl) (by rfl) ?_; intro g5
  refine L_val (.agg (c12 (pw (x_1) (num [0, (m / 256) % 256, m % 256]).toNat))) (by rfl) (by rfl) (gives_call (vl := [.agg (c12 (x_1)), .slice (some ⟨g5, 0, none⟩) 3 3]) (by kernel_rfl) (by rfl) (fun w h => t_power _ _ _ _ [0, (m / 256) % 256, m % 256] w (hG.keep h.below) (copy_reads (bs := [0, (m / 256) % 256, m % 256]) (h.blk 0 (by rfl)) rfl) (by intro b hb; simp at hb; omega) (by omega))) ?_
  refine L_alloc _ (by rfl) (by rfl) z_12 (c12 (0 : T12)) rfl ?_; intro g6
  refine L_store (t := 51) 0 g6 (c12 (0 : T12)) (c12 (pw (x_1) (num [0, (m / 256) % 256, m % 256]).toNat)) (by rfl) (by rfl) (by rfl) (by rfl) (by rfl) (hi_12 _) ((c12_size _).trans (c12_size _).symm) (c12_one _) ?_
  simp only [List.set_cons_zero, List.set_cons_succ]
  refine L_end ?_
  intro w7 hw7
  refine seq_flow (by kernel_rfl) hw7 [] [(g6, 51, (c12 (pw (x_1) (num [0, (m / 256) % 256, m % 256]).toNat))), (g5, 5, (ag8 [0, (m / 256) % 256, m % 256])), (g4, 51, (c12 (pw (x_1) (num [(n / 256) % 256, n % 256]).toNat))), (g3, 5, (ag8 [(n / 256) % 256, n % 256])), (g2, 51, (c12 (x_1))), (g1, 47, u_1)] 29 (by rfl) ?_
  refine flow_take (i := 0) (.agg (c12 (pw (x_1) (num [(n / 256) % 256, n % 256]).toNat))) (by rfl) (by kernel_rfl) (by kernel_rfl) (by kernel_rfl) (by rfl) (by kernel_rfl) (List.Sublist.refl _) (gives_load g4 0 51 (c12 (pw (x_1) (num [(n / 256) % 256, n % 256]).toNat)) (c12 (pw (x_1) (num [(n / 256) % 256, n % 256]).toNat)) _ (by rfl) (fun _ h => h.blk 2 (by rfl)) (Sl.refl _) Tryd.underlying51 (by rfl) (hi_12 _)) ?_
  refine flow_take (i := 1) (.agg (c12 (pw (x_1) (num [0, (m / 256) % 256, m % 256]).toNat))) (by rfl) (by kernel_rfl) (by kernel_rfl) (by kernel_rfl) (by rfl) (by kernel_rfl) (List.Sublist.refl _) (gives_load g6 0 51 (c12 (pw (x_1) (num [0, (m / 256) % 256, m % 256]).toNat)) (c12 (pw (x_1) (num [0, (m / 256) % 256, m % 256]).toNat)) _ (by rfl) (fun _ h => h.blk 0 (by rfl)) (Sl.refl _) Tryd.underlying51 (by rfl) (hi_12 _)) ?_
  refine flow_take (i := 2) (.agg (c12 ((pw (x_1) (num [(n / 256) % 256, n % 256]).toNat) * (pw (x_1) (num [0, (m / 256) % 256, m % 256]).toNat)))) (by rfl) (by kernel_rfl) (by kernel_rfl) (by kernel_rfl) (by rfl) (by kernel_rfl) (List.Sublist.refl _) (gives_call (vl := [.agg (c12 (pw (x_1) (num [(n / 256) % 256, n % 256]).toNat)), .agg (c12 (pw (x_1) (num [0, (m / 256) % 256, m % 256]).toNat))]) (by kernel_rfl) (by rfl) (fun w h => t_mul _ _ w (hG.keep h.below))) ?_
  refine flow_take (i := 3) (.agg (c12 (x_1))) (by rfl) (by kernel_rfl) (by kernel_rfl) (by kernel_rfl) (by rfl) (by kernel_rfl) (List.Sublist.refl _) (gives_load g2 0 51 (c12 (x_1)) (c12 (x_1)) _ (by rfl) (fun _ h => h.blk 4 (by rfl)) (Sl.refl _) Tryd.underlying51 (by rfl) (hi_12 _)) ?_
  refine flow_take (i := 4) (.int .u32 (n + m)) (by rfl) (by kernel_rfl) (by kernel_rfl) (by kernel_rfl) (by rfl) (by kernel_rfl) (List.Sublist.refl _) (gives_value _ fun _ => by rfl) ?_
  refine flow_take (i := 5) (.int .u32 ((n + m) / 65536)) (by rfl) (by kernel_rfl) (by kernel_rfl) (by kernel_rfl) (by rfl) (by kernel_rfl) (List.Sublist.refl _) (gives_shr (k := .u32) (k2 := .u64) (n + m) 16 ((n + m) / 65536) (by rfl) (by rfl) (by omega) (shr_16 _ (by omega))) ?_
  refine flow_take (i := 6) (.int .u8 (((n + m) / 65536) % 256)) (by rfl) (by kernel_rfl) (by kernel_rfl) (by kernel_rfl) (by rfl) (by kernel_rfl) (List.Sublist.refl _) (gives_conv (k2 := .u8) ((n + m) / 65536) (((n + m) / 65536) % 256) (by rfl) und_u32 und_u8' (u8wrap _)) ?_
  refine flow_take (i := 7) (.int .u32 (n + m)) (by rfl) (by kernel_rfl) (by kernel_rfl) (by kernel_rfl) (by rfl) (by kernel_rfl) (List.Sublist.refl _) (gives_value _ fun _ => by rfl) ?_
  refine flow_take (i := 8) (.int .u32 ((n + m) / 256)) (by rfl) (by kernel_rfl) (by kernel_rfl) (by kernel_rfl) (by rfl) (by kernel_rfl) (List.Sublist.refl _) (gives_shr (k := .u32) (k2 := .u64) (n + m) 8 ((n + m) / 256) (by rfl) (by rfl) (by omega) (shr_8u32 _)) ?_
  refine flow_take (i := 9) (.int .u8 (((n + m) / 256) % 256)) (by rfl) (by kernel_rfl) (by kernel_rfl) (by kernel_rfl) (by rfl) (by kernel_rfl) (List.Sublist.refl _) (gives_conv (k2 := .u8) ((n + m) / 256) (((n + m) / 256) % 256) (by rfl) und_u32 und_u8' (u8wrap _)) ?_
  refine flow_take (i := 10) (.int .u32 (n + m)) (by rfl) (by kernel_rfl) (by kernel_rfl) (by kernel_rfl) (by rfl) (by kernel_rfl) (List.Sublist.refl _) (gives_value _ fun _ => by rfl) ?_
  refine flow_take (i := 11) (.int .u8 ((n + m) % 256)) (by rfl) (by kernel_rfl) (by kernel_rfl) (by kernel_rfl) (by rfl) (by kernel_rfl) (List.Sublist.refl _) (gives_conv (k2 := .u8) (n + m) ((n + m) % 256) (by rfl) und_u32 und_u8' (u8wrap _)) ?_
  refine flow_one 12 (by kernel_rfl) ?_
  refine F_build3 (((n + m) / 65536) % 256) (((n + m) / 256) % 256) ((n + m) % 256) (by rfl) (by rfl) Want.none (by rfl) (by rfl) (by rfl) (List.Sublist.refl _) ?_; intro g7
  refine flow_one 13 (by kernel_rfl) ?_
  refine F_val (vl := [.agg (c12 (x_1)), .slice (some ⟨g7, 0, none⟩) 3 3]) (.agg (c12 (pw (x_1) (num [((n + m) / 65536) % 256, ((n + m) / 256) % 256, (n + m) % 256]).toNat))) (by rfl) (by rfl) Want.none (by kernel_rfl) (by rfl) (List.Sublist.cons _ (List.Sublist.refl _)) (fun w h => t_power _ _ _ _ [((n + m) / 65536) % 256, ((n + m) / 256) % 256, (n + m) % 256] w (hG.keep h.below) (copy_reads (bs := [((n + m) / 65536) % 256, ((n + m) / 256) % 256, (n + m) % 256]) (h.blk 0 (by rfl)) rfl) (by intro b hb; simp at hb; omega) (by omega)) ?_
  refine flow_take (i := 14) (.bool true) (by rfl) (by kernel_rfl) (by kernel_rfl) (by kernel_rfl) (by rfl) (by kernel_rfl) (List.Sublist.cons _ (List.Sublist.refl _)) (gives_eql (c12 ((pw (x_1) (num [(n / 256) % 256, n % 256]).toNat) * (pw (x_1) (num [0, (m / 256) % 256, m % 256]).toNat))) (c12 (pw (x_1) (num [((n + m) / 65536) % 256, ((n + m) / 256) % 256, (n + m) % 256]).toNat)) true (by rfl) (by rfl) (by kernel_rfl) (fun w => eq_12_t (d := 9994) w (powers_add _ n m hn hm))) ?_
  refine flow_take (i := 15) (.bool true) (by rfl) (by kernel_rfl) (by kernel_rfl) (by kernel_rfl) (by rfl) (by kernel_rfl) (List.Sublist.cons _ (List.Sublist.refl _)) (gives_value _ fun _ => by rfl) ?_
  refine flow_take_g (i := 16) (dj := 57) (.agg (c12 (x_1))) (by rfl) (by kernel_rfl) (by kernel_rfl) (by kernel_rfl) (by rfl) (by kernel_rfl) (List.Sublist.cons _ (List.Sublist.refl _)) (by rfl) (by rfl) (by rfl) (gives_load g2 0 51 (c12 (x_1)) (c12 (x_1)) _ (by rfl) (fun _ h => h.blk 4 (by rfl)) (Sl.refl _) Tryd.underlying51 (by rfl) (hi_12 _)) ?_
  refine flow_one 17 (by kernel_rfl) ?_
  refine F_val (vl := [.agg (c12 (x_1)), .slice none 0 0]) (.agg (c12 (pw (x_1) (num []).toNat))) (by rfl) (by rfl) (Want.some (dj := 57) (by rfl) (by rfl) (by rfl) (by rfl)) (by kernel_rfl) (by rfl) (List.Sublist.cons _ (List.Sublist.refl _)) (fun w h => t_power _ none 0 0 [] w (hG.keep h.below) Reads.nil_ Oct.nil (by omega)) ?_
  refine flow_take_g (i := 18) (dj := 57) (.agg (c12 (1 : T12))) (by rfl) (by kernel_rfl) (by kernel_rfl) (by kernel_rfl) (by rfl) (by kernel_rfl) (List.Sublist.cons _ (List.Sublist.refl _)) (by rfl) (by rfl) (by rfl) (gives_call (vl := []) (by kernel_rfl) (by rfl) (fun w h => t_one w (hG.keep h.below))) ?_
  refine flow_take_g (i := 19) (dj := 57) (.bool true) (by rfl) (by kernel_rfl) (by kernel_rfl) (by kernel_rfl) (by rfl) (by kernel_rfl) (List.Sublist.cons _ (List.Sublist.refl _)) (by rfl) (by rfl) (by rfl) (gives_eql (c12 (pw (x_1) (num []).toNat)) (c12 (1 : T12)) true (by rfl) (by rfl) (by kernel_rfl) (fun w => eq_12_t (d := 9994) w (rfl : pw _ 0 = (1 : T12)))) ?_
  refine flow_take (i := 20) (.bool true) (by rfl) (by kernel_rfl) (by kernel_rfl) (by kernel_rfl) (by rfl) (by kernel_rfl) (List.Sublist.cons _ (List.Sublist.refl _)) (gives_value _ fun _ => by rfl) ?_
  refine flow_take (i := 21) (.bool true) (by rfl) (by kernel_rfl) (by kernel_rfl) (by kernel_rfl) (by rfl) (by kernel_rfl) (List.Sublist.cons _ (List.Sublist.refl _)) (gives_value _ fun _ => by rfl) ?_
  refine flow_take_g (i := 22) (dj := 63) (.agg (c12 (x_1))) (by rfl) (by kernel_rfl) (by kernel_rfl) (by kernel_rfl) (by rfl) (by kernel_rfl) (List.Sublist.cons _ (List.Sublist.refl _)) (by rfl) (by rfl) (by rfl) (gives_load g2 0 51 (c12 (x_1)) (c12 (x_1)) _ (by rfl) (fun _ h => h.blk 4 (by rfl)) (Sl.refl _) Tryd.underlying51 (by rfl) (hi_12 _)) ?_
  refine flow_take_g (i := 25) (dj := 63) (.agg (c12 (x_1))) (by rfl) (by kernel_rfl) (by kernel_rfl) (by kernel_rfl) (by rfl) (by kernel_rfl) (List.Sublist.cons _ (List.Sublist.refl _)) (by rfl) (by rfl) (by rfl) (gives_load g2 0 51 (c12 (x_1)) (c12 (x_1)) _ (by rfl) (fun _ h => h.blk 4 (by rfl)) (Sl.refl _) Tryd.underlying51 (by rfl) (hi_12 _)) ?_
  refine flow_one 23 (by kernel_rfl) ?_
  refine F_build2 0 1 (by rfl) (by rfl) (Want.some (dj := 63) (by rfl) (by rfl) (by rfl) (by rfl)) (by rfl) (by rfl) (List.Sublist.cons _ (List.Sublist.refl _)) ?_; intro g8
  refine flow_one 24 (by kernel_rfl) ?_
  refine F_val (vl := [.agg (c12 (x_1)), .slice (some ⟨g8, 0, none⟩) 2 2]) (.agg (c12 (pw (x_1) (num [0, 1]).toNat))) (by rfl) (by rfl) (Want.some (dj := 63) (by rfl) (by rfl) (by rfl) (by rfl)) (by kernel_rfl) (by rfl) (List.Sublist.cons _ (List.Sublist.cons _ (List.Sublist.refl _))) (fun w h => t_power _ _ _ _ [0, 1] w (hG.keep h.below) (copy_reads (bs := [0, 1]) (h.blk 0 (by rfl)) rfl) (by intro b hb; simp at hb; omega) (by omega)) ?_
  refine flow_take_g (i := 26) (dj := 63) (.bool true) (by rfl) (by kernel_rfl) (by kernel_rfl) (by kernel_rfl) (by rfl) (by kernel_rfl) (List.Sublist.cons _ (List.Sublist.cons _ (List.Sublist.refl _))) (by rfl) (by rfl) (by rfl) (gives_eql (c12 (pw (x_1) (num [0, 1]).toNat)) (c12 (x_1)) true (by rfl) (by rfl) (by kernel_rfl) (fun w => eq_12_t (d := 9994) w (powers_one _))) ?_
  refine flow_take (i := 27) (.bool true) (by rfl) (by kernel_rfl) (by kernel_rfl) (by kernel_rfl) (by rfl) (by kernel_rfl) (List.Sublist.cons _ (List.Sublist.cons _ (List.Sublist.refl _))) (gives_value _ fun _ => by rfl) ?_
  refine flow_take (i := 28) (.bool true) (by rfl) (by kernel_rfl) (by kernel_rfl) (by kernel_rfl) (by rfl) (by kernel_rfl) (List.Sublist.cons _ (List.Sublist.cons _ (List.Sublist.refl _))) (gives_value _ fun _ => by rfl) ?_
  refine flow_done (by kernel_rfl) ?_
  intro w8 hw8
  refine wp_ret ?_
  change bodyPost _ _ _ Exit.ret _ _
  refine (ret_tmp (by rfl) (by rfl) (by rfl) ⟨rfl, hw8.below⟩)
theorem t_powers_any (A0 : Option Addr) (L0 C0 : Nat) (bs0 : List Int) (n m : Int) (v : World) (hG : Glo v) (hr0 : Reads v v.heap.size A0 L0 (bs0.map (Value.int .u8))) (ho0 : Oct bs0) (hn : 0 ≤ n ∧ n < 65536) (hm : 0 ≤ m ∧ m < 65536) : Rets 9 #[.slice A0 L0 C0, .int .u16 n, .int .u16 m] v (.bool true) := by
  by_cases hlong : 2000 < L0
  · exact t_powers_long A0 L0 C0 bs0 n m v hG hr0 ho0 hn hm hlong
  · exact t_powers_short A0 L0 C0 bs0 n m v hG hr0 ho0 hn hm (by omega)
end Go.Proofs.YtnebmgiajfbnaaaDoor
