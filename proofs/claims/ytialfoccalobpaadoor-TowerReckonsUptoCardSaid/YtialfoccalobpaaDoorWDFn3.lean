/-
  Layer 5's reference by elements of the field: Add, Sub, Mul, Norm, Of, Bytes; the law's number and is.
-/
import Derived.Test.YtialfoccalobpaaDoorWDFn2
namespace Go.Proofs.YtialfoccalobpaaDoor
set_option linter.unusedSimpArgs false
set_option linter.unusedVariables false
open Go.RowKit
theorem Fp.val_lt (x : Fp) : (x.val : Int) < Mp := by
  have := x.isLt
  unfold Mp
  unfold Pn at this
  omega
theorem fv_rng (x : Fp) : 0 ≤ (x.val : Int) ∧ (x.val : Int) < 65536 ^ 24 := ⟨Int.natCast_nonneg _, Int.lt_trans (Fp.val_lt x) Mp_24⟩
theorem fv_le (x y : Fp) : (y.val : Int) ≤ (x.val : Int) + Mp := by
  have := Fp.val_lt y
  have := Int.natCast_nonneg x.val
  omega
theorem nil5 (w : World) : NumAt w none 0 (((0 : Fp)).val : Int) := NumAt.nil w
theorem fv_n (x : Fp) (k : Int) (h : Fp.n k = x) : k % Mp = (x.val : Int) := (is_of h).symm
theorem fv_add (x y : Fp) : ((x.val : Int) + (y.val : Int)) % Mp = ((x + y : Fp).val : Int) := fv_n _ _ (by rw [Fp.n_add, Fp.n_of, Fp.n_of])
theorem fv_mul (x y : Fp) : ((x.val : Int) * (y.val : Int)) % Mp = ((x * y : Fp).val : Int) := fv_n _ _ (by rw [Fp.n_mul, Fp.n_of, Fp.n_of])
theorem fv_sub (x y : Fp) : ((x.val : Int) + Mp - (y.val : Int)) % Mp = ((x - y : Fp).val : Int) := fv_n _ _ (by rw [Fp.n_sub, Fp.n_add, Fp.n_of, Fp.n_of, Fp.n_Mp, Fp.cr.add_zero])
theorem fv_mula (x y z u : Fp) : ((x.val : Int) * (y.val : Int) % Mp + Mp - (z.val : Int) * (u.val : Int) % Mp) % Mp = ((x * y - z * u : Fp).val : Int) := by rw [fv_mul, fv_mul, fv_sub]
theorem fv_mulb (x y z u : Fp) : ((x.val : Int) * (y.val : Int) % Mp + (z.val : Int) * (u.val : Int) % Mp) % Mp = ((x * y + z * u : Fp).val : Int) := by rw [fv_mul, fv_mul, fv_add]
theorem read5 (x : F2) (g c : Nat) (w : World) (hG : Glo w) (hr : Reads w w.heap.size (some ⟨g, 0, none⟩) (48 + 48) ((lo (x.b.val : Int) 48 ++ lo (x.a.val : Int) 48).map (Value.int .u8))) (hc : 96 ≤ c) : Rets 83 #[.slice (some ⟨g, 0, none⟩) (48 + 48) c] w (.tuple #[.agg (c2 x), .int .i64 0]) := by
  have hl : (lo (x.b.val : Int) 48).length = 48 := lo_len _ _
  have e1 : (lo (x.b.val : Int) 48 ++ lo (x.a.val : Int) 48).take 48 = lo (x.b.val : Int) 48 := List.take_left' hl
  have e2 : (lo (x.b.val : Int) 48 ++ lo (x.a.val : Int) 48).drop 48 = lo (x.a.val : Int) 48 := List.drop_left' hl
  have e3 : ∀ y : Fp, num (lo (y.val : Int) 48) = (y.val : Int) := fun y => by
    rw [num_lo]
    exact Int.emod_eq_of_lt (Int.natCast_nonneg _) (Int.lt_trans (Fp.val_lt y) (by unfold Mp; decide))
  have h := q_read_ok g 0 c _ w hG hr (fun b hb => by
    rcases List.mem_append.1 hb with hb | hb
    · exact lo_oct _ _ _ hb
    · exact lo_oct _ _ _ hb) hc (by rw [e1, e3]; exact Fp.val_lt _) (by rw [e2, e3]; exact Fp.val_lt _)
  rw [e1, e2, e3, e3, Fp.n_of, Fp.n_of] at h
  exact h
theorem hi_NN (u v : Value) : (Tryd.prog.info? 77).map (·.size) = some (#[u, v]).size := hi_N
theorem all_reads {w : World} {g : Nat} {t : TypeId} {x : F2} (h : Blk w g t (b96c x)) : Reads w w.heap.size (some ⟨g, 0, none⟩) 96 ((lo (x.b.val : Int) 48 ++ lo (x.a.val : Int) 48).map (Value.int .u8)) := copy_reads h (by rw [List.length_append, lo_len, lo_len])
theorem one_N {u v : Value} (h1 : u.oneCell' = true) (h2 : v.oneCell' = true) : (#[u, v]).all (·.oneCell') = true := by simp [h1, h2]
attribute [local irreducible] wpL wpF fr Code.wp bodyPost
set_option maxRecDepth 100000 in
set_option maxHeartbeats 4000000 in
theorem l5_add (x y : F2) (A0 : Option Addr) (n0 c0 : Nat) (A1 : Option Addr) (n1 c1 : Nat) (A2 : Option Addr) (n2 c2 : Nat) (A3 : Option Addr) (n3 c3 : Nat) (v : World) (h0 : NumAt v A0 n0 ((x).a.val : Int)) (h1 : NumAt v A1 n1 ((x).b.val : Int)) (s0 : n0 ≤ 24) (s1 : n1 ≤ 24) (h2 : NumAt v A2 n2 ((y).a.val : Int)) (h3 : NumAt v A3 n3 ((y).b.val : Int)) (s2 : n2 ≤ 24) (s3 : n3 ≤ 24) : RetsY 100 100 (fun g cap g2 cap2 => .agg #[.slice (some ⟨g, 0, none⟩) 24 cap, .slice (some ⟨g2, 0, none⟩) 24 cap2]) (fun cap cs cap2 cs2 => WB cs cap 24 ((x + y).a.val : Int) ∧ WB cs2 cap2 24 ((x + y).b.val : Int)) 101 #[.agg #[.slice A0 n0 c0, .slice A1 n1 c1], .agg #[.slice A2 n2 c2, .slice A3 n3 c3]] v := by
  refine calls_fr2 Tryd.func101 rfl (by rfl : _ = 20) (by rfl) ?_
  have hw := Hbl.nil v
  refine seq_plain hw [0, 1, 2] (by rfl) ?_
  refine L_box (.agg #[.slice A0 n0 c0, .slice A1 n1 c1]) (by rfl) (by rfl) (by rfl) #[.slice A0 n0 c0, .slice A1 n1 c1] (by rfl) ?_; intro g1
  refine L_box (.agg #[.slice A2 n2 c2, .slice A3 n3 c3]) (by rfl) (by rfl) (by rfl) #[.slice A2 n2 c2, .slice A3 n3 c3] (by rfl) ?_; intro g2
  refine L_alloc _ (by rfl) (by rfl) z_N #[.slice none 0 0, .slice none 0 0] rfl ?_; intro g3
  refine L_end ?_
  intro w1 hw1
  refine seq_plain hw1 [0, 1] (by rfl) ?_
  refine L_freshW (vl := []) (24) (Mp) (by rfl) (by rfl) (by kernel_rfl) (by rfl) (fun w h => m_04 w) ?_; intro g4 cap_1 cs_1 hwb_1
  refine L_val (.slice (some ⟨g4, 0, none⟩) (24) cap_1) (by rfl) (by rfl) (gives_value _ fun _ => by rfl) ?_
  refine L_end ?_
  intro w2 hw2
  refine seq_flow (by kernel_rfl) hw2 [] [(g4, 100, cs_1), (g2, 77, #[.slice A2 n2 c2, .slice A3 n3 c3]), (g1, 77, #[.slice A0 n0 c0, .slice A1 n1 c1])] 14 (by rfl) ?_
  refine flow_take (i := 0) (.pointer (some ⟨g1, 0, none⟩)) (by rfl) (by kernel_rfl) (by kernel_rfl) (by kernel_rfl) (by rfl) (by kernel_rfl) (List.Sublist.cons_cons _ (List.Sublist.cons _ (List.Sublist.refl _))) (gives_value _ fun _ => by kernel_rfl) ?_
  refine flow_take (i := 1) (.slice A0 n0 c0) (by rfl) (by kernel_rfl) (by kernel_rfl) (by kernel_rfl) (by rfl) (by kernel_rfl) (List.Sublist.cons_cons _ (List.Sublist.cons _ (List.Sublist.refl _))) (gives_loadS g1 0 #[.slice A0 n0 c0, .slice A1 n1 c1] (.slice A0 n0 c0) (by rfl) (fun _ h => h.blk 2 (by rfl)) (by rfl) und_u32s) ?_
  refine flow_take (i := 2) (.pointer (some ⟨g2, 0, none⟩)) (by rfl) (by kernel_rfl) (by kernel_rfl) (by kernel_rfl) (by rfl) (by kernel_rfl) (List.Sublist.cons_cons _ (List.Sublist.cons _ (List.Sublist.refl _))) (gives_value _ fun _ => by kernel_rfl) ?_
  refine flow_take (i := 3) (.slice A2 n2 c2) (by rfl) (by kernel_rfl) (by kernel_rfl) (by kernel_rfl) (by rfl) (by kernel_rfl) (List.Sublist.cons_cons _ (List.Sublist.cons _ (List.Sublist.refl _))) (gives_loadS g2 0 #[.slice A2 n2 c2, .slice A3 n3 c3] (.slice A2 n2 c2) (by rfl) (fun _ h => h.blk 1 (by rfl)) (by rfl) und_u32s) ?_
  refine flow_take (i := 4) (.slice (some ⟨g4, 0, none⟩) (24) cap_1) (by rfl) (by kernel_rfl) (by kernel_rfl) (by kernel_rfl) (by rfl) (by kernel_rfl) (List.Sublist.cons_cons _ (List.Sublist.cons _ (List.Sublist.refl _))) (gives_value _ fun _ => by rfl) ?_
  refine flow_take (i := 6) (.pointer (some ⟨g1, 1, none⟩)) (by rfl) (by kernel_rfl) (by kernel_rfl) (by kernel_rfl) (by rfl) (by kernel_rfl) (List.Sublist.cons_cons _ (List.Sublist.cons _ (List.Sublist.refl _))) (gives_value _ fun _ => by kernel_rfl) ?_
  refine flow_take (i := 7) (.slice A1 n1 c1) (by rfl) (by kernel_rfl) (by kernel_rfl) (by kernel_rfl) (by rfl) (by kernel_rfl) (List.Sublist.cons_cons _ (List.Sublist.cons _ (List.Sublist.refl _))) (gives_loadS g1 1 #[.slice A0 n0 c0, .slice A1 n1 c1] (.slice A1 n1 c1) (by rfl) (fun _ h => h.blk 2 (by rfl)) (by rfl) und_u32s) ?_
  refine flow_take (i := 8) (.pointer (some ⟨g2, 1, none⟩)) (by rfl) (by kernel_rfl) (by kernel_rfl) (by kernel_rfl) (by rfl) (by kernel_rfl) (List.Sublist.cons_cons _ (List.Sublist.cons _ (List.Sublist.refl _))) (gives_value _ fun _ => by kernel_rfl) ?_
  refine flow_take (i := 9) (.slice A3 n3 c3) (by rfl) (by kernel_rfl) (by kernel_rfl) (by kernel_rfl) (by rfl) (by kernel_rfl) (List.Sublist.cons_cons _ (List.Sublist.cons _ (List.Sublist.refl _))) (gives_loadS g2 1 #[.slice A2 n2 c2, .slice A3 n3 c3] (.slice A3 n3 c3) (by rfl) (fun _ h => h.blk 1 (by rfl)) (by rfl) und_u32s) ?_
  refine flow_take (i := 10) (.slice (some ⟨g4, 0, none⟩) (24) cap_1) (by rfl) (by kernel_rfl) (by kernel_rfl) (by kernel_rfl) (by rfl) (by kernel_rfl) (List.Sublist.cons_cons _ (List.Sublist.cons _ (List.Sublist.refl _))) (gives_value _ fun _ => by rfl) ?_
  refine flow_one 5 (by kernel_rfl) ?_
  refine F_freshW (vl := [.slice A0 n0 c0, .slice A2 n2 c2, .slice (some ⟨g4, 0, none⟩) (24) cap_1]) (24) ((((x).a.val : Int) + ((y).a.val : Int)) % Mp) (by rfl) (by rfl) Want.none (by kernel_rfl) (by rfl) (List.Sublist.cons_cons _ (List.Sublist.cons _ (List.Sublist.refl _))) (fun w h => n_add w _ _ _ _ _ _ _ _ _ _ _ _ (h0.of h) (h2.of h) (hwb_1.num (h.blk 0 (by rfl)) ⟨Int.le_of_lt Mp_pos, Mp_24⟩ (by omega)) Mp_pos (by omega)) ?_; intro g5 cap_2 cs_2 hwb_2
  refine flow_one 11 (by kernel_rfl) ?_
  refine F_freshW (vl := [.slice A1 n1 c1, .slice A3 n3 c3, .slice (some ⟨g4, 0, none⟩) (24) cap_1]) (24) ((((x).b.val : Int) + ((y).b.val : Int)) % Mp) (by rfl) (by rfl) Want.none (by kernel_rfl) (by rfl) (List.Sublist.cons _ (List.Sublist.cons_cons _ (List.Sublist.cons _ (List.Sublist.refl _)))) (fun w h => n_add w _ _ _ _ _ _ _ _ _ _ _ _ (h1.of h) (h3.of h) (hwb_1.num (h.blk 1 (by rfl)) ⟨Int.le_of_lt Mp_pos, Mp_24⟩ (by omega)) Mp_pos (by omega)) ?_; intro g6 cap_3 cs_3 hwb_3
  refine flow_take (i := 12) (.agg #[.slice (some ⟨g5, 0, none⟩) (24) cap_2, .slice (some ⟨g6, 0, none⟩) (24) cap_3]) (by rfl) (by kernel_rfl) (by kernel_rfl) (by kernel_rfl) (by rfl) (by kernel_rfl) (List.Sublist.cons _ (List.Sublist.cons _ (List.Sublist.cons_cons _ (List.Sublist.cons _ (List.Sublist.refl _))))) (gives_buildN (.slice (some ⟨g5, 0, none⟩) (24) cap_2) (.slice (some ⟨g6, 0, none⟩) (24) cap_3) (by rfl) (by rfl) (by rfl) (by rfl)) ?_
  refine flow_one 13 (by kernel_rfl) ?_
  refine F_store (t := 77) 3 g3 #[.slice none 0 0, .slice none 0 0] #[.slice (some ⟨g5, 0, none⟩) (24) cap_2, .slice (some ⟨g6, 0, none⟩) (24) cap_3] (by rfl) (by rfl) (by rfl) (by rfl) (by rfl) (hi_NN _ _) (by rfl) (one_N (by rfl) (by rfl)) (.inr (List.Sublist.cons _ (List.Sublist.cons _ (List.Sublist.cons_cons _ (List.Sublist.cons _ (List.Sublist.refl _)))))) ?_
  simp only [List.set_cons_zero, List.set_cons_succ]
  refine flow_done (by kernel_rfl) ?_
  intro w3 hw3
  refine wp_ret ?_
  change bodyPost _ _ _ Exit.ret _ _
  refine (ret_cell (by rfl) (by rfl) (by rfl) (hw3.blk 3 (by rfl)) Tryd.underlying77 (by rfl) (hi_NN _ _) ⟨_, _, _, _, _, _, rfl, ⟨hwb_2.val (fv_add _ _), hwb_3.val (fv_add _ _)⟩, hw3.pick2 1 0 (by rfl) (by rfl) (by rfl)⟩)
set_option maxRecDepth 100000 in
set_option maxHeartbeats 4000000 in
theorem l5_sub (x y : F2) (A0 : Option Addr) (n0 c0 : Nat) (A1 : Option Addr) (n1 c1 : Nat) (A2 : Option Addr) (n2 c2 : Nat) (A3 : Option Addr) (n3 c3 : Nat) (v : World) (h0 : NumAt v A0 n0 ((x).a.val : Int)) (h1 : NumAt v A1 n1 ((x).b.val : Int)) (s0 : n0 ≤ 24) (s1 : n1 ≤ 24) (h2 : NumAt v A2 n2 ((y).a.val : Int)) (h3 : NumAt v A3 n3 ((y).b.val : Int)) (s2 : n2 ≤ 24) (s3 : n3 ≤ 24) : RetsY 100 100 (fun g cap g2 cap2 => .agg #[.slice (some ⟨g, 0, none⟩) 24 cap, .slice (some ⟨g2, 0, none⟩) 24 cap2]) (fun cap cs cap2 cs2 => WB cs cap 24 ((x - y).a.val : Int) ∧ WB cs2 cap2 24 ((x - y).b.val : Int)) 50 #[.agg #[.slice A0 n0 c0, .slice A1 n1 c1], .agg #[.slice A2 n2 c2, .slice A3 n3 c3]] v := by
  refine calls_fr2 Tryd.func50 rfl (by rfl : _ = 20) (by rfl) ?_
  have hw := Hbl.nil v
  refine seq_plain hw [0, 1, 2] (by rfl) ?_
  refine L_box (.agg #[.slice A0 n0 c0, .slice A1 n1 c1]) (by rfl) (by rfl) (by rfl) #[.slice A0 n0 c0, .slice A1 n1 c1] (by rfl) ?_; intro g1
  refine L_box (.agg #[.slice A2 n2 c2, .slice A3 n3 c3]) (by rfl) (by rfl) (by rfl) #[.slice A2 n2 c2, .slice A3 n3 c3] (by rfl) ?_; intro g2
  refine L_alloc _ (by rfl) (by rfl) z_N #[.slice none 0 0, .slice none 0 0] rfl ?_; intro g3
  refine L_end ?_
  intro w1 hw1
  refine seq_plain hw1 [0, 1] (by rfl) ?_
  refine L_freshW (vl := []) (24) (Mp) (by rfl) (by rfl) (by kernel_rfl) (by rfl) (fun w h => m_04 w) ?_; intro g4 cap_1 cs_1 hwb_1
  refine L_val (.slice (some ⟨g4, 0, none⟩) (24) cap_1) (by rfl) (by rfl) (gives_value _ fun _ => by rfl) ?_
  refine L_end ?_
  intro w2 hw2
  refine seq_flow (by kernel_rfl) hw2 [] [(g4, 100, cs_1), (g2, 77, #[.slice A2 n2 c2, .slice A3 n3 c3]), (g1, 77, #[.slice A0 n0 c0, .slice A1 n1 c1])] 14 (by rfl) ?_
  refine flow_take (i := 0) (.pointer (some ⟨g1, 0, none⟩)) (by rfl) (by kernel_rfl) (by kernel_rfl) (by kernel_rfl) (by rfl) (by kernel_rfl) (List.Sublist.cons_cons _ (List.Sublist.cons _ (List.Sublist.refl _))) (gives_value _ fun _ => by kernel_rfl) ?_
  refine flow_take (i := 1) (.slice A0 n0 c0) (by rfl) (by kernel_rfl) (by kernel_rfl) (by kernel_rfl) (by rfl) (by kernel_rfl) (List.Sublist.cons_cons _ (List.Sublist.cons _ (List.Sublist.refl _))) (gives_loadS g1 0 #[.slice A0 n0 c0, .slice A1 n1 c1] (.slice A0 n0 c0) (by rfl) (fun _ h => h.blk 2 (by rfl)) (by rfl) und_u32s) ?_
  refine flow_take (i := 2) (.pointer (some ⟨g2, 0, none⟩)) (by rfl) (by kernel_rfl) (by kernel_rfl) (by kernel_rfl) (by rfl) (by kernel_rfl) (List.Sublist.cons_cons _ (List.Sublist.cons _ (List.Sublist.refl _))) (gives_value _ fun _ => by kernel_rfl) ?_
  refine flow_take (i := 3) (.slice A2 n2 c2) (by rfl) (by kernel_rfl) (by kernel_rfl) (by kernel_rfl) (by rfl) (by kernel_rfl) (List.Sublist.cons_cons _ (List.Sublist.cons _ (List.Sublist.refl _))) (gives_loadS g2 0 #[.slice A2 n2 c2, .slice A3 n3 c3] (.slice A2 n2 c2) (by rfl) (fun _ h => h.blk 1 (by rfl)) (by rfl) und_u32s) ?_
  refine flow_take (i := 4) (.slice (some ⟨g4, 0, none⟩) (24) cap_1) (by rfl) (by kernel_rfl) (by kernel_rfl) (by kernel_rfl) (by rfl) (by kernel_rfl) (List.Sublist.cons_cons _ (List.Sublist.cons _ (List.Sublist.refl _))) (gives_value _ fun _ => by rfl) ?_
  refine flow_take (i := 6) (.pointer (some ⟨g1, 1, none⟩)) (by rfl) (by kernel_rfl) (by kernel_rfl) (by kernel_rfl) (by rfl) (by kernel_rfl) (List.Sublist.cons_cons _ (List.Sublist.cons _ (List.Sublist.refl _))) (gives_value _ fun _ => by kernel_rfl) ?_
  refine flow_take (i := 7) (.slice A1 n1 c1) (by rfl) (by kernel_rfl) (by kernel_rfl) (by kernel_rfl) (by rfl) (by kernel_rfl) (List.Sublist.cons_cons _ (List.Sublist.cons _ (List.Sublist.refl _))) (gives_loadS g1 1 #[.slice A0 n0 c0, .slice A1 n1 c1] (.slice A1 n1 c1) (by rfl) (fun _ h => h.blk 2 (by rfl)) (by rfl) und_u32s) ?_
  refine flow_take (i := 8) (.pointer (some ⟨g2, 1, none⟩)) (by rfl) (by kernel_rfl) (by kernel_rfl) (by kernel_rfl) (by rfl) (by kernel_rfl) (List.Sublist.cons_cons _ (List.Sublist.cons _ (List.Sublist.refl _))) (gives_value _ fun _ => by kernel_rfl) ?_
  refine flow_take (i := 9) (.slice A3 n3 c3) (by rfl) (by kernel_rfl) (by kernel_rfl) (by kernel_rfl) (by rfl) (by kernel_rfl) (List.Sublist.cons_cons _ (List.Sublist.cons _ (List.Sublist.refl _))) (gives_loadS g2 1 #[.slice A2 n2 c2, .slice A3 n3 c3] (.slice A3 n3 c3) (by rfl) (fun _ h => h.blk 1 (by rfl)) (by rfl) und_u32s) ?_
  refine flow_take (i := 10) (.slice (some ⟨g4, 0, none⟩) (24) cap_1) (by rfl) (by kernel_rfl) (by kernel_rfl) (by kernel_rfl) (by rfl) (by kernel_rfl) (List.Sublist.cons_cons _ (List.Sublist.cons _ (List.Sublist.refl _))) (gives_value _ fun _ => by rfl) ?_
  refine flow_one 5 (by kernel_rfl) ?_
  refine F_freshW (vl := [.slice A0 n0 c0, .slice A2 n2 c2, .slice (some ⟨g4, 0, none⟩) (24) cap_1]) (24) ((((x).a.val : Int) + Mp - ((y).a.val : Int)) % Mp) (by rfl) (by rfl) Want.none (by kernel_rfl) (by rfl) (List.Sublist.cons_cons _ (List.Sublist.cons _ (List.Sublist.refl _))) (fun w h => n_sub w _ _ _ _ _ _ _ _ _ _ _ _ (h0.of h) (h2.of h) (hwb_1.num (h.blk 0 (by rfl)) ⟨Int.le_of_lt Mp_pos, Mp_24⟩ (by omega)) (fv_le _ _) Mp_pos (by omega)) ?_; intro g5 cap_2 cs_2 hwb_2
  refine flow_one 11 (by kernel_rfl) ?_
  refine F_freshW (vl := [.slice A1 n1 c1, .slice A3 n3 c3, .slice (some ⟨g4, 0, none⟩) (24) cap_1]) (24) ((((x).b.val : Int) + Mp - ((y).b.val : Int)) % Mp) (by rfl) (by rfl) Want.none (by kernel_rfl) (by rfl) (List.Sublist.cons _ (List.Sublist.cons_cons _ (List.Sublist.cons _ (List.Sublist.refl _)))) (fun w h => n_sub w _ _ _ _ _ _ _ _ _ _ _ _ (h1.of h) (h3.of h) (hwb_1.num (h.blk 1 (by rfl)) ⟨Int.le_of_lt Mp_pos, Mp_24⟩ (by omega)) (fv_le _ _) Mp_pos (by omega)) ?_; intro g6 cap_3 cs_3 hwb_3
  refine flow_take (i := 12) (.agg #[.slice (some ⟨g5, 0, none⟩) (24) cap_2, .slice (some ⟨g6, 0, none⟩) (24) cap_3]) (by rfl) (by kernel_rfl) (by kernel_rfl) (by kernel_rfl) (by rfl) (by kernel_rfl) (List.Sublist.cons _ (List.Sublist.cons _ (List.Sublist.cons_cons _ (List.Sublist.cons _ (List.Sublist.refl _))))) (gives_buildN (.slice (some ⟨g5, 0, none⟩) (24) cap_2) (.slice (some ⟨g6, 0, none⟩) (24) cap_3) (by rfl) (by rfl) (by rfl) (by rfl)) ?_
  refine flow_one 13 (by kernel_rfl) ?_
  refine F_store (t := 77) 3 g3 #[.slice none 0 0, .slice none 0 0] #[.slice (some ⟨g5, 0, none⟩) (24) cap_2, .slice (some ⟨g6, 0, none⟩) (24) cap_3] (by rfl) (by rfl) (by rfl) (by rfl) (by rfl) (hi_NN _ _) (by rfl) (one_N (by rfl) (by rfl)) (.inr (List.Sublist.cons _ (List.Sublist.cons _ (List.Sublist.cons_cons _ (List.Sublist.cons _ (List.Sublist.refl _)))))) ?_
  simp only [List.set_cons_zero, List.set_cons_succ]
  refine flow_done (by kernel_rfl) ?_
  intro w3 hw3
  refine wp_ret ?_
  change bodyPost _ _ _ Exit.ret _ _
  refine (ret_cell (by rfl) (by rfl) (by rfl) (hw3.blk 3 (by rfl)) Tryd.underlying77 (by rfl) (hi_NN _ _) ⟨_, _, _, _, _, _, rfl, ⟨hwb_2.val (fv_sub _ _), hwb_3.val (fv_sub _ _)⟩, hw3.pick2 1 0 (by rfl) (by rfl) (by rfl)⟩)
set_option maxRecDepth 100000 in
set_option maxHeartbeats 4000000 in
theorem l5_mul (x y : F2) (A0 : Option Addr) (n0 c0 : Nat) (A1 : Option Addr) (n1 c1 : Nat) (A2 : Option Addr) (n2 c2 : Nat) (A3 : Option Addr) (n3 c3 : Nat) (v : World) (h0 : NumAt v A0 n0 ((x).a.val : Int)) (h1 : NumAt v A1 n1 ((x).b.val : Int)) (s0 : n0 ≤ 24) (s1 : n1 ≤ 24) (h2 : NumAt v A2 n2 ((y).a.val : Int)) (h3 : NumAt v A3 n3 ((y).b.val : Int)) (s2 : n2 ≤ 24) (s3 : n3 ≤ 24) : RetsY 100 100 (fun g cap g2 cap2 => .agg #[.slice (some ⟨g, 0, none⟩) 24 cap, .slice (some ⟨g2, 0, none⟩) 24 cap2]) (fun cap cs cap2 cs2 => WB cs cap 24 ((x * y).a.val : Int) ∧ WB cs2 cap2 24 ((x * y).b.val : Int)) 100 #[.agg #[.slice A0 n0 c0, .slice A1 n1 c1], .agg #[.slice A2 n2 c2, .slice A3 n3 c3]] v := by
  refine calls_fr2 Tryd.func100 rfl (by rfl : _ = 40) (by rfl) ?_
  have hw := Hbl.nil v
  refine seq_plain hw [0, 1, 2] (by rfl) ?_
  refine L_box (.agg #[.slice A0 n0 c0, .slice A1 n1 c1]) (by rfl) (by rfl) (by rfl) #[.slice A0 n0 c0, .slice A1 n1 c1] (by rfl) ?_; intro g1
  refine L_box (.agg #[.slice A2 n2 c2, .slice A3 n3 c3]) (by rfl) (by rfl) (by rfl) #[.slice A2 n2 c2, .slice A3 n3 c3] (by rfl) ?_; intro g2
  refine L_alloc _ (by rfl) (by rfl) z_N #[.slice none 0 0, .slice none 0 0] rfl ?_; intro g3
  refine L_end ?_
  intro w1 hw1
  refine seq_plain hw1 [0, 1] (by rfl) ?_
  refine L_freshW (vl := []) (24) (Mp) (by rfl) (by rfl) (by kernel_rfl) (by rfl) (fun w h => m_04 w) ?_; intro g4 cap_1 cs_1 hwb_1
  refine L_val (.slice (some ⟨g4, 0, none⟩) (24) cap_1) (by rfl) (by rfl) (gives_value _ fun _ => by rfl) ?_
  refine L_end ?_
  intro w2 hw2
  refine seq_flow (by kernel_rfl) hw2 [] [(g4, 100, cs_1), (g3, 77, #[.slice none 0 0, .slice none 0 0]), (g2, 77, #[.slice A2 n2 c2, .slice A3 n3 c3]), (g1, 77, #[.slice A0 n0 c0, .slice A1 n1 c1])] 15 (by rfl) ?_
  refine flow_take (i := 0) (.pointer (some ⟨g1, 0, none⟩)) (by rfl) (by kernel_rfl) (by kernel_rfl) (by kernel_rfl) (by rfl) (by kernel_rfl) (List.Sublist.refl _) (gives_value _ fun _ => by kernel_rfl) ?_
  refine flow_take (i := 1) (.slice A0 n0 c0) (by rfl) (by kernel_rfl) (by kernel_rfl) (by kernel_rfl) (by rfl) (by kernel_rfl) (List.Sublist.refl _) (gives_loadS g1 0 #[.slice A0 n0 c0, .slice A1 n1 c1] (.slice A0 n0 c0) (by rfl) (fun _ h => h.blk 3 (by rfl)) (by rfl) und_u32s) ?_
  refine flow_take (i := 2) (.pointer (some ⟨g2, 0, none⟩)) (by rfl) (by kernel_rfl) (by kernel_rfl) (by kernel_rfl) (by rfl) (by kernel_rfl) (List.Sublist.refl _) (gives_value _ fun _ => by kernel_rfl) ?_
  refine flow_take (i := 3) (.slice A2 n2 c2) (by rfl) (by kernel_rfl) (by kernel_rfl) (by kernel_rfl) (by rfl) (by kernel_rfl) (List.Sublist.refl _) (gives_loadS g2 0 #[.slice A2 n2 c2, .slice A3 n3 c3] (.slice A2 n2 c2) (by rfl) (fun _ h => h.blk 2 (by rfl)) (by rfl) und_u32s) ?_
  refine flow_take (i := 4) (.slice (some ⟨g4, 0, none⟩) (24) cap_1) (by rfl) (by kernel_rfl) (by kernel_rfl) (by kernel_rfl) (by rfl) (by kernel_rfl) (List.Sublist.refl _) (gives_value _ fun _ => by rfl) ?_
  refine flow_take (i := 6) (.pointer (some ⟨g1, 1, none⟩)) (by rfl) (by kernel_rfl) (by kernel_rfl) (by kernel_rfl) (by rfl) (by kernel_rfl) (List.Sublist.refl _) (gives_value _ fun _ => by kernel_rfl) ?_
  refine flow_take (i := 7) (.slice A1 n1 c1) (by rfl) (by kernel_rfl) (by kernel_rfl) (by kernel_rfl) (by rfl) (by kernel_rfl) (List.Sublist.refl _) (gives_loadS g1 1 #[.slice A0 n0 c0, .slice A1 n1 c1] (.slice A1 n1 c1) (by rfl) (fun _ h => h.blk 3 (by rfl)) (by rfl) und_u32s) ?_
  refine flow_take (i := 8) (.pointer (some ⟨g2, 1, none⟩)) (by rfl) (by kernel_rfl) (by kernel_rfl) (by kernel_rfl) (by rfl) (by kernel_rfl) (List.Sublist.refl _) (gives_value _ fun _ => by kernel_rfl) ?_
  refine flow_take (i := 9) (.slice A3 n3 c3) (by rfl) (by kernel_rfl) (by kernel_rfl) (by kernel_rfl) (by rfl) (by kernel_rfl) (List.Sublist.refl _) (gives_loadS g2 1 #[.slice A2 n2 c2, .slice A3 n3 c3] (.slice A3 n3 c3) (by rfl) (fun _ h => h.blk 2 (by rfl)) (by rfl) und_u32s) ?_
  refine flow_take (i := 10) (.slice (some ⟨g4, 0, none⟩) (24) cap_1) (by rfl) (by kernel_rfl) (by kernel_rfl) (by kernel_rfl) (by rfl) (by kernel_rfl) (List.Sublist.refl _) (gives_value _ fun _ => by rfl) ?_
  refine flow_take (i := 12) (.slice (some ⟨g4, 0, none⟩) (24) cap_1) (by rfl) (by kernel_rfl) (by kernel_rfl) (by kernel_rfl) (by rfl) (by kernel_rfl) (List.Sublist.refl _) (gives_value _ fun _ => by rfl) ?_
  refine flow_one 5 (by kernel_rfl) ?_
  refine F_freshW (vl := [.slice A0 n0 c0, .slice A2 n2 c2, .slice (some ⟨g4, 0, none⟩) (24) cap_1]) (24) ((((x).a.val : Int) * ((y).a.val : Int)) % Mp) (by rfl) (by rfl) Want.none (by kernel_rfl) (by rfl) (List.Sublist.refl _) (fun w h => n_mul w _ _ _ _ _ _ _ _ _ _ _ _ (h0.of h) (h2.of h) (hwb_1.num (h.blk 0 (by rfl)) ⟨Int.le_of_lt Mp_pos, Mp_24⟩ (by omega)) Mp_pos (by omega)) ?_; intro g5 cap_2 cs_2 hwb_2
  refine flow_one 11 (by kernel_rfl) ?_
  refine F_freshW (vl := [.slice A1 n1 c1, .slice A3 n3 c3, .slice (some ⟨g4, 0, none⟩) (24) cap_1]) (24) ((((x).b.val : Int) * ((y).b.val : Int)) % Mp) (by rfl) (by rfl) Want.none (by kernel_rfl) (by rfl) (List.Sublist.cons _ (List.Sublist.refl _)) (fun w h => n_mul w _ _ _ _ _ _ _ _ _ _ _ _ (h1.of h) (h3.of h) (hwb_1.num (h.blk 1 (by rfl)) ⟨Int.le_of_lt Mp_pos, Mp_24⟩ (by omega)) Mp_pos (by omega)) ?_; intro g6 cap_3 cs_3 hwb_3
  refine flow_one 13 (by kernel_rfl) ?_
  refine F_freshW (vl := [.slice (some ⟨g5, 0, none⟩) (24) cap_2, .slice (some ⟨g6, 0, none⟩) (24) cap_3, .slice (some ⟨g4, 0, none⟩) (24) cap_1]) (24) ((((((x).a.val : Int) * ((y).a.val : Int)) % Mp) + Mp - ((((x).b.val : Int) * ((y).b.val : Int)) % Mp)) % Mp) (by rfl) (by rfl) Want.none (by kernel_rfl) (by rfl) (List.Sublist.cons _ (List.Sublist.cons _ (List.Sublist.refl _))) (fun w h => n_sub w _ _ _ _ _ _ _ _ _ _ _ _ (hwb_2.num (h.blk 1 (by rfl)) (mod_rng _ _ _ Mp_pos Mp_24) (by omega)) (hwb_3.num (h.blk 0 (by rfl)) (mod_rng _ _ _ Mp_pos Mp_24) (by omega)) (hwb_1.num (h.blk 2 (by rfl)) ⟨Int.le_of_lt Mp_pos, Mp_24⟩ (by omega)) (le_sub _ _) Mp_pos (by omega)) ?_; intro g7 cap_4 cs_4 hwb_4
  refine flow_take (i := 14) (.slice (some ⟨g7, 0, none⟩) (24) cap_4) (by rfl) (by kernel_rfl) (by kernel_rfl) (by kernel_rfl) (by rfl) (by kernel_rfl) (List.Sublist.cons _ (List.Sublist.cons _ (List.Sublist.cons _ (List.Sublist.refl _)))) (gives_value _ fun _ => by rfl) ?_
  refine flow_done (by kernel_rfl) ?_
  intro w3 hw3
  refine seq_flow (by kernel_rfl) hw3 [] [(g7, 100, cs_4), (g6, 100, cs_3), (g5, 100, cs_2), (g4, 100, cs_1), (g3, 77, #[.slice none 0 0, .slice none 0 0]), (g2, 77, #[.slice A2 n2 c2, .slice A3 n3 c3]), (g1, 77, #[.slice A0 n0 c0, .slice A1 n1 c1])] 15 (by rfl) ?_
  refine flow_take (i := 0) (.pointer (some ⟨g1, 0, none⟩)) (by rfl) (by kernel_rfl) (by kernel_rfl) (by kernel_rfl) (by rfl) (by kernel_rfl) (List.Sublist.refl _) (gives_value _ fun _ => by kernel_rfl) ?_
  refine flow_take (i := 1) (.slice A0 n0 c0) (by rfl) (by kernel_rfl) (by kernel_rfl) (by kernel_rfl) (by rfl) (by kernel_rfl) (List.Sublist.refl _) (gives_loadS g1 0 #[.slice A0 n0 c0, .slice A1 n1 c1] (.slice A0 n0 c0) (by rfl) (fun _ h => h.blk 6 (by rfl)) (by rfl) und_u32s) ?_
  refine flow_take (i := 2) (.pointer (some ⟨g2, 1, none⟩)) (by rfl) (by kernel_rfl) (by kernel_rfl) (by kernel_rfl) (by rfl) (by kernel_rfl) (List.Sublist.refl _) (gives_value _ fun _ => by kernel_rfl) ?_
  refine flow_take (i := 3) (.slice A3 n3 c3) (by rfl) (by kernel_rfl) (by kernel_rfl) (by kernel_rfl) (by rfl) (by kernel_rfl) (List.Sublist.refl _) (gives_loadS g2 1 #[.slice A2 n2 c2, .slice A3 n3 c3] (.slice A3 n3 c3) (by rfl) (fun _ h => h.blk 5 (by rfl)) (by rfl) und_u32s) ?_
  refine flow_take (i := 4) (.slice (some ⟨g4, 0, none⟩) (24) cap_1) (by rfl) (by kernel_rfl) (by kernel_rfl) (by kernel_rfl) (by rfl) (by kernel_rfl) (List.Sublist.refl _) (gives_value _ fun _ => by rfl) ?_
  refine flow_take (i := 6) (.pointer (some ⟨g1, 1, none⟩)) (by rfl) (by kernel_rfl) (by kernel_rfl) (by kernel_rfl) (by rfl) (by kernel_rfl) (List.Sublist.refl _) (gives_value _ fun _ => by kernel_rfl) ?_
  refine flow_take (i := 7) (.slice A1 n1 c1) (by rfl) (by kernel_rfl) (by kernel_rfl) (by kernel_rfl) (by rfl) (by kernel_rfl) (List.Sublist.refl _) (gives_loadS g1 1 #[.slice A0 n0 c0, .slice A1 n1 c1] (.slice A1 n1 c1) (by rfl) (fun _ h => h.blk 6 (by rfl)) (by rfl) und_u32s) ?_
  refine flow_take (i := 8) (.pointer (some ⟨g2, 0, none⟩)) (by rfl) (by kernel_rfl) (by kernel_rfl) (by kernel_rfl) (by rfl) (by kernel_rfl) (List.Sublist.refl _) (gives_value _ fun _ => by kernel_rfl) ?_
  refine flow_take (i := 9) (.slice A2 n2 c2) (by rfl) (by kernel_rfl) (by kernel_rfl) (by kernel_rfl) (by rfl) (by kernel_rfl) (List.Sublist.refl _) (gives_loadS g2 0 #[.slice A2 n2 c2, .slice A3 n3 c3] (.slice A2 n2 c2) (by rfl) (fun _ h => h.blk 5 (by rfl)) (by rfl) und_u32s) ?_
  refine flow_take (i := 10) (.slice (some ⟨g4, 0, none⟩) (24) cap_1) (by rfl) (by kernel_rfl) (by kernel_rfl) (by kernel_rfl) (by rfl) (by kernel_rfl) (List.Sublist.refl _) (gives_value _ fun _ => by rfl) ?_
  refine flow_take (i := 12) (.slice (some ⟨g4, 0, none⟩) (24) cap_1) (by rfl) (by kernel_rfl) (by kernel_rfl) (by kernel_rfl) (by rfl) (by kernel_rfl) (List.Sublist.refl _) (gives_value _ fun _ => by rfl) ?_
  refine flow_one 5 (by kernel_rfl) ?_
  refine F_freshW (vl := [.slice A0 n0 c0, .slice A3 n3 c3, .slice (some ⟨g4, 0, none⟩) (24) cap_1]) (24) ((((x).a.val : Int) * ((y).b.val : Int)) % Mp) (by rfl) (by rfl) Want.none (by kernel_rfl) (by rfl) (List.Sublist.refl _) (fun w h => n_mul w _ _ _ _ _ _ _ _ _ _ _ _ (h0.of h) (h3.of h) (hwb_1.num (h.blk 3 (by rfl)) ⟨Int.le_of_lt Mp_pos, Mp_24⟩ (by omega)) Mp_pos (by omega)) ?_; intro g8 cap_5 cs_5 hwb_5
  refine flow_one 11 (by kernel_rfl) ?_
  refine F_freshW (vl := [.slice A1 n1 c1, .slice A2 n2 c2, .slice (some ⟨g4, 0, none⟩) (24) cap_1]) (24) ((((x).b.val : Int) * ((y).a.val : Int)) % Mp) (by rfl) (by rfl) Want.none (by kernel_rfl) (by rfl) (List.Sublist.cons _ (List.Sublist.refl _)) (fun w h => n_mul w _ _ _ _ _ _ _ _ _ _ _ _ (h1.of h) (h2.of h) (hwb_1.num (h.blk 4 (by rfl)) ⟨Int.le_of_lt Mp_pos, Mp_24⟩ (by omega)) Mp_pos (by omega)) ?_; intro g9 cap_6 cs_6 hwb_6
  refine flow_one 13 (by kernel_rfl) ?_
  refine F_freshW (vl := [.slice (some ⟨g8, 0, none⟩) (24) cap_5, .slice (some ⟨g9, 0, none⟩) (24) cap_6, .slice (some ⟨g4, 0, none⟩) (24) cap_1]) (24) ((((((x).a.val : Int) * ((y).b.val : Int)) % Mp) + ((((x).b.val : Int) * ((y).a.val : Int)) % Mp)) % Mp) (by rfl) (by rfl) Want.none (by kernel_rfl) (by rfl) (List.Sublist.cons _ (List.Sublist.cons _ (List.Sublist.refl _))) (fun w h => n_add w _ _ _ _ _ _ _ _ _ _ _ _ (hwb_5.num (h.blk 1 (by rfl)) (mod_rng _ _ _ Mp_pos Mp_24) (by omega)) (hwb_6.num (h.blk 0 (by rfl)) (mod_rng _ _ _ Mp_pos Mp_24) (by omega)) (hwb_1.num (h.blk 5 (by rfl)) ⟨Int.le_of_lt Mp_pos, Mp_24⟩ (by omega)) Mp_pos (by omega)) ?_; intro g10 cap_7 cs_7 hwb_7
  refine flow_take (i := 14) (.slice (some ⟨g10, 0, none⟩) (24) cap_7) (by rfl) (by kernel_rfl) (by kernel_rfl) (by kernel_rfl) (by rfl) (by kernel_rfl) (List.Sublist.cons _ (List.Sublist.cons _ (List.Sublist.cons _ (List.Sublist.refl _)))) (gives_value _ fun _ => by rfl) ?_
  refine flow_done (by kernel_rfl) ?_
  intro w4 hw4
  refine seq_plain hw4 [0, 1, 2, 3] (by rfl) ?_
  refine L_val (.slice (some ⟨g7, 0, none⟩) (24) cap_4) (by rfl) (by rfl) (gives_value _ fun _ => by rfl) ?_
  refine L_val (.slice (some ⟨g10, 0, none⟩) (24) cap_7) (by rfl) (by rfl) (gives_value _ fun _ => by rfl) ?_
  refine L_val (.agg #[.slice (some ⟨g7, 0, none⟩) (24) cap_4, .slice (some ⟨g10, 0, none⟩) (24) cap_7]) (by rfl) (by rfl) (gives_buildN (.slice (some ⟨g7, 0, none⟩) (24) cap_4) (.slice (some ⟨g10, 0, none⟩) (24) cap_7) (by rfl) (by rfl) (by rfl) (by rfl)) ?_
  refine L_store (t := 77) 7 g3 #[.slice none 0 0, .slice none 0 0] #[.slice (some ⟨g7, 0, none⟩) (24) cap_4, .slice (some ⟨g10, 0, none⟩) (24) cap_7] (by rfl) (by rfl) (by rfl) (by rfl) (by rfl) (hi_NN _ _) (by rfl) (one_N (by rfl) (by rfl)) ?_
  simp only [List.set_cons_zero, List.set_cons_succ]
  refine L_end ?_
  intro w5 hw5
  refine wp_ret ?_
  change bodyPost _ _ _ Exit.ret _ _
  refine (ret_cell (by rfl) (by rfl) (by rfl) (hw5.blk 7 (by rfl)) Tryd.underlying77 (by rfl) (hi_NN _ _) ⟨_, _, _, _, _, _, rfl, ⟨hwb_4.val (fv_mula _ _ _ _), hwb_7.val (fv_mulb _ _ _ _)⟩, hw5.pick2 3 0 (by rfl) (by rfl) (by rfl)⟩)
set_option maxRecDepth 100000 in
set_option maxHeartbeats 4000000 in
theorem l5_of (A0 : Option Addr) (L0 C0 : Nat) (bs0 : List Int) (A1 : Option Addr) (L1 C1 : Nat) (bs1 : List Int) (v : World) (hr0 : Reads v v.heap.size A0 L0 (bs0.map (Value.int .u8))) (ho0 : Oct bs0) (hr1 : Reads v v.heap.size A1 L1 (bs1.map (Value.int .u8))) (ho1 : Oct bs1) (hb0 : L0 ≤ 1000) (hb1 : L1 ≤ 1000) : RetsY 100 100 (fun g cap g2 cap2 => .agg #[.slice (some ⟨g, 0, none⟩) 24 cap, .slice (some ⟨g2, 0, none⟩) 24 cap2]) (fun cap cs cap2 cs2 => WB cs cap 24 ((⟨Fp.n (num bs0), Fp.n (num bs1)⟩ : F2).a.val : Int) ∧ WB cs2 cap2 24 ((⟨Fp.n (num bs0), Fp.n (num bs1)⟩ : F2).b.val : Int)) 92 #[.slice A0 L0 C0, .slice A1 L1 C1] v := by
  have hn0 : bs0.length = L0 := by simpa using hr0.1
  have hn1 : bs1.length = L1 := by simpa using hr1.1
  refine calls_fr2 Tryd.func92 rfl (by rfl : _ = 16) (by rfl) ?_
  have hw := Hbl.nil v
  refine seq_plain hw [0] (by rfl) ?_
  refine L_alloc _ (by rfl) (by rfl) z_N #[.slice none 0 0, .slice none 0 0] rfl ?_; intro g1
  refine L_end ?_
  intro w1 hw1
  refine seq_plain hw1 [0, 1] (by rfl) ?_
  refine L_freshW (vl := []) (24) (Mp) (by rfl) (by rfl) (by kernel_rfl) (by rfl) (fun w h => m_04 w) ?_; intro g2 cap_1 cs_1 hwb_1
  refine L_val (.slice (some ⟨g2, 0, none⟩) (24) cap_1) (by rfl) (by rfl) (gives_value _ fun _ => by rfl) ?_
  refine L_end ?_
  intro w2 hw2
  refine seq_plain hw2 [0, 1, 2, 3, 4, 5, 6, 7, 8, 9] (by rfl) ?_
  refine L_val (.slice A0 L0 C0) (by rfl) (by rfl) (gives_value _ fun _ => by rfl) ?_
  refine L_freshW (vl := [.slice A0 L0 C0]) ((L0 + 1) / 2) (num bs0) (by rfl) (by rfl) (by kernel_rfl) (by rfl) (fun w h => n_number w _ _ _ bs0 ((hr0.below h.below).more h.below.size) ho0 (by omega)) ?_; intro g3 cap_2 cs_2 hwb_2
  refine L_val (.slice (some ⟨g2, 0, none⟩) (24) cap_1) (by rfl) (by rfl) (gives_value _ fun _ => by rfl) ?_
  refine L_freshW (vl := [.slice (some ⟨g3, 0, none⟩) ((L0 + 1) / 2) cap_2, .slice (some ⟨g2, 0, none⟩) (24) cap_1]) (24) ((num bs0) % Mp) (by rfl) (by rfl) (by kernel_rfl) (by rfl) (fun w h => n_mod w _ _ _ _ _ _ _ _ (hwb_2.num (h.blk 0 (by rfl)) (num_rng bs0 _ ho0 hn0) (by omega)) (hwb_1.num (h.blk 1 (by rfl)) ⟨Int.le_of_lt Mp_pos, Mp_24⟩ (by omega)) Mp_pos) ?_; intro g4 cap_3 cs_3 hwb_3
  refine L_val (.slice A1 L1 C1) (by rfl) (by rfl) (gives_value _ fun _ => by rfl) ?_
  refine L_freshW (vl := [.slice A1 L1 C1]) ((L1 + 1) / 2) (num bs1) (by rfl) (by rfl) (by kernel_rfl) (by rfl) (fun w h => n_number w _ _ _ bs1 ((hr1.below h.below).more h.below.size) ho1 (by omega)) ?_; intro g5 cap_4 cs_4 hwb_4
  refine L_val (.slice (some ⟨g2, 0, none⟩) (24) cap_1) (by rfl) (by rfl) (gives_value _ fun _ => by rfl) ?_
  refine L_freshW (vl := [.slice (some ⟨g5, 0, none⟩) ((L1 + 1) / 2) cap_4, .slice (some ⟨g2, 0, none⟩) (24) cap_1]) (24) ((num bs1) % Mp) (by rfl) (by rfl) (by kernel_rfl) (by rfl) (fun w h => n_mod w _ _ _ _ _ _ _ _ (hwb_4.num (h.blk 0 (by rfl)) (num_rng bs1 _ ho1 hn1) (by omega)) (hwb_1.num (h.blk 3 (by rfl)) ⟨Int.le_of_lt Mp_pos, Mp_24⟩ (by omega)) Mp_pos) ?_; intro g6 cap_5 cs_5 hwb_5
  refine L_val (.agg #[.slice (some ⟨g4, 0, none⟩) (24) cap_3, .slice (some ⟨g6, 0, none⟩) (24) cap_5]) (by rfl) (by rfl) (gives_buildN (.slice (some ⟨g4, 0, none⟩) (24) cap_3) (.slice (some ⟨g6, 0, none⟩) (24) cap_5) (by rfl) (by rfl) (by rfl) (by rfl)) ?_
  refine L_store (t := 77) 5 g1 #[.slice none 0 0, .slice none 0 0] #[.slice (some ⟨g4, 0, none⟩) (24) cap_3, .slice (some ⟨g6, 0, none⟩) (24) cap_5] (by rfl) (by rfl) (by rfl) (by rfl) (by rfl) (hi_NN _ _) (by rfl) (one_N (by rfl) (by rfl)) ?_
  simp only [List.set_cons_zero, List.set_cons_succ]
  refine L_end ?_
  intro w3 hw3
  refine wp_ret ?_
  change bodyPost _ _ _ Exit.ret _ _
  refine (ret_cell (by rfl) (by rfl) (by rfl) (hw3.blk 5 (by rfl)) Tryd.underlying77 (by rfl) (hi_NN _ _) ⟨_, _, _, _, _, _, rfl, ⟨hwb_3.val (Fp.n_val _).symm, hwb_5.val (Fp.n_val _).symm⟩, hw3.pick2 2 0 (by rfl) (by rfl) (by rfl)⟩)
set_option maxRecDepth 100000 in
set_option maxHeartbeats 4000000 in
theorem l5_bytes (x : F2) (A0 : Option Addr) (n0 c0 : Nat) (A1 : Option Addr) (n1 c1 : Nat) (v : World) (h0 : NumAt v A0 n0 ((x).a.val : Int)) (h1 : NumAt v A1 n1 ((x).b.val : Int)) (s0 : n0 ≤ 24) (s1 : n1 ≤ 24) : RetsX 5 (fun g cap => .slice (some ⟨g, 0, none⟩) (48 + 48) cap) (fun cap cs => BB cs cap (48 + 48) (lo ((x).b.val : Int) 48 ++ lo ((x).a.val : Int) 48)) 94 #[.agg #[.slice A0 n0 c0, .slice A1 n1 c1]] v := by
  refine calls_fr1 Tryd.func94 rfl (by rfl : _ = 10) (by rfl) ?_
  have hw := Hbl.nil v
  refine seq_plain hw [0, 1] (by rfl) ?_
  refine L_box (.agg #[.slice A0 n0 c0, .slice A1 n1 c1]) (by rfl) (by rfl) (by rfl) #[.slice A0 n0 c0, .slice A1 n1 c1] (by rfl) ?_; intro g1
  refine L_val (.slice none 0 0) (by rfl) (by rfl) (gives_value _ fun _ => by rfl) ?_
  refine L_end ?_
  intro w1 hw1
  refine seq_flow (by kernel_rfl) hw1 [] [(g1, 77, #[.slice A0 n0 c0, .slice A1 n1 c1])] 8 (by rfl) ?_
  refine flow_take (i := 0) (.pointer (some ⟨g1, 1, none⟩)) (by rfl) (by kernel_rfl) (by kernel_rfl) (by kernel_rfl) (by rfl) (by kernel_rfl) (List.Sublist.refl _) (gives_value _ fun _ => by kernel_rfl) ?_
  refine flow_take (i := 1) (.slice A1 n1 c1) (by rfl) (by kernel_rfl) (by kernel_rfl) (by kernel_rfl) (by rfl) (by kernel_rfl) (List.Sublist.refl _) (gives_loadS g1 1 #[.slice A0 n0 c0, .slice A1 n1 c1] (.slice A1 n1 c1) (by rfl) (fun _ h => h.blk 0 (by rfl)) (by rfl) und_u32s) ?_
  refine flow_take (i := 3) (.pointer (some ⟨g1, 0, none⟩)) (by rfl) (by kernel_rfl) (by kernel_rfl) (by kernel_rfl) (by rfl) (by kernel_rfl) (List.Sublist.refl _) (gives_value _ fun _ => by kernel_rfl) ?_
  refine flow_take (i := 4) (.slice A0 n0 c0) (by rfl) (by kernel_rfl) (by kernel_rfl) (by kernel_rfl) (by rfl) (by kernel_rfl) (List.Sublist.refl _) (gives_loadS g1 0 #[.slice A0 n0 c0, .slice A1 n1 c1] (.slice A0 n0 c0) (by rfl) (fun _ h => h.blk 0 (by rfl)) (by rfl) und_u32s) ?_
  refine flow_one 2 (by kernel_rfl) ?_
  refine F_fresh (vl := [.slice A1 n1 c1, .int .i64 48]) 5 (ag8 (lo (((x).b.val : Int)) 48)) (fun g => .slice (some ⟨g, 0, none⟩) 48 48) (by rfl) (by rfl) Want.none (by kernel_rfl) (by rfl) (List.Sublist.refl _) (fun w h => n_bytes w _ _ _ _ 48 (by omega) (h1.of h)) ?_; intro g2
  refine flow_one 5 (by kernel_rfl) ?_
  refine F_fresh (vl := [.slice A0 n0 c0, .int .i64 48]) 5 (ag8 (lo (((x).a.val : Int)) 48)) (fun g => .slice (some ⟨g, 0, none⟩) 48 48) (by rfl) (by rfl) Want.none (by kernel_rfl) (by rfl) (List.Sublist.cons _ (List.Sublist.refl _)) (fun w h => n_bytes w _ _ _ _ 48 (by omega) (h0.of h)) ?_; intro g3
  refine flow_one 6 (by kernel_rfl) ?_
  refine F_append 1 g2 48 48 48 48 1 (some ⟨g3, 0, none⟩) (.int .u8 0) ((lo (((x).a.val : Int)) 48).map (Value.int .u8)) (ag8 (lo (((x).b.val : Int)) 48)) (by rfl) (by rfl) und_u8s u8_all (by rfl) (by rfl) (by rfl) (by rfl) (fun w h => (copy_reads (h.blk 0 (by rfl)) (lo_len _ _))) (u8s_one _) (Nat.le_refl _) (by rw [ag8_size, lo_len]) (by omega) (by omega) (by omega) (by omega) [(g3, 5, (ag8 (lo (((x).a.val : Int)) 48))), (g1, 77, #[.slice A0 n0 c0, .slice A1 n1 c1])] (by rfl) (List.Sublist.cons _ (List.Sublist.refl _)) ?_
  intro g4 cap_1 cs_1 ha1 hb1 hc1 hd1
  have hbb_1 : BB cs_1 cap_1 (48 + 48) (lo (((x).b.val : Int)) 48 ++ lo (((x).a.val : Int)) 48) := ⟨hb1, ha1, hc1, by rw [List.length_append, lo_len, lo_len], by rw [hd1, ag8_take _ 48 (lo_len _ _), List.map_append]⟩
  refine flow_take (i := 7) (.slice (some ⟨g4, 0, none⟩) (48 + 48) cap_1) (by rfl) (by kernel_rfl) (by kernel_rfl) (by kernel_rfl) (by rfl) (by kernel_rfl) (List.Sublist.cons _ (List.Sublist.cons _ (List.Sublist.refl _))) (gives_value _ fun _ => by rfl) ?_
  refine flow_done (by kernel_rfl) ?_
  intro w2 hw2
  refine wp_ret ?_
  change bodyPost _ _ _ Exit.ret _ _
  refine (ret_tmp (by rfl) (by rfl) (by rfl) ⟨_, _, _, rfl, hbb_1, hw2.ge 0 (by rfl), hw2.blk 0 (by rfl), hw2.below⟩)
theorem F2.zero_sub (x : F2) : (0 : F2) - x = -x := by apply F2.same <;> simp only [F2.sub_a, F2.sub_b, F2.neg_a, F2.neg_b, F2.zero_a, F2.zero_b] <;> grind
end Go.Proofs.YtialfoccalobpaaDoor
