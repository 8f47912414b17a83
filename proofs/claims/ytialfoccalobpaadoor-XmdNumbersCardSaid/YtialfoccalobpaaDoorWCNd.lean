/-
  Numbers made of a text: the walk.
-/
import Derived.Test.YtialfoccalobpaaDoorWCNc
namespace Go.Proofs.YtialfoccalobpaaDoor
set_option linter.unusedSimpArgs false
set_option linter.unusedVariables false
open Go.RowKit
theorem two_res (t : Array Value) (u v : Value) (h6 : t.getD 6 undef = u) (h7 : t.getD 7 undef = v) : Ending.returned (.tuple #[t.getD 6 undef, t.getD 7 undef]) = .returned (.tuple #[u, v]) := by rw [h6, h7]
theorem Rso.cast {n : Nat} {E : Type} {c : E → Array Value} {cs : Array Value} {cap m m' : Nat} {qs : List E} (h : Rso n c cs cap m qs) (e : m = m') : Rso n c cs cap m' qs := e ▸ h
theorem hbl_neN {v w : World} {L : List (Nat × TypeId × Array Value)} (h : Hbl v L w) (k k2 : Nat) {g g2 : Nat} {t t2 : TypeId} {cs cs2 : Array Value} (hk : L[k]? = some (g, t, cs)) (hk2 : L[k2]? = some (g2, t2, cs2)) (hn : Nat.beq k k2 = false) : g ≠ g2 := fun e => by
  have hnd := h.2.2
  have e1 : (L.map (·.1))[k]? = (L.map (·.1))[k2]? := by rw [List.getElem?_map, List.getElem?_map, hk, hk2]; simp [e]
  have hkl : k < (L.map (·.1)).length := by simpa using (List.getElem?_eq_some_iff.1 hk).1
  have := (List.getElem?_inj hkl hnd).1 e1
  exact Nat.ne_of_beq_eq_false hn this
attribute [local irreducible] wpL wpF fr Code.wp bodyPost
set_option maxRecDepth 100000 in
set_option maxHeartbeats 4000000 in
theorem x_numbers (A0 : Option Addr) (n0 c0 : Nat) (bs0 : List Int) (A1 : Option Addr) (n1 c1 : Nat) (bs1 : List Int) (cn : Nat) (v : World) (hr0 : Reads v v.heap.size A0 n0 (bs0.map (Value.int .u8))) (hnc0 : n0 ≤ c0) (hr1 : Reads v v.heap.size A1 n1 (bs1.map (Value.int .u8))) (hnc1 : n1 ≤ c1) (hgl : Glob v) (h2 : 3 ≤ v.heap.size) (hG : Glo0 v) (hH : GShp v) (hn0 : n0 ≤ 1000000) (hn1 : n1 ≤ 1000000) (hcn : cn ≤ 63) :
    Calls Tryd.prog 9 #[.slice A0 n0 c0, .slice A1 n1 c1, .int .i64 (cn : Int)] v fun r w' => ∃ (g cap : Nat) (cs : Array Value), r = .returned (.tuple #[.slice (some ⟨g, 0, none⟩) cn cap, .int .i64 0]) ∧ Rso 12 c2 cs cap cn (numsL bs0 bs1 cn) ∧ v.heap.size ≤ g ∧ Blk w' g 37 cs ∧ Below v.heap.size v w' := by
  refine calls_frM3 (m := 9) Tryd.func9 rfl (by rfl : _ = 45) (by rfl) ?_
  have hw := Hbl.nil v
  refine seq_plain hw [0, 1] (by rfl) ?_
  refine L_val (.slice none 0 0) (by rfl) (by rfl) (gives_value _ fun _ => by rfl) ?_
  refine L_val (.int .i64 0) (by rfl) (by rfl) (gives_value _ fun _ => by rfl) ?_
  refine L_end ?_
  intro w1 hw1
  refine wp_seq ?_
  refine seq_plain hw1 [0, 1, 2, 3, 4, 5] (by rfl) ?_
  refine L_val (.int .i64 (cn : Int)) (by rfl) (by rfl) (gives_value _ fun _ => by rfl) ?_
  refine L_val (.bool false) (by rfl) (by rfl) (gives_lss (k := .i64) ((cn : Int)) (0) false (by rfl) (by rfl) (decide_eq_false (by omega))) ?_
  refine L_val (.bool false) (by rfl) (by rfl) (gives_value _ fun _ => by rfl) ?_
  refine L_val_g (dj := 14) (.int .i64 (cn : Int)) (by rfl) (by rfl) (by rfl) (by rfl) (by rfl) (gives_value _ fun _ => by rfl) ?_
  refine L_val_g (dj := 14) (.bool false) (by rfl) (by rfl) (by rfl) (by rfl) (by rfl) (gives_gtr (k := .i64) ((cn : Int)) (63) false (by rfl) (by rfl) (decide_eq_false (by omega))) ?_
  refine L_val (.bool false) (by rfl) (by rfl) (gives_value _ fun _ => by rfl) ?_
  refine L_end ?_
  intro w2 hw2
  refine wp_cond_false (fr_at _ _ (by rfl) _) ?_
  refine wp_skip ?_
  change Code.wp _ _ _ _ _
  refine seq_plain hw2 [0, 1, 2, 3, 4, 5, 6, 7, 8, 9] (by rfl) ?_
  refine L_val (.slice A0 n0 c0) (by rfl) (by rfl) (gives_value _ fun _ => by rfl) ?_
  refine L_val (.slice A1 n1 c1) (by rfl) (by rfl) (gives_value _ fun _ => by rfl) ?_
  refine L_val (.int .i64 (cn : Int)) (by rfl) (by rfl) (gives_value _ fun _ => by rfl) ?_
  refine L_val (.int .i64 ((128 * cn : Nat) : Int)) (by rfl) (by rfl) (gives_mul (k := .i64) ((cn : Int)) (128) (((128 * cn : Nat) : Int)) (by rfl) (by rfl) (by rw [IntWalk.i64_in _ (by omega)]; omega)) ?_
  refine L_freshT (vl := [.slice A0 n0 c0, .slice A1 n1 c1, .int .i64 ((128 * cn : Nat) : Int)]) (128 * cn) (expandL bs0 bs1 (128 * cn)) (by rfl) (by rfl) Want.none (by kernel_rfl) (by rfl) (fun w h => x_expand _ _ _ bs0 _ _ _ bs1 (128 * cn) w ((hr0.below h.below).more h.below.size) hnc0 ((hr1.below h.below).more h.below.size) hnc1 (hgl.below h.below h2) (Nat.le_trans h2 h.below.size) (by omega) (by omega) (by omega)) ?_; intro g1 cap_1 cs_1 hn_1
  refine L_val (.tuple #[.slice (some ⟨g1, 0, none⟩) (128 * cn) (128 * cn), .int .i64 0]) (by rfl) (by rfl) (gives_value _ fun _ => by rfl) ?_
  refine L_val (.slice (some ⟨g1, 0, none⟩) (128 * cn) (128 * cn)) (by rfl) (by rfl) (gives_value _ fun _ => by kernel_rfl) ?_
  refine L_val (.int .i64 0) (by rfl) (by rfl) (gives_value _ fun _ => by kernel_rfl) ?_
  refine L_val (.slice (some ⟨g1, 0, none⟩) (128 * cn) (128 * cn)) (by rfl) (by rfl) (gives_value _ fun _ => by rfl) ?_
  refine L_val (.int .i64 0) (by rfl) (by rfl) (gives_value _ fun _ => by rfl) ?_
  refine L_end ?_
  intro w3 hw3
  refine wp_seq ?_
  refine seq_plain hw3 [0, 1] (by rfl) ?_
  refine L_val (.int .i64 0) (by rfl) (by rfl) (gives_value _ fun _ => by rfl) ?_
  refine L_val (.bool false) (by rfl) (by rfl) (gives_ine (k := .i64) (0) (0) false (by rfl) (by rfl) (decide_eq_false (by omega))) ?_
  refine L_end ?_
  intro w4 hw4
  refine wp_cond_false (fr_at _ _ (by rfl) _) ?_
  refine wp_skip ?_
  change Code.wp _ _ _ _ _
  refine seq_plain hw4 [0, 1, 2, 3] (by rfl) ?_
  refine L_val (.int .i64 (cn : Int)) (by rfl) (by rfl) (gives_value _ fun _ => by rfl) ?_
  refine L_makeE cn 12 _ 96 (by rfl) (by rfl) Tryd.underlying24 info_e2 (by omega) (by rfl) (by rfl) (by omega) ?_; intro g2 cs_2 hz_2
  refine L_alloc _ (by rfl) (by rfl) z_es (#[.slice none 0 0]) rfl ?_; intro g3
  refine L_store1 0 g3 0 _ #[.slice none 0 0] (.slice (some ⟨g2, 0, none⟩) 0 cn) (by rfl) (by rfl) (by rfl) (by rfl) rfl (by rfl) sz_es (by decide) ?_
  simp only [List.set_cons_zero, List.set_cons_succ]
  refine L_end ?_
  intro w5 hw5
  refine wp_seq ?_
  refine seq_plain hw5 [0, 1] (by rfl) ?_
  refine L_val (.slice (some ⟨g1, 0, none⟩) (128 * cn) (128 * cn)) (by rfl) (by rfl) (gives_value _ fun _ => by rfl) ?_
  refine L_freshYs (vl := [.slice (some ⟨g1, 0, none⟩) (128 * cn) (128 * cn), .int .i64 128]) 3 22 (fun g g2 => .func (.func 110) #[] #[.pointer (some ⟨g2, 0, none⟩), .pointer (some ⟨g, 0, none⟩)]) #[.int .i64 128] #[.slice (some ⟨g1, 0, none⟩) (128 * cn) (128 * cn)] (by rfl) (by rfl) Want.none (by kernel_rfl) (by rfl) (fun w h => n_chunk (some ⟨g1, 0, none⟩) (128 * cn) (128 * cn) w) ?_; intro g4 g5
  refine L_end ?_
  intro w6 hw6
  refine wp_block ?_
  have hbS := hw6.blk 1 (by rfl)
  have hbN := hw6.blk 0 (by rfl)
  refine wpIn_wide.1 (wpIn_rangeFunc_ownF (α := Fin cn) (F := Fence.wide) (n := 9) (encs := fun x : Fin cn => #[.slice (some ⟨g1, 128 * x.1, none⟩) 128 128]) (w0 := _) rfl (by omega) (gf := 110) (lb := #[.pointer (some ⟨g5, 0, none⟩), .pointer (some ⟨g4, 0, none⟩)]) (by rw [fr_eval _ _ (by rfl)]; rfl) trivial (enters_of Tryd.func110 (by kernel_rfl) rfl)
    (chunk_stops 7 cn g5 g4 g1 (128 * cn) _ (by omega) (by omega) hbS.lt hbN.lt (hbS.at_ rfl) (hbN.at_ rfl)) KpB.trans (kpB_put hbS.lt hbN.lt) (Below.refl _ _) (fun _ => rfl)
    (fun (pre : List (Fin cn)) (W : World) => ∃ (gp cap : Nat) (cs : Array Value), Hbl v [(g3, 24, #[.slice (some ⟨gp, 0, none⟩) pre.length cap]), (gp, 37, cs), (g4, 3, #[.int .i64 128]), (g5, 22, #[.slice (some ⟨g1, 0, none⟩) (128 * cn) (128 * cn)]), (g1, 5, cs_1)] W ∧ Rso 12 c2 cs cap pre.length (pre.map fun x => elN (expandL bs0 bs1 (128 * cn)) x.1))
    (fun _ _ _ => False)
    (fun pre W W' row hs hg hr => by obtain ⟨gp, cap, cs, hb, hr2⟩ := hs; exact ⟨gp, cap, cs, hb.own hw6.below.size hg hr, hr2⟩) (fun c pre W W' row hs _ _ => hs)
    ⟨g2, cn, cs_2, hw6.perm ((List.perm_append_comm (l₁ := [_, _]) (l₂ := [_, _])).append_right [_]), Rso.empty hz_2 (by omega)⟩
    (fun x : Fin cn => fr 45 ((11, (.slice (some ⟨g1, 128 * x.1, none⟩) 128 128)) :: (33, (.slice (some ⟨g1, 128 * x.1, none⟩) 128 128)) :: [(32, .func (.func 110) #[] #[.pointer (some ⟨g5, 0, none⟩), .pointer (some ⟨g4, 0, none⟩)]), (31, .slice (some ⟨g1, 0, none⟩) (128 * cn) (128 * cn)), (10, .pointer (some ⟨g3, 0, none⟩)), (30, .slice (some ⟨g2, 0, none⟩) 0 cn), (29, .int .i64 (cn : Int)), (27, .bool false), (26, .int .i64 0), (9, .int .i64 0), (8, .slice (some ⟨g1, 0, none⟩) (128 * cn) (128 * cn)), (25, .int .i64 0), (24, .slice (some ⟨g1, 0, none⟩) (128 * cn) (128 * cn)), (18, .tuple #[.slice (some ⟨g1, 0, none⟩) (128 * cn) (128 * cn), .int .i64 0]), (23, .tuple #[.slice (some ⟨g1, 0, none⟩) (128 * cn) (128 * cn), .int .i64 0]), (22, .int .i64 ((128 * cn : Nat) : Int)), (21, .int .i64 (cn : Int)), (20, .slice A1 n1 c1), (19, .slice A0 n0 c0), (17, .bool false), (16, .bool false), (15, .int .i64 (cn : Int)), (14, .bool false), (13, .bool false), (12, .int .i64 (cn : Int)), (7, .int .i64 0), (6, .slice none 0 0), (2, .int .i64 (cn : Int)), (1, .slice A1 n1 c1), (0, .slice A0 n0 c0)])) ?assign ?body ?done ?stop)
  case assign =>
    intro l x W K hK
    rw [round_act]
    refine wpIn_region ?_
    show wpOpsIn (wideAt (some l)) _ _ _ _ [0] (fr 45 ((33, (.slice (some ⟨g1, 128 * x.1, none⟩) 128 128)) :: [(32, .func (.func 110) #[] #[.pointer (some ⟨g5, 0, none⟩), .pointer (some ⟨g4, 0, none⟩)]), (31, .slice (some ⟨g1, 0, none⟩) (128 * cn) (128 * cn)), (10, .pointer (some ⟨g3, 0, none⟩)), (30, .slice (some ⟨g2, 0, none⟩) 0 cn), (29, .int .i64 (cn : Int)), (27, .bool false), (26, .int .i64 0), (9, .int .i64 0), (8, .slice (some ⟨g1, 0, none⟩) (128 * cn) (128 * cn)), (25, .int .i64 0), (24, .slice (some ⟨g1, 0, none⟩) (128 * cn) (128 * cn)), (18, .tuple #[.slice (some ⟨g1, 0, none⟩) (128 * cn) (128 * cn), .int .i64 0]), (23, .tuple #[.slice (some ⟨g1, 0, none⟩) (128 * cn) (128 * cn), .int .i64 0]), (22, .int .i64 ((128 * cn : Nat) : Int)), (21, .int .i64 (cn : Int)), (20, .slice A1 n1 c1), (19, .slice A0 n0 c0), (17, .bool false), (16, .bool false), (15, .int .i64 (cn : Int)), (14, .bool false), (13, .bool false), (12, .int .i64 (cn : Int)), (7, .int .i64 0), (6, .slice none 0 0), (2, .int .i64 (cn : Int)), (1, .slice A1 n1 c1), (0, .slice A0 n0 c0)])) W
    rw [wpOpsIn_cons]
    refine opIn_of (R := fun _ _ => True) (K := fun a' w' => a' = fr 45 ((11, (.slice (some ⟨g1, 128 * x.1, none⟩) 128 128)) :: (33, (.slice (some ⟨g1, 128 * x.1, none⟩) 128 128)) :: [(32, .func (.func 110) #[] #[.pointer (some ⟨g5, 0, none⟩), .pointer (some ⟨g4, 0, none⟩)]), (31, .slice (some ⟨g1, 0, none⟩) (128 * cn) (128 * cn)), (10, .pointer (some ⟨g3, 0, none⟩)), (30, .slice (some ⟨g2, 0, none⟩) 0 cn), (29, .int .i64 (cn : Int)), (27, .bool false), (26, .int .i64 0), (9, .int .i64 0), (8, .slice (some ⟨g1, 0, none⟩) (128 * cn) (128 * cn)), (25, .int .i64 0), (24, .slice (some ⟨g1, 0, none⟩) (128 * cn) (128 * cn)), (18, .tuple #[.slice (some ⟨g1, 0, none⟩) (128 * cn) (128 * cn), .int .i64 0]), (23, .tuple #[.slice (some ⟨g1, 0, none⟩) (128 * cn) (128 * cn), .int .i64 0]), (22, .int .i64 ((128 * cn : Nat) : Int)), (21, .int .i64 (cn : Int)), (20, .slice A1 n1 c1), (19, .slice A0 n0 c0), (17, .bool false), (16, .bool false), (15, .int .i64 (cn : Int)), (14, .bool false), (13, .bool false), (12, .int .i64 (cn : Int)), (7, .int .i64 0), (6, .slice none 0 0), (2, .int .i64 (cn : Int)), (1, .slice A1 n1 c1), (0, .slice A0 n0 c0)]) ∧ w' = W) (by kernel_rfl) ?_ ?_
    · exact op_any0 45 ((33, (.slice (some ⟨g1, 128 * x.1, none⟩) 128 128)) :: [(32, .func (.func 110) #[] #[.pointer (some ⟨g5, 0, none⟩), .pointer (some ⟨g4, 0, none⟩)]), (31, .slice (some ⟨g1, 0, none⟩) (128 * cn) (128 * cn)), (10, .pointer (some ⟨g3, 0, none⟩)), (30, .slice (some ⟨g2, 0, none⟩) 0 cn), (29, .int .i64 (cn : Int)), (27, .bool false), (26, .int .i64 0), (9, .int .i64 0), (8, .slice (some ⟨g1, 0, none⟩) (128 * cn) (128 * cn)), (25, .int .i64 0), (24, .slice (some ⟨g1, 0, none⟩) (128 * cn) (128 * cn)), (18, .tuple #[.slice (some ⟨g1, 0, none⟩) (128 * cn) (128 * cn), .int .i64 0]), (23, .tuple #[.slice (some ⟨g1, 0, none⟩) (128 * cn) (128 * cn), .int .i64 0]), (22, .int .i64 ((128 * cn : Nat) : Int)), (21, .int .i64 (cn : Int)), (20, .slice A1 n1 c1), (19, .slice A0 n0 c0), (17, .bool false), (16, .bool false), (15, .int .i64 (cn : Int)), (14, .bool false), (13, .bool false), (12, .int .i64 (cn : Int)), (7, .int .i64 0), (6, .slice none 0 0), (2, .int .i64 (cn : Int)), (1, .slice A1 n1 c1), (0, .slice A0 n0 c0)]) (by rfl) rfl (by rfl) (by rfl) ⟨fr_put 45 11 _ _, rfl⟩
    · rintro a' w' ⟨rfl, rfl⟩
      exact hK
  case body =>
    rintro l pre ⟨k, hkn⟩ v1 ⟨gp, cap, cs, hb, hr⟩ hlen
    have hGW := hG.keep hb.below
    have hHW := hH.keep hb.below
    have hBA := hb.blk 4 (by rfl)
    have hBp := hb.blk 1 (by rfl)
    have hB3 := hb.blk 0 (by rfl)
    have hBN := hb.blk 2 (by rfl)
    have hBS := hb.blk 3 (by rfl)
    have hgs3 := hB3.lt
    have hcs3 := hB3.at_ (i := 0) rfl
    refine wpIn_block ?_
    refine region_flow_in (late := [9, 10]) (S0 := Hbl v1 []) (R := fun _ w' => KeepsOthers v1 w' ∧ KpB g5 g4 v1 w' ∧ (fun (pre : List (Fin cn)) (W : World) => ∃ (gp cap : Nat) (cs : Array Value), Hbl v [(g3, 24, #[.slice (some ⟨gp, 0, none⟩) pre.length cap]), (gp, 37, cs), (g4, 3, #[.int .i64 128]), (g5, 22, #[.slice (some ⟨g1, 0, none⟩) (128 * cn) (128 * cn)]), (g1, 5, cs_1)] W ∧ Rso 12 c2 cs cap pre.length (pre.map fun x => elN (expandL bs0 bs1 (128 * cn)) x.1)) (pre ++ [(⟨k, hkn⟩ : Fin cn)]) w') (by kernel_rfl) (by kernel_rfl) (Hbl v1 []) (Hbl.nil v1).drew ?_ (fun a' w' h => h)
    show wpF _ _ _ _ _ _ 11 (Array.replicate 11 false) (fr 45 ((11, (.slice (some ⟨g1, 128 * k, none⟩) 128 128)) :: (33, (.slice (some ⟨g1, 128 * k, none⟩) 128 128)) :: [(32, .func (.func 110) #[] #[.pointer (some ⟨g5, 0, none⟩), .pointer (some ⟨g4, 0, none⟩)]), (31, .slice (some ⟨g1, 0, none⟩) (128 * cn) (128 * cn)), (10, .pointer (some ⟨g3, 0, none⟩)), (30, .slice (some ⟨g2, 0, none⟩) 0 cn), (29, .int .i64 (cn : Int)), (27, .bool false), (26, .int .i64 0), (9, .int .i64 0), (8, .slice (some ⟨g1, 0, none⟩) (128 * cn) (128 * cn)), (25, .int .i64 0), (24, .slice (some ⟨g1, 0, none⟩) (128 * cn) (128 * cn)), (18, .tuple #[.slice (some ⟨g1, 0, none⟩) (128 * cn) (128 * cn), .int .i64 0]), (23, .tuple #[.slice (some ⟨g1, 0, none⟩) (128 * cn) (128 * cn), .int .i64 0]), (22, .int .i64 ((128 * cn : Nat) : Int)), (21, .int .i64 (cn : Int)), (20, .slice A1 n1 c1), (19, .slice A0 n0 c0), (17, .bool false), (16, .bool false), (15, .int .i64 (cn : Int)), (14, .bool false), (13, .bool false), (12, .int .i64 (cn : Int)), (7, .int .i64 0), (6, .slice none 0 0), (2, .int .i64 (cn : Int)), (1, .slice A1 n1 c1), (0, .slice A0 n0 c0)])) _
    refine flow_take (i := 0) (.slice (some ⟨gp, 0, none⟩) (pre.length) cap) (by rfl) (by kernel_rfl) (by kernel_rfl) (by kernel_rfl) (by rfl) (by kernel_rfl) (List.Sublist.refl _) (gives_load_oldSn _ (.slice (some ⟨gp, 0, none⟩) (pre.length) cap) (by rfl) (fun _ h => (h.below.cell (p := ⟨g3, 0, none⟩) hgs3).trans hcs3) Tryd.underlying24) ?_
    refine flow_takeD (i := 1) [2, 3, 6, 7, 8, 9, 10] (.slice (some ⟨g1, 128 * k, none⟩) 128 128) (by rfl) (by kernel_rfl) (by kernel_rfl) (by kernel_rfl) (by rfl) (by kernel_rfl) (by kernel_rfl) (List.Sublist.refl _) (gives_value _ fun _ => by rfl) ?_
    refine flow_takeD (i := 2) [3, 6, 7, 8, 9, 10] (.slice (some ⟨g1, 128 * k, none⟩) 64 128) (by rfl) (by kernel_rfl) (by kernel_rfl) (by kernel_rfl) (by rfl) (by kernel_rfl) (by kernel_rfl) (List.Sublist.refl _) (gives_slice_hi g1 (128 * k) 128 128 64 (64) (by rfl) (by rfl) und_u8s u8_sz (by omega) (by omega)) ?_
    refine flow_takeD (i := 3) [6, 7, 8, 9, 10] (.agg (pc (Fp.n (num (((expandL bs0 bs1 (128 * cn)).drop (128 * k)).take 64))))) (by rfl) (by kernel_rfl) (by kernel_rfl) (by kernel_rfl) (by rfl) (by kernel_rfl) (by kernel_rfl) (List.Sublist.refl _) (gives_call (vl := [.slice (some ⟨g1, 128 * k, none⟩) 64 128]) (by kernel_rfl) (by rfl) (fun w h => v_wide _ _ _ _ w (hGW.keep h.below) (hHW.keep h.below) (hn_1.part (hBA.keep h.below) (128 * k) 64 (by omega)) (oct_part (expandL_oct _ _ _) _ _) (by omega) (by omega))) ?_
    refine flow_takeD (i := 4) [5, 6, 7, 8, 9, 10] (.slice (some ⟨g1, 128 * k, none⟩) 128 128) (by rfl) (by kernel_rfl) (by kernel_rfl) (by kernel_rfl) (by rfl) (by kernel_rfl) (by kernel_rfl) (List.Sublist.refl _) (gives_value _ fun _ => by rfl) ?_
    refine flow_takeD (i := 5) [6, 7, 8, 9, 10] (.slice (some ⟨g1, 128 * k + 64, none⟩) 64 64) (by rfl) (by kernel_rfl) (by kernel_rfl) (by kernel_rfl) (by rfl) (by kernel_rfl) (by kernel_rfl) (List.Sublist.refl _) (gives_slice_lo g1 (128 * k) 128 128 64 (128 * k + 64) 64 64 (64) (by rfl) (by rfl) und_u8s u8_sz (by omega) (by omega) (by omega) (by omega) (by omega) (by omega) (by omega)) ?_
    refine flow_take (i := 6) (.agg (pc (Fp.n (num (((expandL bs0 bs1 (128 * cn)).drop (128 * k + 64)).take 64))))) (by rfl) (by kernel_rfl) (by kernel_rfl) (by kernel_rfl) (by rfl) (by kernel_rfl) (List.Sublist.refl _) (gives_call (vl := [.slice (some ⟨g1, 128 * k + 64, none⟩) 64 64]) (by kernel_rfl) (by rfl) (fun w h => v_wide _ _ _ _ w (hGW.keep h.below) (hHW.keep h.below) (hn_1.part (hBA.keep h.below) (128 * k + 64) 64 (by omega)) (oct_part (expandL_oct _ _ _) _ _) (by omega) (by omega))) ?_
    refine flow_takeD (i := 7) [8, 9, 10] (.agg (c2 (⟨Fp.n (num (((expandL bs0 bs1 (128 * cn)).drop (128 * k)).take 64)), Fp.n (num (((expandL bs0 bs1 (128 * cn)).drop (128 * k + 64)).take 64))⟩ : F2))) (by rfl) (by kernel_rfl) (by kernel_rfl) (by kernel_rfl) (by rfl) (by kernel_rfl) (by kernel_rfl) (List.Sublist.refl _) (gb_fp2 [(0, (pc (Fp.n (num (((expandL bs0 bs1 (128 * cn)).drop (128 * k)).take 64))))), (1, (pc (Fp.n (num (((expandL bs0 bs1 (128 * cn)).drop (128 * k + 64)).take 64)))))] ⟨congrArg some (pc_size _).symm, congrArg some (pc_size _).symm, trivial⟩ (by rfl) (c2 (⟨Fp.n (num (((expandL bs0 bs1 (128 * cn)).drop (128 * k)).take 64)), Fp.n (num (((expandL bs0 bs1 (128 * cn)).drop (128 * k + 64)).take 64))⟩ : F2)) (by rfl)) ?_
    refine flow_one 8 (by kernel_rfl) ?_
    refine F_buildE 1 12 (c2 0) [(0, (c2 (⟨Fp.n (num (((expandL bs0 bs1 (128 * cn)).drop (128 * k)).take 64)), Fp.n (num (((expandL bs0 bs1 (128 * cn)).drop (128 * k + 64)).take 64))⟩ : F2)))] (joinA [(c2 (⟨Fp.n (num (((expandL bs0 bs1 (128 * cn)).drop (128 * k)).take 64)), Fp.n (num (((expandL bs0 bs1 (128 * cn)).drop (128 * k + 64)).take 64))⟩ : F2))]) (by rfl) (by rfl) Want.none Tryd.underlying24 zs_e2 zr_e2_1 (c2_size _) (by decide) (by decide) (by simp [fits, c2_size]) (by rfl) (by rfl) (List.Sublist.refl _) ?_; intro gn
    refine flow_one 9 (by kernel_rfl) ?_
    intro w hw2
    have hbw := hb.joins hw2
    obtain ⟨w', gq, cap', cs', hrun, h2c, h3c, h4c, h5c, h6c, h7c⟩ := append_run2 (x := .tmp 34) (y := .tmp 42) (t := 24) (ty := 24) 2 0 gp gn pre.length cap 1 1 12 96 (.agg (c2 0)) cs (joinA [c2 (⟨Fp.n (num (((expandL bs0 bs1 (128 * cn)).drop (128 * k)).take 64)), Fp.n (num (((expandL bs0 bs1 (128 * cn)).drop (128 * k + 64)).take 64))⟩ : F2)]) (joinA [c2 (⟨Fp.n (num (((expandL bs0 bs1 (128 * cn)).drop (128 * k)).take 64)), Fp.n (num (((expandL bs0 bs1 (128 * cn)).drop (128 * k + 64)).take 64))⟩ : F2)]).toList Tryd.underlying24 info_e2 (c2_size 0) (by omega) (by rfl) (by rfl) (List.take_of_length_le (by simp [joinA, c2_size])) (by simp [joinA, c2_size]) (c2_ones _) hr.le hr.size hr.max (by omega) (by omega) hbw
    refine op_append (v1 := .slice (some ⟨gp, 0, none⟩) pre.length cap) (v2 := .slice (some ⟨gn, 0, none⟩) 1 1) (by rfl) (by rfl) (by rfl) (by rfl) hrun ?_
    refine ⟨fun z => z = w', .inl (by decide), rfl, ?_⟩
    refine flow_one 10 (by kernel_rfl) ?_
    rintro w2 rfl
    have hgl3 := h6c.blk 2 (by rfl)
    refine op_store1 g3 0 24 _ (.slice (some ⟨gq, 0, none⟩) (pre.length + 1) cap') (by rfl) (by rfl) (by rfl) (by rfl) rfl hgl3 sz_es (by simp) ?_
    intro w3 hb3 hg3
    refine ⟨fun z => z = w3, .inl (by decide), rfl, ?_⟩
    refine flow_done (by kernel_rfl) ?_
    rintro wz rfl
    obtain ⟨hk1, hk2⟩ := keeps_two hw2.below h7c hg3 hBp hB3
    refine ⟨hk1, ⟨hk1.size, hk2 _ hBS.lt (hbl_neN hb 3 1 (by rfl) (by rfl) (by rfl)) (hbl_neN hb 3 0 (by rfl) (by rfl) (by rfl)), hk2 _ hBN.lt (hbl_neN hb 2 1 (by rfl) (by rfl) (by rfl)) (hbl_neN hb 2 0 (by rfl) (by rfl) (by rfl))⟩, gq, cap', cs', ?_, ?_⟩
    · rw [List.length_append]
      have hst := h6c.store 2 (by rfl) _ hb3 hg3
      exact (hst.sub (L' := [_, _, _, _, _]) (List.Sublist.cons_cons _ (List.Sublist.cons _ (List.Sublist.refl _)))).perm (List.Perm.swap _ _ _)
    · rw [List.length_append, List.map_append]
      exact hr.push (rs := [elN (expandL bs0 bs1 (128 * cn)) k]) rfl h2c h3c h4c h5c
  case stop =>
    intro D c pre W _ _ h _
    exact h.elim
  case done =>
    rintro D xs W hD hS ⟨gp, cap, cs, hb, hr⟩ hK
    rw [fr_defers]
    change Code.wp _ _ _ _ _
    refine wp_seq ?_
    refine wp_region ?_
    show wpOps _ _ _ [0, 1, 2] _ _
    have hB3 := (hb.blk 0 (by rfl)).at_ (i := 0) rfl
    rw [wpOps_cons]
    refine op_anyD 45 [(32, .func (.func 110) #[] #[.pointer (some ⟨g5, 0, none⟩), .pointer (some ⟨g4, 0, none⟩)]), (31, .slice (some ⟨g1, 0, none⟩) (128 * cn) (128 * cn)), (10, .pointer (some ⟨g3, 0, none⟩)), (30, .slice (some ⟨g2, 0, none⟩) 0 cn), (29, .int .i64 (cn : Int)), (27, .bool false), (26, .int .i64 0), (9, .int .i64 0), (8, .slice (some ⟨g1, 0, none⟩) (128 * cn) (128 * cn)), (25, .int .i64 0), (24, .slice (some ⟨g1, 0, none⟩) (128 * cn) (128 * cn)), (18, .tuple #[.slice (some ⟨g1, 0, none⟩) (128 * cn) (128 * cn), .int .i64 0]), (23, .tuple #[.slice (some ⟨g1, 0, none⟩) (128 * cn) (128 * cn), .int .i64 0]), (22, .int .i64 ((128 * cn : Nat) : Int)), (21, .int .i64 (cn : Int)), (20, .slice A1 n1 c1), (19, .slice A0 n0 c0), (17, .bool false), (16, .bool false), (15, .int .i64 (cn : Int)), (14, .bool false), (13, .bool false), (12, .int .i64 (cn : Int)), (7, .int .i64 0), (6, .slice none 0 0), (2, .int .i64 (cn : Int)), (1, .slice A1 n1 c1), (0, .slice A0 n0 c0)] _ (by rfl) (by rfl) (load_run _ _ (by rfl) hB3 Tryd.underlying24) ?_
    rw [wpOps_cons]
    refine op_anyD 45 ((44, .slice (some ⟨gp, 0, none⟩) xs.length cap) :: [(32, .func (.func 110) #[] #[.pointer (some ⟨g5, 0, none⟩), .pointer (some ⟨g4, 0, none⟩)]), (31, .slice (some ⟨g1, 0, none⟩) (128 * cn) (128 * cn)), (10, .pointer (some ⟨g3, 0, none⟩)), (30, .slice (some ⟨g2, 0, none⟩) 0 cn), (29, .int .i64 (cn : Int)), (27, .bool false), (26, .int .i64 0), (9, .int .i64 0), (8, .slice (some ⟨g1, 0, none⟩) (128 * cn) (128 * cn)), (25, .int .i64 0), (24, .slice (some ⟨g1, 0, none⟩) (128 * cn) (128 * cn)), (18, .tuple #[.slice (some ⟨g1, 0, none⟩) (128 * cn) (128 * cn), .int .i64 0]), (23, .tuple #[.slice (some ⟨g1, 0, none⟩) (128 * cn) (128 * cn), .int .i64 0]), (22, .int .i64 ((128 * cn : Nat) : Int)), (21, .int .i64 (cn : Int)), (20, .slice A1 n1 c1), (19, .slice A0 n0 c0), (17, .bool false), (16, .bool false), (15, .int .i64 (cn : Int)), (14, .bool false), (13, .bool false), (12, .int .i64 (cn : Int)), (7, .int .i64 0), (6, .slice none 0 0), (2, .int .i64 (cn : Int)), (1, .slice A1 n1 c1), (0, .slice A0 n0 c0)]) _ (by rfl) (by rfl) (by rfl) ?_
    rw [wpOps_cons]
    refine op_anyD 45 ((6, .slice (some ⟨gp, 0, none⟩) xs.length cap) :: (44, .slice (some ⟨gp, 0, none⟩) xs.length cap) :: [(32, .func (.func 110) #[] #[.pointer (some ⟨g5, 0, none⟩), .pointer (some ⟨g4, 0, none⟩)]), (31, .slice (some ⟨g1, 0, none⟩) (128 * cn) (128 * cn)), (10, .pointer (some ⟨g3, 0, none⟩)), (30, .slice (some ⟨g2, 0, none⟩) 0 cn), (29, .int .i64 (cn : Int)), (27, .bool false), (26, .int .i64 0), (9, .int .i64 0), (8, .slice (some ⟨g1, 0, none⟩) (128 * cn) (128 * cn)), (25, .int .i64 0), (24, .slice (some ⟨g1, 0, none⟩) (128 * cn) (128 * cn)), (18, .tuple #[.slice (some ⟨g1, 0, none⟩) (128 * cn) (128 * cn), .int .i64 0]), (23, .tuple #[.slice (some ⟨g1, 0, none⟩) (128 * cn) (128 * cn), .int .i64 0]), (22, .int .i64 ((128 * cn : Nat) : Int)), (21, .int .i64 (cn : Int)), (20, .slice A1 n1 c1), (19, .slice A0 n0 c0), (17, .bool false), (16, .bool false), (15, .int .i64 (cn : Int)), (14, .bool false), (13, .bool false), (12, .int .i64 (cn : Int)), (7, .int .i64 0), (6, .slice none 0 0), (2, .int .i64 (cn : Int)), (1, .slice A1 n1 c1), (0, .slice A0 n0 c0)]) _ (by rfl) (by rfl) (by rfl) ?_
    change Code.wp _ Code.ret _ _ _
    refine wp_ret ?_
    show LeavesInM _ _ _ _ _ _ _ _ _
    refine ⟨by simp, .inl ⟨_, _, rfl, run_takeDeferred hK, ?_⟩⟩
    have hfin := hb.own (hw6.below.size) (grownBy_putObj' W D (.deferred none)) (fun r e => by cases e; exact ⟨hD, _, hK, rfl⟩)
    have hxl : xs.length = cn := by have := congrArg List.length hS; simpa using this
    refine ⟨_, results_tmp2 rfl _ _ _, ?_⟩
    refine ⟨gp, cap, cs, ?_, ?_, (hfin.2.1 _ (List.mem_cons_of_mem _ (List.mem_cons_self ..))).2, hfin.blk 1 (by rfl), hfin.below⟩
    · exact two_res (fr 45 ((7, .int .i64 0) :: (6, .slice (some ⟨gp, 0, none⟩) xs.length cap) :: (44, .slice (some ⟨gp, 0, none⟩) xs.length cap) :: [(32, .func (.func 110) #[] #[.pointer (some ⟨g5, 0, none⟩), .pointer (some ⟨g4, 0, none⟩)]), (31, .slice (some ⟨g1, 0, none⟩) (128 * cn) (128 * cn)), (10, .pointer (some ⟨g3, 0, none⟩)), (30, .slice (some ⟨g2, 0, none⟩) 0 cn), (29, .int .i64 (cn : Int)), (27, .bool false), (26, .int .i64 0), (9, .int .i64 0), (8, .slice (some ⟨g1, 0, none⟩) (128 * cn) (128 * cn)), (25, .int .i64 0), (24, .slice (some ⟨g1, 0, none⟩) (128 * cn) (128 * cn)), (18, .tuple #[.slice (some ⟨g1, 0, none⟩) (128 * cn) (128 * cn), .int .i64 0]), (23, .tuple #[.slice (some ⟨g1, 0, none⟩) (128 * cn) (128 * cn), .int .i64 0]), (22, .int .i64 ((128 * cn : Nat) : Int)), (21, .int .i64 (cn : Int)), (20, .slice A1 n1 c1), (19, .slice A0 n0 c0), (17, .bool false), (16, .bool false), (15, .int .i64 (cn : Int)), (14, .bool false), (13, .bool false), (12, .int .i64 (cn : Int)), (7, .int .i64 0), (6, .slice none 0 0), (2, .int .i64 (cn : Int)), (1, .slice A1 n1 c1), (0, .slice A0 n0 c0)])).tmps _ _ ((fr_at 45 ((7, .int .i64 0) :: (6, .slice (some ⟨gp, 0, none⟩) xs.length cap) :: (44, .slice (some ⟨gp, 0, none⟩) xs.length cap) :: [(32, .func (.func 110) #[] #[.pointer (some ⟨g5, 0, none⟩), .pointer (some ⟨g4, 0, none⟩)]), (31, .slice (some ⟨g1, 0, none⟩) (128 * cn) (128 * cn)), (10, .pointer (some ⟨g3, 0, none⟩)), (30, .slice (some ⟨g2, 0, none⟩) 0 cn), (29, .int .i64 (cn : Int)), (27, .bool false), (26, .int .i64 0), (9, .int .i64 0), (8, .slice (some ⟨g1, 0, none⟩) (128 * cn) (128 * cn)), (25, .int .i64 0), (24, .slice (some ⟨g1, 0, none⟩) (128 * cn) (128 * cn)), (18, .tuple #[.slice (some ⟨g1, 0, none⟩) (128 * cn) (128 * cn), .int .i64 0]), (23, .tuple #[.slice (some ⟨g1, 0, none⟩) (128 * cn) (128 * cn), .int .i64 0]), (22, .int .i64 ((128 * cn : Nat) : Int)), (21, .int .i64 (cn : Int)), (20, .slice A1 n1 c1), (19, .slice A0 n0 c0), (17, .bool false), (16, .bool false), (15, .int .i64 (cn : Int)), (14, .bool false), (13, .bool false), (12, .int .i64 (cn : Int)), (7, .int .i64 0), (6, .slice none 0 0), (2, .int .i64 (cn : Int)), (1, .slice A1 n1 c1), (0, .slice A0 n0 c0)]) (by rfl) 6).trans (congrArg (fun q => Value.slice (some ⟨gp, 0, none⟩) q cap) hxl)) (fr_at 45 ((7, .int .i64 0) :: (6, .slice (some ⟨gp, 0, none⟩) xs.length cap) :: (44, .slice (some ⟨gp, 0, none⟩) xs.length cap) :: [(32, .func (.func 110) #[] #[.pointer (some ⟨g5, 0, none⟩), .pointer (some ⟨g4, 0, none⟩)]), (31, .slice (some ⟨g1, 0, none⟩) (128 * cn) (128 * cn)), (10, .pointer (some ⟨g3, 0, none⟩)), (30, .slice (some ⟨g2, 0, none⟩) 0 cn), (29, .int .i64 (cn : Int)), (27, .bool false), (26, .int .i64 0), (9, .int .i64 0), (8, .slice (some ⟨g1, 0, none⟩) (128 * cn) (128 * cn)), (25, .int .i64 0), (24, .slice (some ⟨g1, 0, none⟩) (128 * cn) (128 * cn)), (18, .tuple #[.slice (some ⟨g1, 0, none⟩) (128 * cn) (128 * cn), .int .i64 0]), (23, .tuple #[.slice (some ⟨g1, 0, none⟩) (128 * cn) (128 * cn), .int .i64 0]), (22, .int .i64 ((128 * cn : Nat) : Int)), (21, .int .i64 (cn : Int)), (20, .slice A1 n1 c1), (19, .slice A0 n0 c0), (17, .bool false), (16, .bool false), (15, .int .i64 (cn : Int)), (14, .bool false), (13, .bool false), (12, .int .i64 (cn : Int)), (7, .int .i64 0), (6, .slice none 0 0), (2, .int .i64 (cn : Int)), (1, .slice A1 n1 c1), (0, .slice A0 n0 c0)]) (by rfl) 7)
    · have e : (xs.map fun x => elN (expandL bs0 bs1 (128 * cn)) x.1) = numsL bs0 bs1 cn := by rw [numsL, ← hS, List.map_map]; rfl
      rw [← e]
      exact hr.cast hxl
end Go.Proofs.YtialfoccalobpaaDoor
