/-
  Layer 3's numbers; FrWide, FrReckons: the walks.
-/
import Derived.Test.YtclfmdaafpachaaDoorR3Z
namespace Go.Proofs.YtclfmdaafpachaaDoor
set_option linter.unusedSimpArgs false
set_option linter.unusedVariables false
open Go.RowKit
/-- The cells of an element of the field of the scalars. -/
def frc (x : Int) : Array Value := (fv x).cells
theorem fv_frc (x : Int) : fv x = .agg (frc x) := rfl
theorem frc_size (x : Int) : (frc x).size = 4 := rfl
theorem frc_one (x : Int) : (frc x).all (·.oneCell') = true := by
  show (#[Value.int .u64 _, .int .u64 _, .int .u64 _, .int .u64 _] : Array Value).all (·.oneCell') = true
  simp [Value.oneCell']
theorem hi_fr (x : Int) : (Tryd.prog.info? 28).map (·.size) = some (frc x).size := by rw [frc_size]; kernel_rfl
theorem frc_zero : frc 0 = #[.int .u64 0, .int .u64 0, .int .u64 0, .int .u64 0] := by
  have e : fv 0 = arr4 0 := by unfold fv; rw [fe_zero]
  rw [frc, e]
  rfl
theorem z_fr : (Tryd.prog.info? 28).map (·.zero) = some (some (.agg (frc 0))) := by rw [frc_zero]; kernel_rfl
def b32c (a : Int) : Array Value := ag8 (lo a 32)
theorem b32c_size (a : Int) : (b32c a).size = 32 := by rw [b32c, ag8_size, lo_len]
theorem b32c_one (a : Int) : (b32c a).all (·.oneCell') = true := ag8_one _
theorem hi_b32 (a : Int) : (Tryd.prog.info? 109).map (·.size) = some (b32c a).size := by rw [b32c_size]; kernel_rfl
theorem z_b32 : (Tryd.prog.info? 109).map (·.zero) = some (some (.agg (b32c 0))) := by kernel_rfl
theorem und_b32 : Tryd.prog.underlying 109 = some (.array 32 5) := by kernel_rfl
structure GloR (w : World) : Prop where
  m : GMr w
  s : GSq w
theorem GloR.keep {w w' : World} (h : GloR w) (hb : Below w.heap.size w w') : GloR w' := ⟨h.m.keep hb, h.s.keep hb⟩
theorem u_add (x y : Int) (w : World) (hG : GloR w) : Rets 36 #[.agg (frc x), .agg (frc y)] w (.agg (frc (x + y))) := fr_add x y w hG.m
theorem u_sub (x y : Int) (w : World) (hG : GloR w) : Rets 38 #[.agg (frc x), .agg (frc y)] w (.agg (frc (x - y))) := fr_sub x y w hG.m
theorem u_mul (x y : Int) (w : World) (hG : GloR w) : Rets 40 #[.agg (frc x), .agg (frc y)] w (.agg (frc (x * y))) := fr_mul x y w hG.m
theorem u_square (x : Int) (w : World) (hG : GloR w) : Rets 42 #[.agg (frc x)] w (.agg (frc (x * x))) := fr_square x w hG.m
theorem u_neg (x : Int) (w : World) (hG : GloR w) : Rets 43 #[.agg (frc x)] w (.agg (frc (-x))) := fr_neg x w hG.m
theorem u_bytes (x : Int) (w : World) (hG : GloR w) : Rets 109 #[.agg (frc x)] w (.agg (b32c (x % Mr))) := fr_bytes x w hG.m
theorem u_head (w : World) (hG : GloR w) : Rets 22 #[] w (.bool true) := fr_head w hG.m hG.s
theorem u_wide (A : Option Addr) (L c : Nat) (bs : List Int) (w : World) (hG : GloR w) (hH : GSh w) (hr : Reads w w.heap.size A L (bs.map (Value.int .u8))) (ho : Oct bs) (hLc : L ≤ c) (hc63 : c ≤ 9223372036854775807) :
    Rets 33 #[.slice A L c] w (.agg (frc (num bs))) := fr_wide w hG.m hG.s hH A L c bs hr ho hLc hc63
theorem Mr_16 : Mr < 65536 ^ 16 := by unfold Mr; decide
theorem Mr_pos : 0 < Mr := Mr_lo.1
theorem r_sub (X Y : Int) : (X - Y) % Mr = (X % Mr + Mr - Y % Mr) % Mr := by
  rw [show X % Mr + Mr - Y % Mr = X % Mr - Y % Mr + Mr by omega, Int.add_emod_right, ← Int.sub_emod]
theorem r_neg (X : Int) : (-X) % Mr = (0 + Mr - X % Mr) % Mr := by
  have h := r_sub 0 X
  rw [Int.zero_sub, Int.zero_emod] at h
  exact h
theorem r_le_sub (X Y : Int) : Y % Mr ≤ X % Mr + Mr := by
  have h1 := Int.emod_nonneg X (show Mr ≠ 0 from Int.ne_of_gt Mr_pos)
  have h2 := Int.emod_lt_of_pos Y Mr_pos
  omega
theorem r_le_neg (Y : Int) : Y % Mr ≤ 0 + Mr := by
  have h2 := Int.emod_lt_of_pos Y Mr_pos
  omega
theorem u_read_n (a : Int) (A : Option Addr) (c : Nat) (w : World) (hG : GloR w) (hr : Reads w w.heap.size A 32 ((lo (a % Mr) 32).map (Value.int .u8))) (hc : 32 ≤ c) : Rets 27 #[.slice A 32 c] w (.tuple #[.agg (frc a), .int .i64 0]) := by
  have h1 := Int.emod_nonneg a (show Mr ≠ 0 from Int.ne_of_gt Mr_pos)
  have h2 := Int.emod_lt_of_pos a Mr_pos
  have hn : num (lo (a % Mr) 32) = a % Mr := by
    rw [num_lo, Int.emod_eq_of_lt h1]
    exact Int.lt_trans h2 (by unfold Mr; decide)
  have h := fr_read_ok w hG.m hG.s A c _ hr (lo_oct _ _) hc (by rw [hn]; exact h2)
  rw [hn, fv_cast (Int.emod_emod_of_dvd a (Int.dvd_refl Mr))] at h
  exact h
attribute [local irreducible] wpL wpF fr Code.wp bodyPost
set_option maxRecDepth 100000 in
set_option maxHeartbeats 4000000 in
theorem l3_is (x : Int) (A0 : Option Addr) (n0 c0 : Nat) (a : Int) (v : World) (hG : GloR v) (h0 : NumAt v A0 n0 a) (hx : x % Mr = a) : Rets 23 #[.agg (frc x), .slice A0 n0 c0] v (.bool true) := by
  refine calls_fr2 Tryd.func23 rfl (by rfl : _ = 12) (by rfl) ?_
  have hw := Hbl.nil v
  refine seq_plain hw [0, 1] (by rfl) ?_
  refine L_box (.agg (frc (x))) (by rfl) (by rfl) (by rfl) (frc (x)) (by rfl) ?_; intro g1
  refine L_val (.bool false) (by rfl) (by rfl) (gives_value _ fun _ => by rfl) ?_
  refine L_end ?_
  intro w1 hw1
  refine seq_plain hw1 [0, 1, 2, 3] (by rfl) ?_
  refine L_val (.agg (frc (x))) (by rfl) (by rfl) (gives_load g1 0 28 (frc (x)) (frc (x)) _ (by rfl) (fun _ h => h.blk 0 (by rfl)) (Sl.refl _) Tryd.underlying28 (by rfl) (hi_fr _)) ?_
  refine L_val (.agg (b32c (x % Mr))) (by rfl) (by rfl) (gives_call (vl := [.agg (frc (x))]) (by kernel_rfl) (by rfl) (fun w h => u_bytes _ w (hG.keep h.below))) ?_
  refine L_alloc _ (by rfl) (by rfl) z_b32 (b32c (0 : Int)) rfl ?_; intro g2
  refine L_store (t := 109) 0 g2 (b32c (0 : Int)) (b32c (x % Mr)) (by rfl) (by rfl) (by rfl) (by rfl) (by rfl) (hi_b32 _) ((b32c_size _).trans (b32c_size _).symm) (b32c_one _) ?_
  simp only [List.set_cons_zero, List.set_cons_succ]
  refine L_end ?_
  intro w2 hw2
  refine seq_flow (by kernel_rfl) hw2 [] [(g2, 109, (b32c (x % Mr))), (g1, 28, (frc (x)))] 5 (by rfl) ?_
  refine flow_take (i := 0) (.slice (some ⟨g2, 0, none⟩) 32 32) (by rfl) (by kernel_rfl) (by kernel_rfl) (by kernel_rfl) (by rfl) (by kernel_rfl) (List.Sublist.refl _) (gives_slice_arr g2 32 1 (by rfl) und_b32 u8_sz) ?_
  refine flow_take (i := 1) (.slice A0 n0 c0) (by rfl) (by kernel_rfl) (by kernel_rfl) (by kernel_rfl) (by rfl) (by kernel_rfl) (List.Sublist.refl _) (gives_value _ fun _ => by rfl) ?_
  refine flow_one 2 (by kernel_rfl) ?_
  refine F_fresh (vl := [.slice A0 n0 c0, .int .i64 32]) 5 (ag8 (lo (a) 32)) (fun g => .slice (some ⟨g, 0, none⟩) 32 32) (by rfl) (by rfl) Want.none (by kernel_rfl) (by rfl) (List.Sublist.refl _) (fun w h => n_bytes w _ _ _ _ 32 (by omega) (h0.of h)) ?_; intro g3
  refine flow_one 3 (by kernel_rfl) ?_
  refine F_val (vl := [.slice (some ⟨g2, 0, none⟩) 32 32, .slice (some ⟨g3, 0, none⟩) 32 32]) (.bool true) (by rfl) (by rfl) Want.none (by kernel_rfl) (by rfl) (List.Sublist.cons _ (List.Sublist.refl _)) (fun w h => n_same w _ _ _ _ _ _ (lo (x % Mr) 32) (lo (a) 32) (copy_reads (h.blk 1 (by rfl)) (lo_len _ _)) (copy_reads (h.blk 0 (by rfl)) (lo_len _ _)) (by omega) (by omega) (by rw [hx])) ?_
  refine flow_take (i := 4) (.bool true) (by rfl) (by kernel_rfl) (by kernel_rfl) (by kernel_rfl) (by rfl) (by kernel_rfl) (List.Sublist.cons _ (List.Sublist.refl _)) (gives_value _ fun _ => by rfl) ?_
  refine flow_done (by kernel_rfl) ?_
  intro w3 hw3
  refine wp_ret ?_
  change bodyPost _ _ _ Exit.ret _ _
  refine (ret_tmp (by rfl) (by rfl) (by rfl) ⟨rfl, hw3.below⟩)
set_option maxRecDepth 100000 in
set_option maxHeartbeats 4000000 in
theorem l3_number (A0 : Option Addr) (L0 C0 : Nat) (bs0 : List Int) (v : World) (hG : GloR v) (hr0 : Reads v v.heap.size A0 L0 (bs0.map (Value.int .u8))) (ho0 : Oct bs0) (hs0 : L0 ≤ 1000) : RetsU (fun g cap => .tuple #[.slice (some ⟨g, 0, none⟩) 16 cap, .agg (frc (num bs0))]) 35 #[.slice A0 L0 C0] v 16 (num bs0 % Mr) := by
  have hn0 : bs0.length = L0 := by simpa using hr0.1
  refine calls_fr1 Tryd.func35 rfl (by rfl : _ = 19) (by rfl) ?_
  have hw := Hbl.nil v
  refine seq_plain hw [0, 1] (by rfl) ?_
  refine L_val (.slice none 0 0) (by rfl) (by rfl) (gives_value _ fun _ => by rfl) ?_
  refine L_alloc _ (by rfl) (by rfl) z_fr (frc (0 : Int)) rfl ?_; intro g1
  refine L_end ?_
  intro w1 hw1
  refine seq_plain hw1 [0, 1, 2, 3, 4] (by rfl) ?_
  refine L_val (.slice A0 L0 C0) (by rfl) (by rfl) (gives_value _ fun _ => by rfl) ?_
  refine L_freshW (vl := [.slice A0 L0 C0]) ((L0 + 1) / 2) (num bs0) (by rfl) (by rfl) (by kernel_rfl) (by rfl) (fun w h => n_number w _ _ _ bs0 ((hr0.below h.below).more h.below.size) ho0 (by omega)) ?_; intro g2 cap_1 cs_1 hwb_1
  refine L_freshW (vl := []) (16) (Mr) (by rfl) (by rfl) (by kernel_rfl) (by rfl) (fun w h => m_03 w) ?_; intro g3 cap_2 cs_2 hwb_2
  refine L_freshW (vl := [.slice (some ⟨g2, 0, none⟩) ((L0 + 1) / 2) cap_1, .slice (some ⟨g3, 0, none⟩) (16) cap_2]) (16) ((num bs0) % Mr) (by rfl) (by rfl) (by kernel_rfl) (by rfl) (fun w h => n_mod w _ _ _ _ _ _ _ _ (hwb_1.num (h.blk 1 (by rfl)) (num_rng bs0 _ ho0 hn0) (by omega)) (hwb_2.num (h.blk 0 (by rfl)) ⟨Int.le_of_lt Mr_pos, Mr_16⟩ (by omega)) Mr_pos) ?_; intro g4 cap_3 cs_3 hwb_3
  refine L_val (.slice (some ⟨g4, 0, none⟩) (16) cap_3) (by rfl) (by rfl) (gives_value _ fun _ => by rfl) ?_
  refine L_end ?_
  intro w2 hw2
  refine seq_plain hw2 [0, 1, 2, 3, 4, 5, 6, 7, 8] (by rfl) ?_
  refine L_val (.slice (some ⟨g4, 0, none⟩) (16) cap_3) (by rfl) (by rfl) (gives_value _ fun _ => by rfl) ?_
  refine L_fresh 5 (ag8 (lo ((num bs0) % Mr) 32)) (fun g => .slice (some ⟨g, 0, none⟩) 32 32) (by rfl) (by rfl) (by kernel_rfl) (by rfl) (fun w h => n_bytes w _ _ _ _ 32 (by omega) (hwb_3.num (h.blk 0 (by rfl)) (mod_rng _ _ _ Mr_pos Mr_16) (by omega))) ?_; intro g5
  refine L_val (.tuple #[.agg (frc ((num bs0))), .int .i64 0]) (by rfl) (by rfl) (gives_call (vl := [.slice (some ⟨g5, 0, none⟩) 32 32]) (by kernel_rfl) (by rfl) (fun w h => u_read_n (num bs0) _ _ w (hG.keep h.below) (copy_reads (h.blk 0 (by rfl)) (lo_len _ _)) (by omega))) ?_
  refine L_val (.tuple #[.agg (frc ((num bs0))), .int .i64 0]) (by rfl) (by rfl) (gives_value _ fun _ => by rfl) ?_
  refine L_val (.agg (frc ((num bs0)))) (by rfl) (by rfl) (gives_value _ fun _ => by kernel_rfl) ?_
  refine L_val (.int .i64 0) (by rfl) (by rfl) (gives_value _ fun _ => by kernel_rfl) ?_
  refine L_alloc _ (by rfl) (by rfl) z_fr (frc (0 : Int)) rfl ?_; intro g6
  refine L_store (t := 28) 0 g6 (frc (0 : Int)) (frc ((num bs0))) (by rfl) (by rfl) (by rfl) (by rfl) (by rfl) (hi_fr _) ((frc_size _).trans (frc_size _).symm) (frc_one _) ?_
  simp only [List.set_cons_zero, List.set_cons_succ]
  refine L_val (.int .i64 0) (by rfl) (by rfl) (gives_value _ fun _ => by rfl) ?_
  refine L_end ?_
  intro w3 hw3
  refine seq_flow (by kernel_rfl) hw3 [] [(g6, 28, (frc ((num bs0)))), (g5, 5, (ag8 (lo ((num bs0) % Mr) 32))), (g4, 65, cs_3), (g3, 65, cs_2), (g2, 65, cs_1)] 4 (by rfl) ?_
  refine flow_take (i := 0) (.slice (some ⟨g4, 0, none⟩) (16) cap_3) (by rfl) (by kernel_rfl) (by kernel_rfl) (by kernel_rfl) (by rfl) (by kernel_rfl) (List.Sublist.cons_cons _ (List.Sublist.cons_cons _ (List.Sublist.cons_cons _ (List.Sublist.cons_cons _ (List.Sublist.cons_cons _ (List.Sublist.cons _ (List.Sublist.refl _))))))) (gives_value _ fun _ => by rfl) ?_
  refine flow_take (i := 1) (.agg (frc ((num bs0)))) (by rfl) (by kernel_rfl) (by kernel_rfl) (by kernel_rfl) (by rfl) (by kernel_rfl) (List.Sublist.cons_cons _ (List.Sublist.cons_cons _ (List.Sublist.cons_cons _ (List.Sublist.cons_cons _ (List.Sublist.cons_cons _ (List.Sublist.cons _ (List.Sublist.refl _))))))) (gives_load g6 0 28 (frc ((num bs0))) (frc ((num bs0))) _ (by rfl) (fun _ h => h.blk 0 (by rfl)) (Sl.refl _) Tryd.underlying28 (by rfl) (hi_fr _)) ?_
  refine flow_take (i := 2) (.slice (some ⟨g4, 0, none⟩) (16) cap_3) (by rfl) (by kernel_rfl) (by kernel_rfl) (by kernel_rfl) (by rfl) (by kernel_rfl) (List.Sublist.cons_cons _ (List.Sublist.cons_cons _ (List.Sublist.cons_cons _ (List.Sublist.cons_cons _ (List.Sublist.cons_cons _ (List.Sublist.cons _ (List.Sublist.refl _))))))) (gives_value _ fun _ => by rfl) ?_
  refine flow_one 3 (by kernel_rfl) ?_
  refine F_store (t := 28) 5 g1 (frc (0 : Int)) (frc ((num bs0))) (by rfl) (by rfl) (by rfl) (by rfl) (by rfl) (hi_fr _) ((frc_size _).trans (frc_size _).symm) (frc_one _) (.inr (List.Sublist.cons_cons _ (List.Sublist.cons_cons _ (List.Sublist.cons_cons _ (List.Sublist.cons_cons _ (List.Sublist.cons_cons _ (List.Sublist.cons _ (List.Sublist.refl _)))))))) ?_
  simp only [List.set_cons_zero, List.set_cons_succ]
  refine flow_done (by kernel_rfl) ?_
  intro w4 hw4
  refine wp_ret ?_
  change bodyPost _ _ _ Exit.ret _ _
  refine (ret_tmp_cell (by rfl) (by rfl) (by rfl) (by rfl) (hw4.blk 5 (by rfl)) Tryd.underlying28 (by rfl) (hi_fr _) ⟨_, _, _, rfl, hwb_3, hw4.ge 2 (by rfl), hw4.blk 2 (by rfl), hw4.below⟩)
set_option maxRecDepth 100000 in
set_option maxHeartbeats 4000000 in
theorem rwide_0 (A0 : Option Addr) (L0 C0 : Nat) (bs0 : List Int) (v : World) (hG : GloR v) (hH : GSh v) (hr0 : Reads v v.heap.size A0 L0 (bs0.map (Value.int .u8))) (ho0 : Oct bs0) (hs : 400 < L0) : Rets 4 #[.slice A0 L0 C0] v (.bool true) := by
  have hn0 : bs0.length = L0 := by simpa using hr0.1
  refine calls_fr1 Tryd.func4 rfl (by rfl : _ = 25) (by rfl) ?_
  have hw := Hbl.nil v
  refine seq_plain hw [0] (by rfl) ?_
  refine L_val (.bool false) (by rfl) (by rfl) (gives_value _ fun _ => by rfl) ?_
  refine L_end ?_
  intro w1 hw1
  refine wp_seq ?_
  refine seq_plain hw1 [0, 1] (by rfl) ?_
  refine L_val (.bool true) (by rfl) (by rfl) (gives_call (vl := []) (by kernel_rfl) (by rfl) (fun w h => u_head w (hG.keep h.below))) ?_
  refine L_val (.bool false) (by rfl) (by rfl) (gives_value _ fun _ => by rfl) ?_
  refine L_end ?_
  intro w2 hw2
  refine wp_cond_false (fr_at _ _ (by rfl) _) ?_
  refine wp_skip ?_
  change Code.wp _ _ _ _ _
  refine wp_seq ?_
  refine seq_plain hw2 [0, 1, 2] (by rfl) ?_
  refine L_val (.slice A0 L0 C0) (by rfl) (by rfl) (gives_value _ fun _ => by rfl) ?_
  refine L_val (.int .i64 (L0 : Int)) (by rfl) (by rfl) (gives_len _ L0 C0 und_u8s (by rfl)) ?_
  refine L_val (.bool true) (by rfl) (by rfl) (gives_gtr (k := .i64) ((L0 : Int)) (400) true (by rfl) (by rfl) (decide_eq_true (by omega))) ?_
  refine L_end ?_
  intro w3 hw3
  refine wp_cond_true (fr_at _ _ (by rfl) _) ?_
  refine seq_plain hw3 [0] (by rfl) ?_
  refine L_val (.bool true) (by rfl) (by rfl) (gives_value _ fun _ => by rfl) ?_
  refine L_end ?_
  intro w4 hw4
  refine wp_ret ?_
  change bodyPost _ _ _ Exit.ret _ _
  refine (ret_tmp (by rfl) (by rfl) (by rfl) ⟨rfl, hw4.below⟩)
set_option maxRecDepth 100000 in
set_option maxHeartbeats 4000000 in
theorem rwide_1 (A0 : Option Addr) (L0 C0 : Nat) (bs0 : List Int) (v : World) (hG : GloR v) (hH : GSh v) (hr0 : Reads v v.heap.size A0 L0 (bs0.map (Value.int .u8))) (ho0 : Oct bs0) (hs : L0 ≤ 400) : Rets 4 #[.slice A0 L0 C0] v (.bool true) := by
  have hn0 : bs0.length = L0 := by simpa using hr0.1
  refine calls_fr1 Tryd.func4 rfl (by rfl : _ = 25) (by rfl) ?_
  have hw := Hbl.nil v
  refine seq_plain hw [0] (by rfl) ?_
  refine L_val (.bool false) (by rfl) (by rfl) (gives_value _ fun _ => by rfl) ?_
  refine L_end ?_
  intro w1 hw1
  refine wp_seq ?_
  refine seq_plain hw1 [0, 1] (by rfl) ?_
  refine L_val (.bool true) (by rfl) (by rfl) (gives_call (vl := []) (by kernel_rfl) (by rfl) (fun w h => u_head w (hG.keep h.below))) ?_
  refine L_val (.bool false) (by rfl) (by rfl) (gives_value _ fun _ => by rfl) ?_
  refine L_end ?_
  intro w2 hw2
  refine wp_cond_false (fr_at _ _ (by rfl) _) ?_
  refine wp_skip ?_
  change Code.wp _ _ _ _ _
  refine wp_seq ?_
  refine seq_plain hw2 [0, 1, 2] (by rfl) ?_
  refine L_val (.slice A0 L0 C0) (by rfl) (by rfl) (gives_value _ fun _ => by rfl) ?_
  refine L_val (.int .i64 (L0 : Int)) (by rfl) (by rfl) (gives_len _ L0 C0 und_u8s (by rfl)) ?_
  refine L_val (.bool false) (by rfl) (by rfl) (gives_gtr (k := .i64) ((L0 : Int)) (400) false (by rfl) (by rfl) (decide_eq_false (by omega))) ?_
  refine L_end ?_
  intro w3 hw3
  refine wp_cond_false (fr_at _ _ (by rfl) _) ?_
  refine wp_skip ?_
  change Code.wp _ _ _ _ _
  refine seq_plain hw3 [0, 1, 2] (by rfl) ?_
  refine L_val (.slice A0 L0 C0) (by rfl) (by rfl) (gives_value _ fun _ => by rfl) ?_
  refine L_fresh 5 (ag8 bs0) (fun g => .slice (some ⟨g, 0, none⟩) L0 L0) (by rfl) (by rfl) (by kernel_rfl) (by rfl) (fun w h => copy_any w A0 L0 C0 bs0 ((hr0.below h.below).more h.below.size) (by omega)) ?_; intro g1
  refine L_val (.slice (some ⟨g1, 0, none⟩) L0 L0) (by rfl) (by rfl) (gives_value _ fun _ => by rfl) ?_
  refine L_end ?_
  intro w4 hw4
  refine seq_plain hw4 [0, 1, 2, 3] (by rfl) ?_
  refine L_val (.slice (some ⟨g1, 0, none⟩) L0 L0) (by rfl) (by rfl) (gives_value _ fun _ => by rfl) ?_
  refine L_val (.agg (frc (num bs0))) (by rfl) (by rfl) (gives_call (vl := [.slice (some ⟨g1, 0, none⟩) L0 L0]) (by kernel_rfl) (by rfl) (fun w h => u_wide _ _ _ bs0 w (hG.keep h.below) (hH.keep h.below) (copy_reads (h.blk 0 (by rfl)) hn0) ho0 (Nat.le_refl _) (by omega))) ?_
  refine L_alloc _ (by rfl) (by rfl) z_fr (frc (0 : Int)) rfl ?_; intro g2
  refine L_store (t := 28) 0 g2 (frc (0 : Int)) (frc (num bs0)) (by rfl) (by rfl) (by rfl) (by rfl) (by rfl) (hi_fr _) ((frc_size _).trans (frc_size _).symm) (frc_one _) ?_
  simp only [List.set_cons_zero, List.set_cons_succ]
  refine L_end ?_
  intro w5 hw5
  refine seq_flow (by kernel_rfl) hw5 [] [(g2, 28, (frc (num bs0))), (g1, 5, (ag8 bs0))] 12 (by rfl) ?_
  refine flow_take (i := 0) (.agg (frc (num bs0))) (by rfl) (by kernel_rfl) (by kernel_rfl) (by kernel_rfl) (by rfl) (by kernel_rfl) (List.Sublist.refl _) (gives_load g2 0 28 (frc (num bs0)) (frc (num bs0)) _ (by rfl) (fun _ h => h.blk 0 (by rfl)) (Sl.refl _) Tryd.underlying28 (by rfl) (hi_fr _)) ?_
  refine flow_take (i := 1) (.slice A0 L0 C0) (by rfl) (by kernel_rfl) (by kernel_rfl) (by kernel_rfl) (by rfl) (by kernel_rfl) (List.Sublist.refl _) (gives_value _ fun _ => by rfl) ?_
  refine flow_one 2 (by kernel_rfl) ?_
  refine F_freshW (vl := [.slice A0 L0 C0]) ((L0 + 1) / 2) (num bs0) (by rfl) (by rfl) Want.none (by kernel_rfl) (by rfl) (List.Sublist.refl _) (fun w h => n_number w _ _ _ bs0 ((hr0.below h.below).more h.below.size) ho0 (by omega)) ?_; intro g3 cap_1 cs_1 hwb_1
  refine flow_one 3 (by kernel_rfl) ?_
  refine F_freshW (vl := []) (16) (Mr) (by rfl) (by rfl) Want.none (by kernel_rfl) (by rfl) (List.Sublist.cons _ (List.Sublist.refl _)) (fun w h => m_03 w) ?_; intro g4 cap_2 cs_2 hwb_2
  refine flow_one 4 (by kernel_rfl) ?_
  refine F_freshW (vl := [.slice (some ⟨g3, 0, none⟩) ((L0 + 1) / 2) cap_1, .slice (some ⟨g4, 0, none⟩) (16) cap_2]) (16) ((num bs0) % Mr) (by rfl) (by rfl) Want.none (by kernel_rfl) (by rfl) (List.Sublist.cons _ (List.Sublist.cons _ (List.Sublist.refl _))) (fun w h => n_mod w _ _ _ _ _ _ _ _ (hwb_1.num (h.blk 1 (by rfl)) (num_rng bs0 _ ho0 hn0) (by omega)) (hwb_2.num (h.blk 0 (by rfl)) ⟨Int.le_of_lt Mr_pos, Mr_16⟩ (by omega)) Mr_pos) ?_; intro g5 cap_3 cs_3 hwb_3
  refine flow_one 5 (by kernel_rfl) ?_
  refine F_val (vl := [.agg (frc (num bs0)), .slice (some ⟨g5, 0, none⟩) (16) cap_3]) (.bool true) (by rfl) (by rfl) Want.none (by kernel_rfl) (by rfl) (List.Sublist.cons _ (List.Sublist.cons _ (List.Sublist.cons _ (List.Sublist.refl _)))) (fun w h => l3_is _ _ _ _ _ w (hG.keep h.below) (hwb_3.num (h.blk 0 (by rfl)) (mod_rng _ _ _ Mr_pos Mr_16) (by omega)) rfl) ?_
  refine flow_take (i := 6) (.bool true) (by rfl) (by kernel_rfl) (by kernel_rfl) (by kernel_rfl) (by rfl) (by kernel_rfl) (List.Sublist.cons _ (List.Sublist.cons _ (List.Sublist.cons _ (List.Sublist.refl _)))) (gives_value _ fun _ => by rfl) ?_
  refine flow_take_g (i := 7) (dj := 20) (.slice (some ⟨g1, 0, none⟩) L0 L0) (by rfl) (by kernel_rfl) (by kernel_rfl) (by kernel_rfl) (by rfl) (by kernel_rfl) (List.Sublist.cons _ (List.Sublist.cons _ (List.Sublist.cons _ (List.Sublist.refl _)))) (by rfl) (by rfl) (by rfl) (gives_value _ fun _ => by rfl) ?_
  refine flow_take_g (i := 8) (dj := 20) (.slice A0 L0 C0) (by rfl) (by kernel_rfl) (by kernel_rfl) (by kernel_rfl) (by rfl) (by kernel_rfl) (List.Sublist.cons _ (List.Sublist.cons _ (List.Sublist.cons _ (List.Sublist.refl _)))) (by rfl) (by rfl) (by rfl) (gives_value _ fun _ => by rfl) ?_
  refine flow_one 9 (by kernel_rfl) ?_
  refine F_val (vl := [.slice (some ⟨g1, 0, none⟩) L0 L0, .slice A0 L0 C0]) (.bool true) (by rfl) (by rfl) (Want.some (dj := 20) (by rfl) (by rfl) (by rfl) (by rfl)) (by kernel_rfl) (by rfl) (List.Sublist.cons _ (List.Sublist.cons _ (List.Sublist.cons _ (List.Sublist.refl _)))) (fun w h => n_same w _ _ _ _ _ _ (bs0) (bs0) (copy_reads (h.blk 4 (by rfl)) hn0) ((hr0.below h.below).more h.below.size) (by omega) (by omega) rfl) ?_
  refine flow_take (i := 10) (.bool true) (by rfl) (by kernel_rfl) (by kernel_rfl) (by kernel_rfl) (by rfl) (by kernel_rfl) (List.Sublist.cons _ (List.Sublist.cons _ (List.Sublist.cons _ (List.Sublist.refl _)))) (gives_value _ fun _ => by rfl) ?_
  refine flow_take (i := 11) (.bool true) (by rfl) (by kernel_rfl) (by kernel_rfl) (by kernel_rfl) (by rfl) (by kernel_rfl) (List.Sublist.cons _ (List.Sublist.cons _ (List.Sublist.cons _ (List.Sublist.refl _)))) (gives_value _ fun _ => by rfl) ?_
  refine flow_done (by kernel_rfl) ?_
  intro w6 hw6
  refine wp_ret ?_
  change bodyPost _ _ _ Exit.ret _ _
  refine (ret_tmp (by rfl) (by rfl) (by rfl) ⟨rfl, hw6.below⟩)
theorem rwide_any (A0 : Option Addr) (L0 C0 : Nat) (bs0 : List Int) (v : World) (hG : GloR v) (hH : GSh v) (hr0 : Reads v v.heap.size A0 L0 (bs0.map (Value.int .u8))) (ho0 : Oct bs0) : Rets 4 #[.slice A0 L0 C0] v (.bool true) := by
  by_cases h : 400 < L0
  · exact rwide_0 A0 L0 C0 bs0 v hG hH hr0 ho0 h
  · exact rwide_1 A0 L0 C0 bs0 v hG hH hr0 ho0 (by omega)
set_option maxRecDepth 100000 in
set_option maxHeartbeats 4000000 in
theorem rreck_0 (A0 : Option Addr) (L0 C0 : Nat) (bs0 : List Int) (A1 : Option Addr) (L1 C1 : Nat) (bs1 : List Int) (v : World) (hG : GloR v) (hr0 : Reads v v.heap.size A0 L0 (bs0.map (Value.int .u8))) (ho0 : Oct bs0) (hr1 : Reads v v.heap.size A1 L1 (bs1.map (Value.int .u8))) (ho1 : Oct bs1) (hs : 64 < L0) : Rets 5 #[.slice A0 L0 C0, .slice A1 L1 C1] v (.bool true) := by
  have hn0 : bs0.length = L0 := by simpa using hr0.1
  have hn1 : bs1.length = L1 := by simpa using hr1.1
  refine calls_fr2 Tryd.func5 rfl (by rfl : _ = 87) (by rfl) ?_
  have hw := Hbl.nil v
  refine seq_plain hw [0] (by rfl) ?_
  refine L_val (.bool false) (by rfl) (by rfl) (gives_value _ fun _ => by rfl) ?_
  refine L_end ?_
  intro w1 hw1
  refine wp_seq ?_
  refine seq_plain hw1 [0, 1] (by rfl) ?_
  refine L_val (.bool true) (by rfl) (by rfl) (gives_call (vl := []) (by kernel_rfl) (by rfl) (fun w h => u_head w (hG.keep h.below))) ?_
  refine L_val (.bool false) (by rfl) (by rfl) (gives_value _ fun _ => by rfl) ?_
  refine L_end ?_
  intro w2 hw2
  refine wp_cond_false (fr_at _ _ (by rfl) _) ?_
  refine wp_skip ?_
  change Code.wp _ _ _ _ _
  refine wp_seq ?_
  refine seq_plain hw2 [0, 1, 2, 3, 4, 5, 6, 7] (by rfl) ?_
  refine L_val (.slice A0 L0 C0) (by rfl) (by rfl) (gives_value _ fun _ => by rfl) ?_
  refine L_val (.int .i64 (L0 : Int)) (by rfl) (by rfl) (gives_len _ L0 C0 und_u8s (by rfl)) ?_
  refine L_val (.bool true) (by rfl) (by rfl) (gives_gtr (k := .i64) ((L0 : Int)) (64) true (by rfl) (by rfl) (decide_eq_true (by omega))) ?_
  refine L_val (.bool true) (by rfl) (by rfl) (gives_value _ fun _ => by rfl) ?_
  refine L_skip (dj := 15) (by rfl) (by rfl) (by rfl) (by rfl) (by rfl) ?_
  refine L_skip (dj := 15) (by rfl) (by rfl) (by rfl) (by rfl) (by rfl) ?_
  refine L_skip (dj := 15) (by rfl) (by rfl) (by rfl) (by rfl) (by rfl) ?_
  refine L_val (.bool true) (by rfl) (by rfl) (gives_value _ fun _ => by rfl) ?_
  refine L_end ?_
  intro w3 hw3
  refine wp_cond_true (fr_at _ _ (by rfl) _) ?_
  refine seq_plain hw3 [0] (by rfl) ?_
  refine L_val (.bool true) (by rfl) (by rfl) (gives_value _ fun _ => by rfl) ?_
  refine L_end ?_
  intro w4 hw4
  refine wp_ret ?_
  change bodyPost _ _ _ Exit.ret _ _
  refine (ret_tmp (by rfl) (by rfl) (by rfl) ⟨rfl, hw4.below⟩)
set_option maxRecDepth 100000 in
set_option maxHeartbeats 4000000 in
theorem rreck_1 (A0 : Option Addr) (L0 C0 : Nat) (bs0 : List Int) (A1 : Option Addr) (L1 C1 : Nat) (bs1 : List Int) (v : World) (hG : GloR v) (hr0 : Reads v v.heap.size A0 L0 (bs0.map (Value.int .u8))) (ho0 : Oct bs0) (hr1 : Reads v v.heap.size A1 L1 (bs1.map (Value.int .u8))) (ho1 : Oct bs1) (hs : L0 ≤ 64) (hs1 : 64 < L1) : Rets 5 #[.slice A0 L0 C0, .slice A1 L1 C1] v (.bool true) := by
  have hn0 : bs0.length = L0 := by simpa using hr0.1
  have hn1 : bs1.length = L1 := by simpa using hr1.1
  refine calls_fr2 Tryd.func5 rfl (by rfl : _ = 87) (by rfl) ?_
  have hw := Hbl.nil v
  refine seq_plain hw [0] (by rfl) ?_
  refine L_val (.bool false) (by rfl) (by rfl) (gives_value _ fun _ => by rfl) ?_
  refine L_end ?_
  intro w1 hw1
  refine wp_seq ?_
  refine seq_plain hw1 [0, 1] (by rfl) ?_
  refine L_val (.bool true) (by rfl) (by rfl) (gives_call (vl := []) (by kernel_rfl) (by rfl) (fun w h => u_head w (hG.keep h.below))) ?_
  refine L_val (.bool false) (by rfl) (by rfl) (gives_value _ fun _ => by rfl) ?_
  refine L_end ?_
  intro w2 hw2
  refine wp_cond_false (fr_at _ _ (by rfl) _) ?_
  refine wp_skip ?_
  change Code.wp _ _ _ _ _
  refine wp_seq ?_
  refine seq_plain hw2 [0, 1, 2, 3, 4, 5, 6, 7] (by rfl) ?_
  refine L_val (.slice A0 L0 C0) (by rfl) (by rfl) (gives_value _ fun _ => by rfl) ?_
  refine L_val (.int .i64 (L0 : Int)) (by rfl) (by rfl) (gives_len _ L0 C0 und_u8s (by rfl)) ?_
  refine L_val (.bool false) (by rfl) (by rfl) (gives_gtr (k := .i64) ((L0 : Int)) (64) false (by rfl) (by rfl) (decide_eq_false (by omega))) ?_
  refine L_val (.bool false) (by rfl) (by rfl) (gives_value _ fun _ => by rfl) ?_
  refine L_val_g (dj := 15) (.slice A1 L1 C1) (by rfl) (by rfl) (by rfl) (by rfl) (by rfl) (gives_value _ fun _ => by rfl) ?_
  refine L_val_g (dj := 15) (.int .i64 (L1 : Int)) (by rfl) (by rfl) (by rfl) (by rfl) (by rfl) (gives_len _ L1 C1 und_u8s (by rfl)) ?_
  refine L_val_g (dj := 15) (.bool true) (by rfl) (by rfl) (by rfl) (by rfl) (by rfl) (gives_gtr (k := .i64) ((L1 : Int)) (64) true (by rfl) (by rfl) (decide_eq_true (by omega))) ?_
  refine L_val (.bool true) (by rfl) (by rfl) (gives_value _ fun _ => by rfl) ?_
  refine L_end ?_
  intro w3 hw3
  refine wp_cond_true (fr_at _ _ (by rfl) _) ?_
  refine seq_plain hw3 [0] (by rfl) ?_
  refine L_val (.bool true) (by rfl) (by rfl) (gives_value _ fun _ => by rfl) ?_
  refine L_end ?_
  intro w4 hw4
  refine wp_ret ?_
  change bodyPost _ _ _ Exit.ret _ _
  refine (ret_tmp (by rfl) (by rfl) (by rfl) ⟨rfl, hw4.below⟩)
set_option maxRecDepth 100000 in
set_option maxHeartbeats 4000000 in
theorem rreck_2 (A0 : Option Addr) (L0 C0 : Nat) (bs0 : List Int) (A1 : Option Addr) (L1 C1 : Nat) (bs1 : List Int) (v : World) (hG : GloR v) (hr0 : Reads v v.heap.size A0 L0 (bs0.map (Value.int .u8))) (ho0 : Oct bs0) (hr1 : Reads v v.heap.size A1 L1 (bs1.map (Value.int .u8))) (ho1 : Oct bs1) (hs : L0 ≤ 64) (hs1 : L1 ≤ 64) : Rets 5 #[.slice A0 L0 C0, .slice A1 L1 C1] v (.bool true) := by
  have hn0 : bs0.length = L0 := by simpa using hr0.1
  have hn1 : bs1.length = L1 := by simpa using hr1.1
  refine calls_fr2 Tryd.func5 rfl (by rfl : _ = 87) (by rfl) ?_
  have hw := Hbl.nil v
  refine seq_plain hw [0] (by rfl) ?_
  refine L_val (.bool false) (by rfl) (by rfl) (gives_value _ fun _ => by rfl) ?_
  refine L_end ?_
  intro w1 hw1
  refine wp_seq ?_
  refine seq_plain hw1 [0, 1] (by rfl) ?_
  refine L_val (.bool true) (by rfl) (by rfl) (gives_call (vl := []) (by kernel_rfl) (by rfl) (fun w h => u_head w (hG.keep h.below))) ?_
  refine L_val (.bool false) (by rfl) (by rfl) (gives_value _ fun _ => by rfl) ?_
  refine L_end ?_
  intro w2 hw2
  refine wp_cond_false (fr_at _ _ (by rfl) _) ?_
  refine wp_skip ?_
  change Code.wp _ _ _ _ _
  refine wp_seq ?_
  refine seq_plain hw2 [0, 1, 2, 3, 4, 5, 6, 7] (by rfl) ?_
  refine L_val (.slice A0 L0 C0) (by rfl) (by rfl) (gives_value _ fun _ => by rfl) ?_
  refine L_val (.int .i64 (L0 : Int)) (by rfl) (by rfl) (gives_len _ L0 C0 und_u8s (by rfl)) ?_
  refine L_val (.bool false) (by rfl) (by rfl) (gives_gtr (k := .i64) ((L0 : Int)) (64) false (by rfl) (by rfl) (decide_eq_false (by omega))) ?_
  refine L_val (.bool false) (by rfl) (by rfl) (gives_value _ fun _ => by rfl) ?_
  refine L_val_g (dj := 15) (.slice A1 L1 C1) (by rfl) (by rfl) (by rfl) (by rfl) (by rfl) (gives_value _ fun _ => by rfl) ?_
  refine L_val_g (dj := 15) (.int .i64 (L1 : Int)) (by rfl) (by rfl) (by rfl) (by rfl) (by rfl) (gives_len _ L1 C1 und_u8s (by rfl)) ?_
  refine L_val_g (dj := 15) (.bool false) (by rfl) (by rfl) (by rfl) (by rfl) (by rfl) (gives_gtr (k := .i64) ((L1 : Int)) (64) false (by rfl) (by rfl) (decide_eq_false (by omega))) ?_
  refine L_val (.bool false) (by rfl) (by rfl) (gives_value _ fun _ => by rfl) ?_
  refine L_end ?_
  intro w3 hw3
  refine wp_cond_false (fr_at _ _ (by rfl) _) ?_
  refine wp_skip ?_
  change Code.wp _ _ _ _ _
  refine seq_plain hw3 [0, 1] (by rfl) ?_
  refine L_freshW (vl := []) (16) (Mr) (by rfl) (by rfl) (by kernel_rfl) (by rfl) (fun w h => m_03 w) ?_; intro g1 cap_1 cs_1 hwb_1
  refine L_val (.slice (some ⟨g1, 0, none⟩) (16) cap_1) (by rfl) (by rfl) (gives_value _ fun _ => by rfl) ?_
  refine L_end ?_
  intro w4 hw4
  refine seq_plain hw4 [0, 1, 2, 3, 4, 5, 6, 7] (by rfl) ?_
  refine L_val (.slice A0 L0 C0) (by rfl) (by rfl) (gives_value _ fun _ => by rfl) ?_
  refine L_freshU (vl := [.slice A0 L0 C0]) (fun g cap => .tuple #[.slice (some ⟨g, 0, none⟩) 16 cap, .agg (frc (num bs0))]) (16) (num bs0 % Mr) (by rfl) (by rfl) (by kernel_rfl) (by rfl) (fun w h => l3_number A0 L0 C0 bs0 w (hG.keep h.below) ((hr0.below h.below).more h.below.size) ho0 (by omega)) ?_; intro g2 cap_2 cs_2 hwb_2
  refine L_val (.tuple #[.slice (some ⟨g2, 0, none⟩) 16 cap_2, .agg (frc (num bs0))]) (by rfl) (by rfl) (gives_value _ fun _ => by rfl) ?_
  refine L_val (.slice (some ⟨g2, 0, none⟩) 16 cap_2) (by rfl) (by rfl) (gives_value _ fun _ => by kernel_rfl) ?_
  refine L_val (.agg (frc (num bs0))) (by rfl) (by rfl) (gives_value _ fun _ => by kernel_rfl) ?_
  refine L_alloc _ (by rfl) (by rfl) z_fr (frc (0 : Int)) rfl ?_; intro g3
  refine L_val (.slice (some ⟨g2, 0, none⟩) 16 cap_2) (by rfl) (by rfl) (gives_value _ fun _ => by rfl) ?_
  refine L_store (t := 28) 0 g3 (frc (0 : Int)) (frc (num bs0)) (by rfl) (by rfl) (by rfl) (by rfl) (by rfl) (hi_fr _) ((frc_size _).trans (frc_size _).symm) (frc_one _) ?_
  simp only [List.set_cons_zero, List.set_cons_succ]
  refine L_end ?_
  intro w5 hw5
  refine seq_plain hw5 [0, 1, 2, 3, 4, 5, 6, 7] (by rfl) ?_
  refine L_val (.slice A1 L1 C1) (by rfl) (by rfl) (gives_value _ fun _ => by rfl) ?_
  refine L_freshU (vl := [.slice A1 L1 C1]) (fun g cap => .tuple #[.slice (some ⟨g, 0, none⟩) 16 cap, .agg (frc (num bs1))]) (16) (num bs1 % Mr) (by rfl) (by rfl) (by kernel_rfl) (by rfl) (fun w h => l3_number A1 L1 C1 bs1 w (hG.keep h.below) ((hr1.below h.below).more h.below.size) ho1 (by omega)) ?_; intro g4 cap_3 cs_3 hwb_3
  refine L_val (.tuple #[.slice (some ⟨g4, 0, none⟩) 16 cap_3, .agg (frc (num bs1))]) (by rfl) (by rfl) (gives_value _ fun _ => by rfl) ?_
  refine L_val (.slice (some ⟨g4, 0, none⟩) 16 cap_3) (by rfl) (by rfl) (gives_value _ fun _ => by kernel_rfl) ?_
  refine L_val (.agg (frc (num bs1))) (by rfl) (by rfl) (gives_value _ fun _ => by kernel_rfl) ?_
  refine L_alloc _ (by rfl) (by rfl) z_fr (frc (0 : Int)) rfl ?_; intro g5
  refine L_val (.slice (some ⟨g4, 0, none⟩) 16 cap_3) (by rfl) (by rfl) (gives_value _ fun _ => by rfl) ?_
  refine L_store (t := 28) 0 g5 (frc (0 : Int)) (frc (num bs1)) (by rfl) (by rfl) (by rfl) (by rfl) (by rfl) (hi_fr _) ((frc_size _).trans (frc_size _).symm) (frc_one _) ?_
  simp only [List.set_cons_zero, List.set_cons_succ]
  refine L_end ?_
  intro w6 hw6
  refine wp_seq ?_
  refine seq_plain hw6 [0, 1, 2, 3, 4, 5, 6, 7, 8, 9] (by rfl) ?_
  refine L_val (.agg (frc (num bs0))) (by rfl) (by rfl) (gives_load g3 0 28 (frc (num bs0)) (frc (num bs0)) _ (by rfl) (fun _ h => h.blk 2 (by rfl)) (Sl.refl _) Tryd.underlying28 (by rfl) (hi_fr _)) ?_
  refine L_val (.slice (some ⟨g2, 0, none⟩) 16 cap_2) (by rfl) (by rfl) (gives_value _ fun _ => by rfl) ?_
  refine L_val (.bool true) (by rfl) (by rfl) (gives_call (vl := [.agg (frc (num bs0)), .slice (some ⟨g2, 0, none⟩) 16 cap_2]) (by kernel_rfl) (by rfl) (fun w h => l3_is _ _ _ _ _ w (hG.keep h.below) (hwb_2.num (h.blk 3 (by rfl)) (mod_rng _ _ _ Mr_pos Mr_16) (by omega)) rfl)) ?_
  refine L_val (.bool false) (by rfl) (by rfl) (gives_value _ fun _ => by rfl) ?_
  refine L_val (.bool false) (by rfl) (by rfl) (gives_value _ fun _ => by rfl) ?_
  refine L_val_g (dj := 35) (.agg (frc (num bs1))) (by rfl) (by rfl) (by rfl) (by rfl) (by rfl) (gives_load g5 0 28 (frc (num bs1)) (frc (num bs1)) _ (by rfl) (fun _ h => h.blk 0 (by rfl)) (Sl.refl _) Tryd.underlying28 (by rfl) (hi_fr _)) ?_
  refine L_val_g (dj := 35) (.slice (some ⟨g4, 0, none⟩) 16 cap_3) (by rfl) (by rfl) (by rfl) (by rfl) (by rfl) (gives_value _ fun _ => by rfl) ?_
  refine L_val_g (dj := 35) (.bool true) (by rfl) (by rfl) (by rfl) (by rfl) (by rfl) (gives_call (vl := [.agg (frc (num bs1)), .slice (some ⟨g4, 0, none⟩) 16 cap_3]) (by kernel_rfl) (by rfl) (fun w h => l3_is _ _ _ _ _ w (hG.keep h.below) (hwb_3.num (h.blk 1 (by rfl)) (mod_rng _ _ _ Mr_pos Mr_16) (by omega)) rfl)) ?_
  refine L_val_g (dj := 35) (.bool false) (by rfl) (by rfl) (by rfl) (by rfl) (by rfl) (gives_value _ fun _ => by rfl) ?_
  refine L_val (.bool false) (by rfl) (by rfl) (gives_value _ fun _ => by rfl) ?_
  refine L_end ?_
  intro w7 hw7
  refine wp_cond_false (fr_at _ _ (by rfl) _) ?_
  refine wp_skip ?_
  change Code.wp _ _ _ _ _
  refine wp_seq ?_
  refine seq_plain hw7 [0, 1, 2, 3, 4, 5, 6, 7, 8, 9, 10, 11, 12, 13, 14, 15, 16, 17, 18, 19, 20, 21, 22, 23, 24, 25, 26, 27, 28, 29, 30] (by rfl) ?_
  refine L_val (.agg (frc (num bs0))) (by rfl) (by rfl) (gives_load g3 0 28 (frc (num bs0)) (frc (num bs0)) _ (by rfl) (fun _ h => h.blk 2 (by rfl)) (Sl.refl _) Tryd.underlying28 (by rfl) (hi_fr _)) ?_
  refine L_val (.agg (frc (num bs1))) (by rfl) (by rfl) (gives_load g5 0 28 (frc (num bs1)) (frc (num bs1)) _ (by rfl) (fun _ h => h.blk 0 (by rfl)) (Sl.refl _) Tryd.underlying28 (by rfl) (hi_fr _)) ?_
  refine L_val (.agg (frc ((num bs0) + (num bs1)))) (by rfl) (by rfl) (gives_call (vl := [.agg (frc (num bs0)), .agg (frc (num bs1))]) (by kernel_rfl) (by rfl) (fun w h => u_add _ _ w (hG.keep h.below))) ?_
  refine L_val (.slice (some ⟨g2, 0, none⟩) 16 cap_2) (by rfl) (by rfl) (gives_value _ fun _ => by rfl) ?_
  refine L_val (.slice (some ⟨g4, 0, none⟩) 16 cap_3) (by rfl) (by rfl) (gives_value _ fun _ => by rfl) ?_
  refine L_val (.slice (some ⟨g1, 0, none⟩) (16) cap_1) (by rfl) (by rfl) (gives_value _ fun _ => by rfl) ?_
  refine L_freshW (vl := [.slice (some ⟨g2, 0, none⟩) 16 cap_2, .slice (some ⟨g4, 0, none⟩) 16 cap_3, .slice (some ⟨g1, 0, none⟩) (16) cap_1]) (16) (((num bs0 % Mr) + (num bs1 % Mr)) % Mr) (by rfl) (by rfl) (by kernel_rfl) (by rfl) (fun w h => n_add w _ _ _ _ _ _ _ _ _ _ _ _ (hwb_2.num (h.blk 3 (by rfl)) (mod_rng _ _ _ Mr_pos Mr_16) (by omega)) (hwb_3.num (h.blk 1 (by rfl)) (mod_rng _ _ _ Mr_pos Mr_16) (by omega)) (hwb_1.num (h.blk 4 (by rfl)) ⟨Int.le_of_lt Mr_pos, Mr_16⟩ (by omega)) Mr_pos (by omega)) ?_; intro g6 cap_4 cs_4 hwb_4
  refine L_val (.bool true) (by rfl) (by rfl) (gives_call (vl := [.agg (frc ((num bs0) + (num bs1))), .slice (some ⟨g6, 0, none⟩) (16) cap_4]) (by kernel_rfl) (by rfl) (fun w h => l3_is _ _ _ _ _ w (hG.keep h.below) (hwb_4.num (h.blk 0 (by rfl)) (mod_rng _ _ _ Mr_pos Mr_16) (by omega)) (Int.add_emod (num bs0) (num bs1) Mr))) ?_
  refine L_val (.bool false) (by rfl) (by rfl) (gives_value _ fun _ => by rfl) ?_
  refine L_val (.bool false) (by rfl) (by rfl) (gives_value _ fun _ => by rfl) ?_
  refine L_val_g (dj := 50) (.agg (frc (num bs0))) (by rfl) (by rfl) (by rfl) (by rfl) (by rfl) (gives_load g3 0 28 (frc (num bs0)) (frc (num bs0)) _ (by rfl) (fun _ h => h.blk 3 (by rfl)) (Sl.refl _) Tryd.underlying28 (by rfl) (hi_fr _)) ?_
  refine L_val_g (dj := 50) (.agg (frc (num bs1))) (by rfl) (by rfl) (by rfl) (by rfl) (by rfl) (gives_load g5 0 28 (frc (num bs1)) (frc (num bs1)) _ (by rfl) (fun _ h => h.blk 1 (by rfl)) (Sl.refl _) Tryd.underlying28 (by rfl) (hi_fr _)) ?_
  refine L_val_g (dj := 50) (.agg (frc ((num bs0) - (num bs1)))) (by rfl) (by rfl) (by rfl) (by rfl) (by rfl) (gives_call (vl := [.agg (frc (num bs0)), .agg (frc (num bs1))]) (by kernel_rfl) (by rfl) (fun w h => u_sub _ _ w (hG.keep h.below))) ?_
  refine L_val_g (dj := 50) (.slice (some ⟨g2, 0, none⟩) 16 cap_2) (by rfl) (by rfl) (by rfl) (by rfl) (by rfl) (gives_value _ fun _ => by rfl) ?_
  refine L_val_g (dj := 50) (.slice (some ⟨g4, 0, none⟩) 16 cap_3) (by rfl) (by rfl) (by rfl) (by rfl) (by rfl) (gives_value _ fun _ => by rfl) ?_
  refine L_val_g (dj := 50) (.slice (some ⟨g1, 0, none⟩) (16) cap_1) (by rfl) (by rfl) (by rfl) (by rfl) (by rfl) (gives_value _ fun _ => by rfl) ?_
  refine L_freshG (vl := [.slice (some ⟨g2, 0, none⟩) 16 cap_2, .slice (some ⟨g4, 0, none⟩) 16 cap_3, .slice (some ⟨g1, 0, none⟩) (16) cap_1]) (16) (((num bs0 % Mr) + Mr - (num bs1 % Mr)) % Mr) (by rfl) (by rfl) (Want.some (dj := 50) (by rfl) (by rfl) (by rfl) (by rfl)) (by kernel_rfl) (by rfl) (fun w h => n_sub w _ _ _ _ _ _ _ _ _ _ _ _ (hwb_2.num (h.blk 4 (by rfl)) (mod_rng _ _ _ Mr_pos Mr_16) (by omega)) (hwb_3.num (h.blk 2 (by rfl)) (mod_rng _ _ _ Mr_pos Mr_16) (by omega)) (hwb_1.num (h.blk 5 (by rfl)) ⟨Int.le_of_lt Mr_pos, Mr_16⟩ (by omega)) (r_le_sub (num bs0) (num bs1)) Mr_pos (by omega)) ?_; intro g7 cap_5 cs_5 hwb_5
  refine L_val_g (dj := 50) (.bool true) (by rfl) (by rfl) (by rfl) (by rfl) (by rfl) (gives_call (vl := [.agg (frc ((num bs0) - (num bs1))), .slice (some ⟨g7, 0, none⟩) (16) cap_5]) (by kernel_rfl) (by rfl) (fun w h => l3_is _ _ _ _ _ w (hG.keep h.below) (hwb_5.num (h.blk 0 (by rfl)) (mod_rng _ _ _ Mr_pos Mr_16) (by omega)) (r_sub (num bs0) (num bs1)))) ?_
  refine L_val_g (dj := 50) (.bool false) (by rfl) (by rfl) (by rfl) (by rfl) (by rfl) (gives_value _ fun _ => by rfl) ?_
  refine L_val (.bool false) (by rfl) (by rfl) (gives_value _ fun _ => by rfl) ?_
  refine L_val (.bool false) (by rfl) (by rfl) (gives_value _ fun _ => by rfl) ?_
  refine L_val_g (dj := 61) (.agg (frc (num bs0))) (by rfl) (by rfl) (by rfl) (by rfl) (by rfl) (gives_load g3 0 28 (frc (num bs0)) (frc (num bs0)) _ (by rfl) (fun _ h => h.blk 4 (by rfl)) (Sl.refl _) Tryd.underlying28 (by rfl) (hi_fr _)) ?_
  refine L_val_g (dj := 61) (.agg (frc (num bs1))) (by rfl) (by rfl) (by rfl) (by rfl) (by rfl) (gives_load g5 0 28 (frc (num bs1)) (frc (num bs1)) _ (by rfl) (fun _ h => h.blk 2 (by rfl)) (Sl.refl _) Tryd.underlying28 (by rfl) (hi_fr _)) ?_
  refine L_val_g (dj := 61) (.agg (frc ((num bs0) * (num bs1)))) (by rfl) (by rfl) (by rfl) (by rfl) (by rfl) (gives_call (vl := [.agg (frc (num bs0)), .agg (frc (num bs1))]) (by kernel_rfl) (by rfl) (fun w h => u_mul _ _ w (hG.keep h.below))) ?_
  refine L_val_g (dj := 61) (.slice (some ⟨g2, 0, none⟩) 16 cap_2) (by rfl) (by rfl) (by rfl) (by rfl) (by rfl) (gives_value _ fun _ => by rfl) ?_
  refine L_val_g (dj := 61) (.slice (some ⟨g4, 0, none⟩) 16 cap_3) (by rfl) (by rfl) (by rfl) (by rfl) (by rfl) (gives_value _ fun _ => by rfl) ?_
  refine L_val_g (dj := 61) (.slice (some ⟨g1, 0, none⟩) (16) cap_1) (by rfl) (by rfl) (by rfl) (by rfl) (by rfl) (gives_value _ fun _ => by rfl) ?_
  refine L_freshG (vl := [.slice (some ⟨g2, 0, none⟩) 16 cap_2, .slice (some ⟨g4, 0, none⟩) 16 cap_3, .slice (some ⟨g1, 0, none⟩) (16) cap_1]) (16) (((num bs0 % Mr) * (num bs1 % Mr)) % Mr) (by rfl) (by rfl) (Want.some (dj := 61) (by rfl) (by rfl) (by rfl) (by rfl)) (by kernel_rfl) (by rfl) (fun w h => n_mul w _ _ _ _ _ _ _ _ _ _ _ _ (hwb_2.num (h.blk 5 (by rfl)) (mod_rng _ _ _ Mr_pos Mr_16) (by omega)) (hwb_3.num (h.blk 3 (by rfl)) (mod_rng _ _ _ Mr_pos Mr_16) (by omega)) (hwb_1.num (h.blk 6 (by rfl)) ⟨Int.le_of_lt Mr_pos, Mr_16⟩ (by omega)) Mr_pos (by omega)) ?_; intro g8 cap_6 cs_6 hwb_6
  refine L_val_g (dj := 61) (.bool true) (by rfl) (by rfl) (by rfl) (by rfl) (by rfl) (gives_call (vl := [.agg (frc ((num bs0) * (num bs1))), .slice (some ⟨g8, 0, none⟩) (16) cap_6]) (by kernel_rfl) (by rfl) (fun w h => l3_is _ _ _ _ _ w (hG.keep h.below) (hwb_6.num (h.blk 0 (by rfl)) (mod_rng _ _ _ Mr_pos Mr_16) (by omega)) (Int.mul_emod (num bs0) (num bs1) Mr))) ?_
  refine L_val_g (dj := 61) (.bool false) (by rfl) (by rfl) (by rfl) (by rfl) (by rfl) (gives_value _ fun _ => by rfl) ?_
  refine L_val (.bool false) (by rfl) (by rfl) (gives_value _ fun _ => by rfl) ?_
  refine L_end ?_
  intro w8 hw8
  refine wp_cond_false (fr_at _ _ (by rfl) _) ?_
  refine wp_skip ?_
  change Code.wp _ _ _ _ _
  refine seq_plain hw8 [0, 1, 2, 3, 4, 5, 6, 7, 8, 9, 10, 11, 12, 13, 14, 15] (by rfl) ?_
  refine L_val (.agg (frc (num bs0))) (by rfl) (by rfl) (gives_load g3 0 28 (frc (num bs0)) (frc (num bs0)) _ (by rfl) (fun _ h => h.blk 5 (by rfl)) (Sl.refl _) Tryd.underlying28 (by rfl) (hi_fr _)) ?_
  refine L_val (.agg (frc ((num bs0) * (num bs0)))) (by rfl) (by rfl) (gives_call (vl := [.agg (frc (num bs0))]) (by kernel_rfl) (by rfl) (fun w h => u_square _ w (hG.keep h.below))) ?_
  refine L_val (.slice (some ⟨g2, 0, none⟩) 16 cap_2) (by rfl) (by rfl) (gives_value _ fun _ => by rfl) ?_
  refine L_val (.slice (some ⟨g2, 0, none⟩) 16 cap_2) (by rfl) (by rfl) (gives_value _ fun _ => by rfl) ?_
  refine L_val (.slice (some ⟨g1, 0, none⟩) (16) cap_1) (by rfl) (by rfl) (gives_value _ fun _ => by rfl) ?_
  refine L_freshW (vl := [.slice (some ⟨g2, 0, none⟩) 16 cap_2, .slice (some ⟨g2, 0, none⟩) 16 cap_2, .slice (some ⟨g1, 0, none⟩) (16) cap_1]) (16) (((num bs0 % Mr) * (num bs0 % Mr)) % Mr) (by rfl) (by rfl) (by kernel_rfl) (by rfl) (fun w h => n_mul w _ _ _ _ _ _ _ _ _ _ _ _ (hwb_2.num (h.blk 6 (by rfl)) (mod_rng _ _ _ Mr_pos Mr_16) (by omega)) (hwb_2.num (h.blk 6 (by rfl)) (mod_rng _ _ _ Mr_pos Mr_16) (by omega)) (hwb_1.num (h.blk 7 (by rfl)) ⟨Int.le_of_lt Mr_pos, Mr_16⟩ (by omega)) Mr_pos (by omega)) ?_; intro g9 cap_7 cs_7 hwb_7
  refine L_val (.bool true) (by rfl) (by rfl) (gives_call (vl := [.agg (frc ((num bs0) * (num bs0))), .slice (some ⟨g9, 0, none⟩) (16) cap_7]) (by kernel_rfl) (by rfl) (fun w h => l3_is _ _ _ _ _ w (hG.keep h.below) (hwb_7.num (h.blk 0 (by rfl)) (mod_rng _ _ _ Mr_pos Mr_16) (by omega)) (Int.mul_emod (num bs0) (num bs0) Mr))) ?_
  refine L_val (.bool true) (by rfl) (by rfl) (gives_value _ fun _ => by rfl) ?_
  refine L_val_g (dj := 79) (.agg (frc (num bs0))) (by rfl) (by rfl) (by rfl) (by rfl) (by rfl) (gives_load g3 0 28 (frc (num bs0)) (frc (num bs0)) _ (by rfl) (fun _ h => h.blk 6 (by rfl)) (Sl.refl _) Tryd.underlying28 (by rfl) (hi_fr _)) ?_
  refine L_val_g (dj := 79) (.agg (frc (-(num bs0)))) (by rfl) (by rfl) (by rfl) (by rfl) (by rfl) (gives_call (vl := [.agg (frc (num bs0))]) (by kernel_rfl) (by rfl) (fun w h => u_neg _ w (hG.keep h.below))) ?_
  refine L_val_g (dj := 79) (.slice (some ⟨g2, 0, none⟩) 16 cap_2) (by rfl) (by rfl) (by rfl) (by rfl) (by rfl) (gives_value _ fun _ => by rfl) ?_
  refine L_val_g (dj := 79) (.slice (some ⟨g1, 0, none⟩) (16) cap_1) (by rfl) (by rfl) (by rfl) (by rfl) (by rfl) (gives_value _ fun _ => by rfl) ?_
  refine L_freshG (vl := [.slice none 0 0, .slice (some ⟨g2, 0, none⟩) 16 cap_2, .slice (some ⟨g1, 0, none⟩) (16) cap_1]) (16) ((0 + Mr - (num bs0 % Mr)) % Mr) (by rfl) (by rfl) (Want.some (dj := 79) (by rfl) (by rfl) (by rfl) (by rfl)) (by kernel_rfl) (by rfl) (fun w h => n_sub w _ _ _ _ _ _ _ _ _ _ _ _ (NumAt.nil w) (hwb_2.num (h.blk 7 (by rfl)) (mod_rng _ _ _ Mr_pos Mr_16) (by omega)) (hwb_1.num (h.blk 8 (by rfl)) ⟨Int.le_of_lt Mr_pos, Mr_16⟩ (by omega)) (r_le_neg (num bs0)) Mr_pos (by omega)) ?_; intro g10 cap_8 cs_8 hwb_8
  refine L_val_g (dj := 79) (.bool true) (by rfl) (by rfl) (by rfl) (by rfl) (by rfl) (gives_call (vl := [.agg (frc (-(num bs0))), .slice (some ⟨g10, 0, none⟩) (16) cap_8]) (by kernel_rfl) (by rfl) (fun w h => l3_is _ _ _ _ _ w (hG.keep h.below) (hwb_8.num (h.blk 0 (by rfl)) (mod_rng _ _ _ Mr_pos Mr_16) (by omega)) (r_neg (num bs0)))) ?_
  refine L_val (.bool true) (by rfl) (by rfl) (gives_value _ fun _ => by rfl) ?_
  refine L_val (.bool true) (by rfl) (by rfl) (gives_value _ fun _ => by rfl) ?_
  refine L_end ?_
  intro w9 hw9
  refine wp_ret ?_
  change bodyPost _ _ _ Exit.ret _ _
  refine (ret_tmp (by rfl) (by rfl) (by rfl) ⟨rfl, hw9.below⟩)
theorem rreck_any (A0 : Option Addr) (L0 C0 : Nat) (bs0 : List Int) (A1 : Option Addr) (L1 C1 : Nat) (bs1 : List Int) (v : World) (hG : GloR v) (hr0 : Reads v v.heap.size A0 L0 (bs0.map (Value.int .u8))) (ho0 : Oct bs0) (hr1 : Reads v v.heap.size A1 L1 (bs1.map (Value.int .u8))) (ho1 : Oct bs1) : Rets 5 #[.slice A0 L0 C0, .slice A1 L1 C1] v (.bool true) := by
  by_cases h : 64 < L0
  · exact rreck_0 A0 L0 C0 bs0 A1 L1 C1 bs1 v hG hr0 ho0 hr1 ho1 h
  · by_cases h1 : 64 < L1
    · exact rreck_1 A0 L0 C0 bs0 A1 L1 C1 bs1 v hG hr0 ho0 hr1 ho1 (by omega) h1
    · exact rreck_2 A0 L0 C0 bs0 A1 L1 C1 bs1 v hG hr0 ho0 hr1 ho1 (by omega) (by omega)
end Go.Proofs.YtclfmdaafpachaaDoor
