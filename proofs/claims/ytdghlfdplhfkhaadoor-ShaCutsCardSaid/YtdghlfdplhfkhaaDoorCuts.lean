/-
  The walk of the law on cuts: wherever a text is cut its digest is the same.
-/
import Derived.Test.YtdghlfdplhfkhaaDoorHead
import Derived.Test.YtdghlfdplhfkhaaDoorEq
namespace Go.Proofs.YtdghlfdplhfkhaaDoor
open Go.RowKit
/-- Two hashes of the law's own. -/
structure Two (w W : World) (x y : Nat) (L M : List Int) : Prop where
  below : Below w.heap.size w W
  hx : HashIs W x L
  hy : HashIs W y M
  ox : w.heap.size ≤ x
  oy : w.heap.size ≤ y
  ne : x ≠ y
section
variable {w W W' : World} {x y : Nat} {L M L' : List Int}
theorem Two.later (h : Two w W x y L M) (hb : Below W.heap.size W W') : Two w W' x y L M :=
  ⟨h.below.trans (hb.mono h.below.size), h.hx.below hb h.hx.lt, h.hy.below hb h.hy.lt, h.ox, h.oy, h.ne⟩
theorem Two.putX (h : Two w W x y L M) (hg : W.grownBy W' (some x)) (hH : HashIs W' x L') : Two w W' x y L' M :=
  ⟨h.below.keepB' hg h.below.size h.ox, hH, h.hy.only hg h.ne.symm, h.ox, h.oy, h.ne⟩
theorem Two.putY (h : Two w W x y L M) (hg : W.grownBy W' (some y)) (hH : HashIs W' y L') : Two w W' x y L L' :=
  ⟨h.below.keepB' hg h.below.size h.oy, h.hx.only hg h.ne, hH, h.ox, h.oy, h.ne⟩
theorem Two.glob (h : Two w W x y L M) (hg : Glob w) (h2 : 2 ≤ w.heap.size) : Glob W := hg.below h.below h2
theorem Two.drewN (h : Two w W x y L M) (n : Nat) : Two w (W.drewN n) x y L M := ⟨below_drewN h.below n, h.hx.keep fun _ k => k.drewN n, h.hy.keep fun _ k => k.drewN n, h.ox, h.oy, h.ne⟩
end
theorem run_cut_lo (A : Option Addr) (n c k : Nat) (hk : k ≤ n) (hn : n ≤ c) : ∃ A1, (∀ (w : World) (B : Nat) (xs : List Value), Reads w B A n xs → Reads w B A1 k (xs.take k)) ∧
    ∀ w : World, (Instr.slice 24 (.slice A n c) none (some (.int .i64 (k : Int))) none).run Tryd.prog w = .ok (.slice A1 k c) w := by
  refine ⟨if c = 0 then A else A.map (·.add 0), fun w B xs h => ?_, fun w => ?_⟩
  · have hf := h.front hk
    refine ⟨hf.1, fun hp => ?_⟩
    obtain ⟨b, o, rfl, h1, h2⟩ := hf.2 hp
    refine ⟨b, o, ?_, h1, h2⟩
    split
    · rfl
    · simp [Addr.add]
  · rw [run_slice_h w 24 A n c und24 .i64 (k : Int) (by omega) (by omega), size24]
    simp [sliced, Result.andThen]
theorem run_cut_hi (A : Option Addr) (n c k : Nat) (hk : k ≤ n) (hn : n ≤ c) : ∃ A2, (∀ (w : World) (B : Nat) (xs : List Value), Reads w B A n xs → Reads w B A2 (n - k) (xs.drop k)) ∧
    ∀ w : World, (Instr.slice 24 (.slice A n c) (some (.int .i64 (k : Int))) none none).run Tryd.prog w = .ok (.slice A2 (n - k) (c - k)) w := by
  obtain ⟨A2, hA, hr⟩ := run_cut1 (P := Tryd.prog) 24 und24 size24 A n c k hk hn
  exact ⟨A2, fun w B xs h => by rw [hA]; exact h.cut hk hn, hr⟩
section
variable {w W : World} {x y : Nat} {L M : List Int}
theorem c_sumX (h : Two w W x y L M) (hgl : Glob w) (h2 : 2 ≤ w.heap.size) (hn : L.length ≤ 1125899906842000) :
    Calls Tryd.prog 19 #[.pointer (some ⟨x, 0, none⟩)] W fun e W' => e = .returned (.agg (agg8 (digest L))) ∧ Hid (Two w W' x y L M) :=
  (sum_any x W L h.hx (h.glob hgl h2) (by have := h.ox; omega) hn).mono fun _ _ ⟨he, hb⟩ => ⟨he, h.later hb⟩
theorem c_sumY (h : Two w W x y L M) (hgl : Glob w) (h2 : 2 ≤ w.heap.size) (hn : M.length ≤ 1125899906842000) :
    Calls Tryd.prog 19 #[.pointer (some ⟨y, 0, none⟩)] W fun e W' => e = .returned (.agg (agg8 (digest M))) ∧ Hid (Two w W' x y L M) :=
  (sum_any y W M h.hy (h.glob hgl h2) (by have := h.oy; omega) hn).mono fun _ _ ⟨he, hb⟩ => ⟨he, h.later hb⟩
theorem c_len (h : Two w W x y L M) : Calls Tryd.prog 20 #[.pointer (some ⟨x, 0, none⟩)] W fun e W' => e = .returned (.int .i64 (L.length : Nat)) ∧ W = W' := len_any W x L h.hx
theorem c_copy (h : Two w W x y L M) {A : Option Addr} {n c : Nat} {bs : List Int} (hr : Reads w w.heap.size A n (bs.map (Value.int .u8))) (hn : n ≤ 281474976710656) :
    Calls Tryd.prog 10 #[.slice A n c] W fun e W' => ∃ g, e = .returned (.slice (some ⟨g, 0, none⟩) n n) ∧ Hid (Two w W' x y L M) ∧ Hid (Blk W' g 5 (agg8 bs)) ∧ Hid (Below W.heap.size W W') :=
  (copy_any W A n c bs ((hr.below h.below).more h.below.size) hn).mono fun _ _ ⟨g, he, _, hB, hb⟩ => ⟨g, he, h.later hb, hB, hb⟩
theorem piece_of {W : World} {B g n : Nat} {bs : List Int} (hB : Blk W g 5 (agg8 bs)) (hl : bs.length = n) (hg : g < B) : Piece W B (.slice (some ⟨g, 0, none⟩) n n) bs :=
  ⟨_, _, _, rfl, Nat.le_refl _, by simpa using hl, fun _ => ⟨_, _, rfl, hg, fun j u hu => by
    rw [Nat.zero_add, hB.cell, agg8]
    simpa using hu⟩⟩
theorem c_of1 {g n : Nat} (h' : Two w (W.alloc (.cells #[.slice (some ⟨g, 0, none⟩) n n] 24)) x y L M) (hgl : Glob w) (h2 : 2 ≤ w.heap.size) {bs : List Int} (hB : Blk W g 5 (agg8 bs)) (hl : bs.length = n) (hn : n ≤ 1125899906842000) :
    Calls Tryd.prog 12 #[.slice (some ⟨W.heap.size, 0, none⟩) 1 1] (W.alloc (.cells #[.slice (some ⟨g, 0, none⟩) n n] 24)) fun e W' => e = .returned (.agg (agg8 (digest bs))) ∧ Hid (Two w W' x y L M) := by
  have hP : Pieces (W.alloc (.cells #[.slice (some ⟨g, 0, none⟩) n n] 24)) (W.alloc (.cells #[.slice (some ⟨g, 0, none⟩) n n] 24)).heap.size (some ⟨W.heap.size, 0, none⟩) 1 [bs] := by
    refine ⟨rfl, fun _ => ⟨_, _, rfl, by simp, fun i hi => ?_⟩⟩
    obtain rfl : i = 0 := by simpa using hi
    exact ⟨_, (Blk.new W 24 _).at_ (by simp), piece_of (hB.alloc _) hl (by have := hB.lt; simp; omega)⟩
  have hs := h'.below.size
  have hO := of_any _ _ 1 1 [bs] hP (h'.glob hgl h2) (by omega) (by omega) (by simp; omega)
  simp only [List.flatten_cons, List.flatten_nil, List.append_nil] at hO
  exact hO.mono fun _ _ ⟨he, hb⟩ => ⟨he, h'.later hb⟩
theorem c_of2 {g1 g2 n1 n2 : Nat} (h' : Two w (W.alloc (.cells #[.slice (some ⟨g1, 0, none⟩) n1 n1, .slice (some ⟨g2, 0, none⟩) n2 n2] 24)) x y L M) (hgl : Glob w) (h2 : 2 ≤ w.heap.size) {b1 b2 : List Int} (hB1 : Blk W g1 5 (agg8 b1)) (hB2 : Blk W g2 5 (agg8 b2)) (hl1 : b1.length = n1) (hl2 : b2.length = n2) (hn : n1 + n2 ≤ 1125899906842000) :
    Calls Tryd.prog 12 #[.slice (some ⟨W.heap.size, 0, none⟩) 2 2] (W.alloc (.cells #[.slice (some ⟨g1, 0, none⟩) n1 n1, .slice (some ⟨g2, 0, none⟩) n2 n2] 24)) fun e W' => e = .returned (.agg (agg8 (digest (b1 ++ b2)))) ∧ Hid (Two w W' x y L M) := by
  have hP : Pieces (W.alloc (.cells #[.slice (some ⟨g1, 0, none⟩) n1 n1, .slice (some ⟨g2, 0, none⟩) n2 n2] 24)) (W.alloc (.cells #[.slice (some ⟨g1, 0, none⟩) n1 n1, .slice (some ⟨g2, 0, none⟩) n2 n2] 24)).heap.size (some ⟨W.heap.size, 0, none⟩) 2 [b1, b2] := by
    refine ⟨rfl, fun _ => ⟨_, _, rfl, by simp, fun i hi => ?_⟩⟩
    match i, hi with
    | 0, _ => exact ⟨_, (Blk.new W 24 _).at_ (by simp), piece_of (hB1.alloc _) hl1 (by have := hB1.lt; simp; omega)⟩
    | 1, _ => exact ⟨_, (Blk.new W 24 _).at_ (by simp), piece_of (hB2.alloc _) hl2 (by have := hB2.lt; simp; omega)⟩
  have hs := h'.below.size
  have hO := of_any _ _ 2 2 [b1, b2] hP (h'.glob hgl h2) (by omega) (by omega) (by simp; omega)
  simp only [List.flatten_cons, List.flatten_nil, List.append_nil] at hO
  exact hO.mono fun _ _ ⟨he, hb⟩ => ⟨he, h'.later hb⟩
end
theorem eq27 (l : List Int) (w : World) (hl : l.length = 32) : (Op.equalIn 10000 27 (.agg (agg8 l)) (.agg (agg8 l))).run Tryd.prog w = .ok true w :=
  run_equalIn_arr 9998 w 27 5 32 .u8 _ Tryd.underlying27 Tryd.underlying5 size5 fun i hi => ⟨_, agg8_at l i (by omega)⟩
theorem two_alloc {w W : World} {x y : Nat} {L M : List Int} (h : Hid (Two w W x y L M)) (o : Obj) : Hid (Two w (W.alloc o) x y L M) := h.out.later ((Below.refl _ _).alloc (Nat.le_refl _) _)
theorem two_drew {w W : World} {x y : Nat} {L M : List Int} (h : Hid (Two w W x y L M)) : Hid (Two w W.drew x y L M) := h.out.drewN 1
theorem src_of {w : World} {g x K : Nat} {l : List Int} (h : Blk w g 5 (agg8 l)) (hne : g ≠ x) (hl : l.length = K) : Src w x (some ⟨g, 0, none⟩) K (l.map (Value.int .u8)) := by
  have hs := h.src (g := x) hne 0 K (by rw [agg8_size, hl]; omega)
  have e : ((agg8 l).toList.drop 0).take K = l.map (Value.int .u8) := by
    rw [List.drop_zero, agg8, List.take_of_length_le]
    rw [List.length_map, hl]; omega
  rwa [e] at hs
set_option maxRecDepth 100000 in
set_option maxHeartbeats 4000000 in
theorem cuts_any (w : World) (A : Option Addr) (n c : Nat) (cut : Int) (bs : List Int) (hr : Reads w w.heap.size A n (bs.map (Value.int .u8))) (hgl : Glob w) (h2 : 2 ≤ w.heap.size) (hnc : n ≤ c) (hc : c ≤ 140737488351232) :
    Calls Tryd.prog 5 #[.slice A n c, .int .i64 cut] w fun e w' => e = .returned (.bool true) ∧ Below w.heap.size w w' := by
  have hl : bs.length = n := by simpa using hr.1
  have HR := Lib.hid hr
  have HL := Lib.hid hl
  have HGL := Lib.hid hgl
  clear hr hl hgl
  obtain ⟨K, hK, hcase⟩ : ∃ K : Nat, K ≤ n ∧ ((cut = (K : Int)) ∨ ((cut < 0 ∨ (n : Int) < cut) ∧ K = n / 3)) := by
    by_cases h : cut < 0 ∨ (n : Int) < cut
    · exact ⟨n / 3, by omega, .inr ⟨h, rfl⟩⟩
    · exact ⟨cut.toNat, by omega, .inl (by omega)⟩
  obtain ⟨A1, hr1, hrun1⟩ := run_cut_lo A n c K hK hnc
  obtain ⟨A2, hr2, hrun2⟩ := run_cut_hi A n c K hK hnc
  have HR1 := Lib.hid (hr1 w w.heap.size _ HR.out)
  have HR2 := Lib.hid (hr2 w w.heap.size _ HR.out)
  clear hr1 hr2
  have hK1 : (bs.take K).length = K := by rw [List.length_take, HL.out]; omega
  have hK2 : (bs.drop K).length = n - K := by rw [List.length_drop, HL.out]
  rw [← List.map_take] at HR1
  rw [← List.map_drop] at HR2
  have LK1 := Lib.hid hK1
  have LK2 := Lib.hid hK2
  clear hK1 hK2
  rcases hcase with rfl | ⟨hout | hout, hKn⟩
  all_goals try have e3 : (n : Int) / 3 = (K : Int) := by omega
  all_goals try have HK := Lib.hid hKn
  all_goals try clear hKn
  all_goals first
    | (have d1 : decide (cut < 0) = true := by simpa using hout)
    | (have d1 : decide (cut < 0) = false := by simp; omega
       have d2 : decide ((n : Int) < cut) = true := by simpa using hout)
    | (have d1 : decide ((K : Int) < 0) = false := by simp
       have d2 : decide ((n : Int) < (K : Int)) = false := by simp; omega)
  all_goals
    go_enter Tryd.func5, Tryd.ntmps5
    go_wp2_with fail
    refine (head_any w HGL.out h2).mono ?_
    rintro e w1 ⟨rfl, hb1⟩
    have HB1 := Lib.hid hb1
    clear hb1
    go_wp2_with fail
    refine (new_any w1).mono ?_
    rintro e w2 ⟨rfl, hb2, hx2⟩
    have HB2 := Lib.hid hb2
    have HX2 := Lib.hid hx2
    clear hb2 hx2
    go_wp2_with fail
    refine (new_any w2).mono ?_
    rintro e w3 ⟨rfl, hb3, hy3⟩
    have T3 := Lib.hid (show Two w w3 w1.heap.size w2.heap.size [] [] from
      ⟨(HB1.out.trans (HB2.out.mono HB1.out.size)).trans (hb3.mono (Nat.le_trans HB1.out.size HB2.out.size)), HX2.out.below hb3 HX2.out.lt, hy3, HB1.out.size, Nat.le_trans HB1.out.size HB2.out.size, Nat.ne_of_lt HX2.out.lt⟩)
    clear hb3 hy3 HB1 HB2 HX2
    generalize w1.heap.size = x at T3 ⊢
    generalize w2.heap.size = y at T3 ⊢
    go_wp2_with fail
    refine (copy_any w3 A1 K c (bs.take K) ((HR1.out.below T3.out.below).more T3.out.below.size) (by omega)).mono ?_
    rintro e w4 ⟨g4, rfl, hg4, hB4, hb4⟩
    have T4 := Lib.hid (T3.out.later hb4)
    have S4 := Lib.hid (src_of (x := x) hB4 (fun e => by have := T3.out.hx.lt; omega) LK1.out)
    clear hB4 hb4 hg4
    go_wp2_with fail
    refine (write_any x w4 ([]) (bs.take K) _ (K) (K) T4.out.hx S4.out (Nat.le_refl _) (T4.out.glob HGL.out h2) (by have := T4.out.ox; omega) (by simp only [List.length_nil]; omega)).mono ?_
    rintro e w5 ⟨rfl, hG4, hH4⟩
    have T5 := Lib.hid (T4.out.putX hG4 (L' := bs.take K) (by simpa only [List.nil_append, List.take_append_drop] using hH4))
    clear hG4 hH4 S4 T3 T4
    go_wp2_with fail
    refine (copy_any w5 A2 (n - K) (c - K) (bs.drop K) ((HR2.out.below T5.out.below).more T5.out.below.size) (by omega)).mono ?_
    rintro e w6 ⟨g6, rfl, hg6, hB6, hb6⟩
    have T6 := Lib.hid (T5.out.later hb6)
    have S6 := Lib.hid (src_of (x := y) hB6 (fun e => by have := T5.out.hy.lt; omega) LK2.out)
    clear hB6 hb6 hg6
    go_wp2_with fail
    refine (write_any y w6 ([]) (bs.drop K) _ ((n - K)) ((n - K)) T6.out.hy S6.out (Nat.le_refl _) (T6.out.glob HGL.out h2) (by have := T6.out.oy; omega) (by simp only [List.length_nil]; omega)).mono ?_
    rintro e w7 ⟨rfl, hG6, hH6⟩
    have T7 := Lib.hid (T6.out.putY hG6 (L' := bs.drop K) (by simpa only [List.nil_append, List.take_append_drop] using hH6))
    clear hG6 hH6 S6 T5 T6
    go_wp2_with fail
    refine (copy_any w7 A2 (n - K) (c - K) (bs.drop K) ((HR2.out.below T7.out.below).more T7.out.below.size) (by omega)).mono ?_
    rintro e w8 ⟨g8, rfl, hg8, hB8, hb8⟩
    have T8 := Lib.hid (T7.out.later hb8)
    have S8 := Lib.hid (src_of (x := x) hB8 (fun e => by have := T7.out.hx.lt; omega) LK2.out)
    clear hB8 hb8 hg8
    go_wp2_with fail
    refine (write_any x w8 (bs.take K) (bs.drop K) _ ((n - K)) ((n - K)) T8.out.hx S8.out (Nat.le_refl _) (T8.out.glob HGL.out h2) (by have := T8.out.ox; omega) (by rw [LK1.out]; omega)).mono ?_
    rintro e w9 ⟨rfl, hG8, hH8⟩
    have T9 := Lib.hid (T8.out.putX hG8 (L' := bs) (by simpa only [List.nil_append, List.take_append_drop] using hH8))
    clear hG8 hH8 S8 T7 T8
    go_wp2_with fail
    refine (copy_any w9 A1 K c (bs.take K) ((HR1.out.below T9.out.below).more T9.out.below.size) (by omega)).mono ?_
    rintro e w10 ⟨g10, rfl, hg10, hB10, hb10⟩
    have T10 := Lib.hid (T9.out.later hb10)
    have S10 := Lib.hid (src_of (x := y) hB10 (fun e => by have := T9.out.hy.lt; omega) LK1.out)
    clear hB10 hb10 hg10
    go_wp2_with fail
    refine (write_any y w10 (bs.drop K) (bs.take K) _ (K) (K) T10.out.hy S10.out (Nat.le_refl _) (T10.out.glob HGL.out h2) (by have := T10.out.oy; omega) (by rw [LK2.out]; omega)).mono ?_
    rintro e w11 ⟨rfl, hG10, hH10⟩
    have T11 := Lib.hid (T10.out.putY hG10 (L' := bs.drop K ++ bs.take K) (by simpa only [List.nil_append, List.take_append_drop] using hH10))
    clear hG10 hH10 S10 T9 T10
    go_wp2_with fail
    obtain ⟨DX, hDX⟩ : ∃ DX, DX = agg8 (digest bs) := ⟨_, rfl⟩
    obtain ⟨DY, hDY⟩ : ∃ DY, DY = agg8 (digest (bs.drop K ++ bs.take K)) := ⟨_, rfl⟩
    have eqX : ∀ W : World, (Op.equalIn 10000 27 (.agg DX) (.agg DX)).run Tryd.prog W = .ok true W := fun W => by rw [hDX]; exact eq27 _ W (digest_len _)
    have eqY : ∀ W : World, (Op.equalIn 10000 27 (.agg DY) (.agg DY)).run Tryd.prog W = .ok true W := fun W => by rw [hDY]; exact eq27 _ W (digest_len _)
    have hSX : ∀ W, Hid (Two w W x y bs (bs.drop K ++ bs.take K)) → Calls Tryd.prog 19 #[.pointer (some ⟨x, 0, none⟩)] W fun e W' => e = .returned (.agg DX) ∧ Hid (Two w W' x y bs (bs.drop K ++ bs.take K)) := fun W h => by rw [hDX]; exact c_sumX h.out HGL.out h2 (by rw [HL.out]; omega)
    have hSY : ∀ W, Hid (Two w W x y bs (bs.drop K ++ bs.take K)) → Calls Tryd.prog 19 #[.pointer (some ⟨y, 0, none⟩)] W fun e W' => e = .returned (.agg DY) ∧ Hid (Two w W' x y bs (bs.drop K ++ bs.take K)) := fun W h => by rw [hDY]; exact c_sumY h.out HGL.out h2 (by rw [List.length_append, LK1.out, LK2.out]; omega)
    have hOX : ∀ W g, Hid (Two w (W.alloc (.cells #[.slice (some ⟨g, 0, none⟩) n n] 24)) x y bs (bs.drop K ++ bs.take K)) → Hid (Blk W g 5 (agg8 bs)) → Calls Tryd.prog 12 #[.slice (some ⟨W.heap.size, 0, none⟩) 1 1] (W.alloc (.cells #[.slice (some ⟨g, 0, none⟩) n n] 24)) fun e W' => e = .returned (.agg DX) ∧ Hid (Two w W' x y bs (bs.drop K ++ bs.take K)) := fun W g h hB => by rw [hDX]; exact c_of1 h.out HGL.out h2 hB.out HL.out (by omega)
    have hOY : ∀ W W1 g1 g2, Hid (Two w (W.alloc (.cells #[.slice (some ⟨g1, 0, none⟩) (n - K) (n - K), .slice (some ⟨g2, 0, none⟩) K K] 24)) x y bs (bs.drop K ++ bs.take K)) → Hid (Below W1.heap.size W1 W) → Hid (Blk W1 g1 5 (agg8 (bs.drop K))) → Hid (Blk W g2 5 (agg8 (bs.take K))) → Calls Tryd.prog 12 #[.slice (some ⟨W.heap.size, 0, none⟩) 2 2] (W.alloc (.cells #[.slice (some ⟨g1, 0, none⟩) (n - K) (n - K), .slice (some ⟨g2, 0, none⟩) K K] 24)) fun e W' => e = .returned (.agg DY) ∧ Hid (Two w W' x y bs (bs.drop K ++ bs.take K)) := fun W W1 g1 g2 h hb hB1 hB2 => by rw [hDY]; exact c_of2 h.out HGL.out h2 (hB1.out.keep hb.out) hB2.out LK2.out LK1.out (by omega)
    have hC0 : ∀ W, Hid (Two w W x y bs (bs.drop K ++ bs.take K)) → Calls Tryd.prog 10 #[.slice A n c] W fun e W' => ∃ g, e = .returned (.slice (some ⟨g, 0, none⟩) n n) ∧ Hid (Two w W' x y bs (bs.drop K ++ bs.take K)) ∧ Hid (Blk W' g 5 (agg8 bs)) ∧ Hid (Below W.heap.size W W') := fun W h => c_copy h.out HR.out (by omega)
    have hC1 : ∀ W, Hid (Two w W x y bs (bs.drop K ++ bs.take K)) → Calls Tryd.prog 10 #[.slice A1 K c] W fun e W' => ∃ g, e = .returned (.slice (some ⟨g, 0, none⟩) K K) ∧ Hid (Two w W' x y bs (bs.drop K ++ bs.take K)) ∧ Hid (Blk W' g 5 (agg8 (bs.take K))) ∧ Hid (Below W.heap.size W W') := fun W h => c_copy h.out HR1.out (by omega)
    have hC2 : ∀ W, Hid (Two w W x y bs (bs.drop K ++ bs.take K)) → Calls Tryd.prog 10 #[.slice A2 (n - K) (c - K)] W fun e W' => ∃ g, e = .returned (.slice (some ⟨g, 0, none⟩) (n - K) (n - K)) ∧ Hid (Two w W' x y bs (bs.drop K ++ bs.take K)) ∧ Hid (Blk W' g 5 (agg8 (bs.drop K))) ∧ Hid (Below W.heap.size W W') := fun W h => c_copy h.out HR2.out (by omega)
    have hLN : ∀ W, Hid (Two w W x y bs (bs.drop K ++ bs.take K)) → Calls Tryd.prog 20 #[.pointer (some ⟨x, 0, none⟩)] W fun e W' => e = .returned (.int .i64 n) ∧ W = W' := fun W h => by have := c_len h.out; rwa [HL.out] at this
    have KSX := Lib.hid hSX
    have KSY := Lib.hid hSY
    have KOX := Lib.hid hOX
    have KOY := Lib.hid hOY
    have KC0 := Lib.hid hC0
    have KC1 := Lib.hid hC1
    have KC2 := Lib.hid hC2
    have KLN := Lib.hid hLN
    clear hSX hSY hOX hOY hC0 hC1 hC2 hLN hDX hDY
    go_region_held3 (fun W => Hid (Two w W x y bs (bs.drop K ++ bs.take K))) (first | with_reducible assumption | exact two_drew (by with_reducible assumption) | exact two_alloc (by with_reducible assumption) _) (first
      | ((go_at_call 19; first | ((with_reducible refine (KSX.out _ ?_).mono ?_); with_reducible assumption) | ((with_reducible refine (KSY.out _ ?_).mono ?_); with_reducible assumption)); rintro e _ ⟨rfl, hT⟩)
      | ((go_at_call 20; (with_reducible refine (KLN.out _ ?_).mono ?_); with_reducible assumption); rintro e _ ⟨rfl, rfl⟩)
      | ((go_at_call 12; first | ((with_reducible refine (KOX.out _ _ ?_ ?_).mono ?_); with_reducible assumption; with_reducible assumption) | ((with_reducible refine (KOY.out _ ?_ _ _ ?_ ?_ ?_ ?_).mono ?_); rotate_left 1; with_reducible assumption; with_reducible assumption; with_reducible assumption; with_reducible assumption)); rintro e _ ⟨rfl, hT⟩)
      | ((go_at_call 10; first | ((with_reducible refine (KC0.out _ ?_).mono ?_); with_reducible assumption) | ((with_reducible refine (KC1.out _ ?_).mono ?_); with_reducible assumption) | ((with_reducible refine (KC2.out _ ?_).mono ?_); with_reducible assumption)); rintro e _ ⟨g, rfl, hT, hB, hb⟩))
    go_wp2_with fail
    go_ret
    refine ⟨rfl, Two.below (x := x) (y := y) (L := bs) (M := bs.drop K ++ bs.take K) ?_⟩
    refine Hid.out ?_
    with_reducible assumption
end Go.Proofs.YtdghlfdplhfkhaaDoor
