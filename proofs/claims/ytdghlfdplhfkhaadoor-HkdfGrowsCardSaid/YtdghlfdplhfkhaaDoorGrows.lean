/-
  The walk of the law on growth: fewer bytes are the beginning of more.
-/
import Derived.Test.YtdghlfdplhfkhaaDoorExp
import Derived.Test.YtdghlfdplhfkhaaDoorSame
import Derived.Test.YtdghlfdplhfkhaaDoorHeadB
import Derived.Laws.BitsAllLaws
import Derived.Laws.BitsLemmas
import Derived.Deep.QuietTactic
import Derived.BigQuiet
namespace Go.Proofs.YtdghlfdplhfkhaaDoor
open Go.RowKit
theorem and_8191 (m : Int) : ∃ M : Nat, M ≤ 8191 ∧ bits .and .i64 m 8191 = (M : Int) := by
  have hx : ((BitVec.ofInt 64 m &&& BitVec.ofInt 64 8191).toNat) ≤ 8191 := by
    rw [BitVec.toNat_and]
    exact Nat.and_le_right
  refine ⟨(BitVec.ofInt 64 m &&& BitVec.ofInt 64 8191).toNat, hx, ?_⟩
  show IntKind.i64.wrap ((BitVec.ofInt 64 m &&& BitVec.ofInt 64 8191).toNat : Int) = _
  rw [IntKind.wrap_i64]
  omega
theorem outL_take (key info : List Int) (a j : Nat) (h : j ≤ 32 * a) (b : Nat) (hab : a ≤ b) : (outL key info b).take j = (outL key info a).take j := by
  induction b with
  | zero => obtain rfl : a = 0 := by omega
            rfl
  | succ b ih =>
    rcases Nat.lt_or_ge a (b + 1) with h1 | h1
    · rw [outL, List.take_append_of_le_length (by rw [outL_len]; omega)]
      exact ih (by omega)
    · obtain rfl : a = b + 1 := by omega
      rfl
theorem reads8 {W : World} {B g n : Nat} {bs : List Int} (hB : Blk W g 5 (agg8 bs)) (hl : bs.length = n) (hg : g < B) : Reads W B (some ⟨g, 0, none⟩) n (bs.map (Value.int .u8)) :=
  ⟨by simpa using hl, fun _ => ⟨_, _, rfl, hg, fun j u hu => by
    rw [Nat.zero_add, hB.cell, agg8]
    simpa using hu⟩⟩
theorem c_exp (W : World) (g1 g2 n1 n2 : Nat) (key info : List Int) (N : Nat) (hB1 : Blk W g1 5 (agg8 key)) (hB2 : Blk W g2 5 (agg8 info)) (hl1 : key.length = n1) (hl2 : info.length = n2) (hgl : Glob W) (h2 : 2 ≤ W.heap.size) (hm : n1 ≤ 1125899906840000) (hm2 : n2 ≤ 1125899906840000) (hN : N ≤ 8160) :
    Calls Tryd.prog 25 #[.slice (some ⟨g1, 0, none⟩) n1 n1, .slice (some ⟨g2, 0, none⟩) n2 n2, .int .i64 N] W fun e W' => ∃ g, e = .returned (.slice (some ⟨g, 0, none⟩) N N) ∧ Hid (Below W.heap.size W W') ∧ Hid (Reads W' W'.heap.size (some ⟨g, 0, none⟩) N (((outL key info ((N + 31) / 32)).take N).map (Value.int .u8))) :=
  (expand_loop W _ n1 n1 key _ n2 n2 info N (reads8 hB1 hl1 hB1.lt) (Nat.le_refl _) (reads8 hB2 hl2 hB2.lt) (Nat.le_refl _) hgl h2 (by omega) hm2 hN).mono fun _ _ ⟨g, he, _, hb, hr⟩ => ⟨g, he, hb, hr⟩
theorem c_cp (w W : World) (hb : Below w.heap.size w W) (A : Option Addr) (n c : Nat) (bs : List Int) (hr : Reads w w.heap.size A n (bs.map (Value.int .u8))) (hn : n ≤ 281474976710656) :
    Calls Tryd.prog 10 #[.slice A n c] W fun e W' => ∃ g, e = .returned (.slice (some ⟨g, 0, none⟩) n n) ∧ Hid (Blk W' g 5 (agg8 bs)) ∧ Hid (Below W.heap.size W W') :=
  (copy_any W A n c bs ((hr.below hb).more hb.size) hn).mono fun _ _ ⟨g, he, _, hB, hb⟩ => ⟨g, he, hB, hb⟩
set_option maxRecDepth 100000 in
set_option maxHeartbeats 1000000 in
theorem grows_long (w : World) (A : Option Addr) (n1 c1 : Nat) (key : List Int) (A2 : Option Addr) (n2 c2 : Nat) (info : List Int) (N M : Int) (hr : Reads w w.heap.size A n1 (key.map (Value.int .u8))) (hr2 : Reads w w.heap.size A2 n2 (info.map (Value.int .u8))) (hgl : Glob w) (h2 : 2 ≤ w.heap.size) (hn1 : n1 ≤ 140737488351232) (hn2 : n2 ≤ 140737488351232) (hlen : 4096 < n1 + n2) :
    Calls Tryd.prog 8 #[.slice A n1 c1, .slice A2 n2 c2, .int .i64 N, .int .i64 M] w fun e w' => e = .returned (.bool true) ∧ Below w.heap.size w w' := by
  have HR := Lib.hid hr
  have HR2 := Lib.hid hr2
  have GL := Lib.hid hgl
  have hl1 : key.length = n1 := by simpa using hr.1
  have hl2 : info.length = n2 := by simpa using hr2.1
  have L1 := Lib.hid hl1
  have L2 := Lib.hid hl2
  clear hr hr2 hgl hl1 hl2
  have d0 : decide ((4096 : Int) < (n1 : Int) + (n2 : Int)) = true := by
    simp only [decide_eq_true_eq]
    omega
  go_enter Tryd.func8, Tryd.ntmps8
  go_wp2_with fail
  refine (headb_any w GL.out h2).mono ?_
  rintro e w1 ⟨rfl, hb1⟩
  have U1 := Lib.hid hb1
  clear hb1
  go_wp2_with fail
  go_ret
  exact ⟨rfl, U1.out⟩
set_option maxRecDepth 100000 in
set_option maxHeartbeats 1000000 in
theorem grows_neg (w : World) (A : Option Addr) (n1 c1 : Nat) (key : List Int) (A2 : Option Addr) (n2 c2 : Nat) (info : List Int) (N M : Int) (hr : Reads w w.heap.size A n1 (key.map (Value.int .u8))) (hr2 : Reads w w.heap.size A2 n2 (info.map (Value.int .u8))) (hgl : Glob w) (h2 : 2 ≤ w.heap.size) (hn1 : n1 ≤ 140737488351232) (hn2 : n2 ≤ 140737488351232) (hlen : n1 + n2 ≤ 4096) (hN : N < 0) :
    Calls Tryd.prog 8 #[.slice A n1 c1, .slice A2 n2 c2, .int .i64 N, .int .i64 M] w fun e w' => e = .returned (.bool true) ∧ Below w.heap.size w w' := by
  have HR := Lib.hid hr
  have HR2 := Lib.hid hr2
  have GL := Lib.hid hgl
  have hl1 : key.length = n1 := by simpa using hr.1
  have hl2 : info.length = n2 := by simpa using hr2.1
  have L1 := Lib.hid hl1
  have L2 := Lib.hid hl2
  clear hr hr2 hgl hl1 hl2
  have d0 : decide ((4096 : Int) < (n1 : Int) + (n2 : Int)) = false := by
    simp only [decide_eq_false_iff_not]
    omega
  have d1 : decide (N < 0) = true := by simpa using hN
  go_enter Tryd.func8, Tryd.ntmps8
  go_wp2_with fail
  refine (headb_any w GL.out h2).mono ?_
  rintro e w1 ⟨rfl, hb1⟩
  have U1 := Lib.hid hb1
  clear hb1
  go_wp2_with fail
  refine (c_cp w w1 U1.out A n1 c1 key HR.out (by omega)).mono ?_
  rintro e w2 ⟨g2, rfl, B2, V2⟩
  have U2 := Lib.hid (U1.out.trans (V2.out.mono U1.out.size))
  go_wp2_with fail
  refine (c_cp w w2 U2.out A2 n2 c2 info HR2.out (by omega)).mono ?_
  rintro e w3 ⟨g3, rfl, B3, V3⟩
  have U3 := Lib.hid (U2.out.trans (V3.out.mono U2.out.size))
  go_wp2_with fail
  refine (expand_out w3 _ _ _ _ _ _ N (by omega)).mono ?_
  rintro e w4 ⟨rfl, hw4⟩
  have U4 := Lib.hid (show Below w.heap.size w w4 by rw [hw4]; exact U3.out)
  go_wp2_with fail
  go_ret
  exact ⟨rfl, U3.out⟩
set_option maxRecDepth 100000 in
set_option maxHeartbeats 1000000 in
theorem grows_big (w : World) (A : Option Addr) (n1 c1 : Nat) (key : List Int) (A2 : Option Addr) (n2 c2 : Nat) (info : List Int) (N M : Int) (hr : Reads w w.heap.size A n1 (key.map (Value.int .u8))) (hr2 : Reads w w.heap.size A2 n2 (info.map (Value.int .u8))) (hgl : Glob w) (h2 : 2 ≤ w.heap.size) (hn1 : n1 ≤ 140737488351232) (hn2 : n2 ≤ 140737488351232) (hlen : n1 + n2 ≤ 4096) (hN : 8160 < N) :
    Calls Tryd.prog 8 #[.slice A n1 c1, .slice A2 n2 c2, .int .i64 N, .int .i64 M] w fun e w' => e = .returned (.bool true) ∧ Below w.heap.size w w' := by
  have HR := Lib.hid hr
  have HR2 := Lib.hid hr2
  have GL := Lib.hid hgl
  have hl1 : key.length = n1 := by simpa using hr.1
  have hl2 : info.length = n2 := by simpa using hr2.1
  have L1 := Lib.hid hl1
  have L2 := Lib.hid hl2
  clear hr hr2 hgl hl1 hl2
  have d0 : decide ((4096 : Int) < (n1 : Int) + (n2 : Int)) = false := by
    simp only [decide_eq_false_iff_not]
    omega
  have d1 : decide (N < 0) = false := by
    simp only [decide_eq_false_iff_not]
    omega
  have d2 : decide (8160 < N) = true := by simpa using hN
  go_enter Tryd.func8, Tryd.ntmps8
  go_wp2_with fail
  refine (headb_any w GL.out h2).mono ?_
  rintro e w1 ⟨rfl, hb1⟩
  have U1 := Lib.hid hb1
  clear hb1
  go_wp2_with fail
  refine (c_cp w w1 U1.out A n1 c1 key HR.out (by omega)).mono ?_
  rintro e w2 ⟨g2, rfl, B2, V2⟩
  have U2 := Lib.hid (U1.out.trans (V2.out.mono U1.out.size))
  go_wp2_with fail
  refine (c_cp w w2 U2.out A2 n2 c2 info HR2.out (by omega)).mono ?_
  rintro e w3 ⟨g3, rfl, B3, V3⟩
  have U3 := Lib.hid (U2.out.trans (V3.out.mono U2.out.size))
  go_wp2_with fail
  refine (expand_out w3 _ _ _ _ _ _ N (by omega)).mono ?_
  rintro e w4 ⟨rfl, hw4⟩
  have U4 := Lib.hid (show Below w.heap.size w w4 by rw [hw4]; exact U3.out)
  go_wp2_with fail
  go_ret
  exact ⟨rfl, U3.out⟩
set_option maxRecDepth 100000 in
set_option maxHeartbeats 1000000 in
theorem grows_over (w : World) (A : Option Addr) (n1 c1 : Nat) (key : List Int) (A2 : Option Addr) (n2 c2 : Nat) (info : List Int) (N : Nat) (M : Int) (K : Nat) (hr : Reads w w.heap.size A n1 (key.map (Value.int .u8))) (hr2 : Reads w w.heap.size A2 n2 (info.map (Value.int .u8))) (hgl : Glob w) (h2 : 2 ≤ w.heap.size) (hn1 : n1 ≤ 140737488351232) (hn2 : n2 ≤ 140737488351232) (hlen : n1 + n2 ≤ 4096) (hN : N ≤ 8160) (hK : bits .and .i64 M 8191 = (K : Int)) (hK1 : K ≤ 8191) (hK2 : 8160 < K) :
    Calls Tryd.prog 8 #[.slice A n1 c1, .slice A2 n2 c2, .int .i64 N, .int .i64 M] w fun e w' => e = .returned (.bool true) ∧ Below w.heap.size w w' := by
  have HR := Lib.hid hr
  have HR2 := Lib.hid hr2
  have GL := Lib.hid hgl
  have hl1 : key.length = n1 := by simpa using hr.1
  have hl2 : info.length = n2 := by simpa using hr2.1
  have L1 := Lib.hid hl1
  have L2 := Lib.hid hl2
  clear hr hr2 hgl hl1 hl2
  have d0 : decide ((4096 : Int) < (n1 : Int) + (n2 : Int)) = false := by
    simp only [decide_eq_false_iff_not]
    omega
  have d1 : decide ((N : Int) < 0) = false := by simp
  have d2 : decide ((8160 : Int) < (N : Int)) = false := by
    simp only [decide_eq_false_iff_not]
    omega
  have d3 : decide ((8160 : Int) < (K : Int)) = true := by
    simp only [decide_eq_true_eq]
    omega
  go_enter Tryd.func8, Tryd.ntmps8
  go_wp2_with fail
  refine (headb_any w GL.out h2).mono ?_
  rintro e w1 ⟨rfl, hb1⟩
  have U1 := Lib.hid hb1
  clear hb1
  go_wp2_with fail
  refine (c_cp w w1 U1.out A n1 c1 key HR.out (by omega)).mono ?_
  rintro e w2 ⟨g2, rfl, B2, V2⟩
  have U2 := Lib.hid (U1.out.trans (V2.out.mono U1.out.size))
  go_wp2_with fail
  refine (c_cp w w2 U2.out A2 n2 c2 info HR2.out (by omega)).mono ?_
  rintro e w3 ⟨g3, rfl, B3, V3⟩
  have U3 := Lib.hid (U2.out.trans (V3.out.mono U2.out.size))
  go_wp2_with fail
  refine (c_exp w3 g2 g3 n1 n2 key info N (B2.out.keep V3.out) B3.out L1.out L2.out (GL.out.below U3.out h2) (Nat.le_trans h2 U3.out.size) (by omega) (by omega) hN).mono ?_
  rintro e w4 ⟨g4, rfl, V4, R4⟩
  have U4 := Lib.hid (U3.out.trans (V4.out.mono U3.out.size))
  go_wp2_with fail
  refine (c_cp w w4 U4.out A n1 c1 key HR.out (by omega)).mono ?_
  rintro e w5 ⟨g5, rfl, B5, V5⟩
  have U5 := Lib.hid (U4.out.trans (V5.out.mono U4.out.size))
  go_wp2_with fail
  refine (c_cp w w5 U5.out A2 n2 c2 info HR2.out (by omega)).mono ?_
  rintro e w6 ⟨g6, rfl, B6, V6⟩
  have U6 := Lib.hid (U5.out.trans (V6.out.mono U5.out.size))
  go_wp2_with fail
  refine (expand_out w6 _ _ _ _ _ _ K (by omega)).mono ?_
  rintro e w7 ⟨rfl, hw7⟩
  have U7 := Lib.hid (show Below w.heap.size w w7 by rw [hw7]; exact U6.out)
  go_wp2_with fail
  go_ret
  exact ⟨rfl, U6.out⟩
set_option maxRecDepth 100000 in
set_option maxHeartbeats 1000000 in
theorem grows_less (w : World) (A : Option Addr) (n1 c1 : Nat) (key : List Int) (A2 : Option Addr) (n2 c2 : Nat) (info : List Int) (N : Nat) (M : Int) (K : Nat) (hr : Reads w w.heap.size A n1 (key.map (Value.int .u8))) (hr2 : Reads w w.heap.size A2 n2 (info.map (Value.int .u8))) (hgl : Glob w) (h2 : 2 ≤ w.heap.size) (hn1 : n1 ≤ 140737488351232) (hn2 : n2 ≤ 140737488351232) (hlen : n1 + n2 ≤ 4096) (hN : N ≤ 8160) (hK : bits .and .i64 M 8191 = (K : Int)) (hK2 : K ≤ 8160) (hNK : N ≤ K) :
    Calls Tryd.prog 8 #[.slice A n1 c1, .slice A2 n2 c2, .int .i64 N, .int .i64 M] w fun e w' => e = .returned (.bool true) ∧ Below w.heap.size w w' := by
  have HR := Lib.hid hr
  have HR2 := Lib.hid hr2
  have GL := Lib.hid hgl
  have hl1 : key.length = n1 := by simpa using hr.1
  have hl2 : info.length = n2 := by simpa using hr2.1
  have L1 := Lib.hid hl1
  have L2 := Lib.hid hl2
  clear hr hr2 hgl hl1 hl2
  have d0 : decide ((4096 : Int) < (n1 : Int) + (n2 : Int)) = false := by
    simp only [decide_eq_false_iff_not]
    omega
  have d1 : decide ((N : Int) < 0) = false := by simp
  have d2 : decide ((8160 : Int) < (N : Int)) = false := by
    simp only [decide_eq_false_iff_not]
    omega
  have d3 : decide ((8160 : Int) < (K : Int)) = false := by
    simp only [decide_eq_false_iff_not]
    omega
  go_enter Tryd.func8, Tryd.ntmps8
  go_wp2_with fail
  refine (headb_any w GL.out h2).mono ?_
  rintro e w1 ⟨rfl, hb1⟩
  have U1 := Lib.hid hb1
  clear hb1
  go_wp2_with fail
  refine (c_cp w w1 U1.out A n1 c1 key HR.out (by omega)).mono ?_
  rintro e w2 ⟨g2, rfl, B2, V2⟩
  have U2 := Lib.hid (U1.out.trans (V2.out.mono U1.out.size))
  go_wp2_with fail
  refine (c_cp w w2 U2.out A2 n2 c2 info HR2.out (by omega)).mono ?_
  rintro e w3 ⟨g3, rfl, B3, V3⟩
  have U3 := Lib.hid (U2.out.trans (V3.out.mono U2.out.size))
  go_wp2_with fail
  refine (c_exp w3 g2 g3 n1 n2 key info N (B2.out.keep V3.out) B3.out L1.out L2.out (GL.out.below U3.out h2) (Nat.le_trans h2 U3.out.size) (by omega) (by omega) hN).mono ?_
  rintro e w4 ⟨g4, rfl, V4, R4⟩
  have U4 := Lib.hid (U3.out.trans (V4.out.mono U3.out.size))
  go_wp2_with fail
  refine (c_cp w w4 U4.out A n1 c1 key HR.out (by omega)).mono ?_
  rintro e w5 ⟨g5, rfl, B5, V5⟩
  have U5 := Lib.hid (U4.out.trans (V5.out.mono U4.out.size))
  go_wp2_with fail
  refine (c_cp w w5 U5.out A2 n2 c2 info HR2.out (by omega)).mono ?_
  rintro e w6 ⟨g6, rfl, B6, V6⟩
  have U6 := Lib.hid (U5.out.trans (V6.out.mono U5.out.size))
  go_wp2_with fail
  refine (c_exp w6 g5 g6 n1 n2 key info K (B5.out.keep V6.out) B6.out L1.out L2.out (GL.out.below U6.out h2) (Nat.le_trans h2 U6.out.size) (by omega) (by omega) hK2).mono ?_
  rintro e w7 ⟨g7, rfl, V7, R7⟩
  have U7 := Lib.hid (U6.out.trans (V7.out.mono U6.out.size))
  have KS : ∀ q, Calls Tryd.prog 15 #[.slice (some ⟨g4, 0, none⟩) N N, .slice (some ⟨g7, 0, none⟩) N K] (w7.drewN q) fun e w' => e = .returned (.bool true) ∧ ∃ m, w' = (w7.drewN q).drewN m := by
    intro q
    have hlk := outL_len key info ((K + 31) / 32)
    have hln := outL_len key info ((N + 31) / 32)
    have h4 := ((R4.out.below ((V5.out.trans (V6.out.mono V5.out.size)).trans (V7.out.mono (Nat.le_trans V5.out.size V6.out.size)))).front (k := N) (by omega)).below (below_drewN (Below.refl _ _) q)
    have h7 := (R7.out.front (k := N) (by omega)).below (below_drewN (Below.refl _ _) q)
    rw [← List.map_take, List.take_take] at h4 h7
    have heq : List.take (min N N) (outL key info ((N + 31) / 32)) = List.take (min N K) (outL key info ((K + 31) / 32)) := by
      rw [show min N N = N by omega, show min N K = N by omega]
      exact (outL_take key info _ N (by omega) _ (by omega)).symm
    rw [heq] at h4
    exact (same_any _ _ _ _ _ _ _ _ _ _ _ h4 h7 (by omega) (by omega)).mono fun e w' ⟨he, hm⟩ => ⟨by rw [he]; simp, hm⟩
  go_wp2_with fail
  go_quiet ((go_at_call 15; refine Calls.quiet_of (KS _)))
  go_wp2_with fail
  go_ret
  exact ⟨rfl, below_drewN U7.out _⟩
set_option maxRecDepth 100000 in
set_option maxHeartbeats 1000000 in
theorem grows_more (w : World) (A : Option Addr) (n1 c1 : Nat) (key : List Int) (A2 : Option Addr) (n2 c2 : Nat) (info : List Int) (N : Nat) (M : Int) (K : Nat) (hr : Reads w w.heap.size A n1 (key.map (Value.int .u8))) (hr2 : Reads w w.heap.size A2 n2 (info.map (Value.int .u8))) (hgl : Glob w) (h2 : 2 ≤ w.heap.size) (hn1 : n1 ≤ 140737488351232) (hn2 : n2 ≤ 140737488351232) (hlen : n1 + n2 ≤ 4096) (hN : N ≤ 8160) (hK : bits .and .i64 M 8191 = (K : Int)) (hK2 : K ≤ 8160) (hNK : K < N) :
    Calls Tryd.prog 8 #[.slice A n1 c1, .slice A2 n2 c2, .int .i64 N, .int .i64 M] w fun e w' => e = .returned (.bool true) ∧ Below w.heap.size w w' := by
  have HR := Lib.hid hr
  have HR2 := Lib.hid hr2
  have GL := Lib.hid hgl
  have hl1 : key.length = n1 := by simpa using hr.1
  have hl2 : info.length = n2 := by simpa using hr2.1
  have L1 := Lib.hid hl1
  have L2 := Lib.hid hl2
  clear hr hr2 hgl hl1 hl2
  have d0 : decide ((4096 : Int) < (n1 : Int) + (n2 : Int)) = false := by
    simp only [decide_eq_false_iff_not]
    omega
  have d1 : decide ((N : Int) < 0) = false := by simp
  have d2 : decide ((8160 : Int) < (N : Int)) = false := by
    simp only [decide_eq_false_iff_not]
    omega
  have d3 : decide ((8160 : Int) < (K : Int)) = false := by
    simp only [decide_eq_false_iff_not]
    omega
  go_enter Tryd.func8, Tryd.ntmps8
  go_wp2_with fail
  refine (headb_any w GL.out h2).mono ?_
  rintro e w1 ⟨rfl, hb1⟩
  have U1 := Lib.hid hb1
  clear hb1
  go_wp2_with fail
  refine (c_cp w w1 U1.out A n1 c1 key HR.out (by omega)).mono ?_
  rintro e w2 ⟨g2, rfl, B2, V2⟩
  have U2 := Lib.hid (U1.out.trans (V2.out.mono U1.out.size))
  go_wp2_with fail
  refine (c_cp w w2 U2.out A2 n2 c2 info HR2.out (by omega)).mono ?_
  rintro e w3 ⟨g3, rfl, B3, V3⟩
  have U3 := Lib.hid (U2.out.trans (V3.out.mono U2.out.size))
  go_wp2_with fail
  refine (c_exp w3 g2 g3 n1 n2 key info N (B2.out.keep V3.out) B3.out L1.out L2.out (GL.out.below U3.out h2) (Nat.le_trans h2 U3.out.size) (by omega) (by omega) hN).mono ?_
  rintro e w4 ⟨g4, rfl, V4, R4⟩
  have U4 := Lib.hid (U3.out.trans (V4.out.mono U3.out.size))
  go_wp2_with fail
  refine (c_cp w w4 U4.out A n1 c1 key HR.out (by omega)).mono ?_
  rintro e w5 ⟨g5, rfl, B5, V5⟩
  have U5 := Lib.hid (U4.out.trans (V5.out.mono U4.out.size))
  go_wp2_with fail
  refine (c_cp w w5 U5.out A2 n2 c2 info HR2.out (by omega)).mono ?_
  rintro e w6 ⟨g6, rfl, B6, V6⟩
  have U6 := Lib.hid (U5.out.trans (V6.out.mono U5.out.size))
  go_wp2_with fail
  refine (c_exp w6 g5 g6 n1 n2 key info K (B5.out.keep V6.out) B6.out L1.out L2.out (GL.out.below U6.out h2) (Nat.le_trans h2 U6.out.size) (by omega) (by omega) hK2).mono ?_
  rintro e w7 ⟨g7, rfl, V7, R7⟩
  have U7 := Lib.hid (U6.out.trans (V7.out.mono U6.out.size))
  have KS : ∀ q, Calls Tryd.prog 15 #[.slice (some ⟨g4, 0, none⟩) K N, .slice (some ⟨g7, 0, none⟩) K K] (w7.drewN q) fun e w' => e = .returned (.bool true) ∧ ∃ m, w' = (w7.drewN q).drewN m := by
    intro q
    have hlk := outL_len key info ((K + 31) / 32)
    have hln := outL_len key info ((N + 31) / 32)
    have h4 := ((R4.out.below ((V5.out.trans (V6.out.mono V5.out.size)).trans (V7.out.mono (Nat.le_trans V5.out.size V6.out.size)))).front (k := K) (by omega)).below (below_drewN (Below.refl _ _) q)
    have h7 := (R7.out.front (k := K) (by omega)).below (below_drewN (Below.refl _ _) q)
    rw [← List.map_take, List.take_take] at h4 h7
    have heq : List.take (min K N) (outL key info ((N + 31) / 32)) = List.take (min K K) (outL key info ((K + 31) / 32)) := by
      rw [show min K N = K by omega, show min K K = K by omega]
      exact outL_take key info _ K (by omega) _ (by omega)
    rw [heq] at h4
    exact (same_any _ _ _ _ _ _ _ _ _ _ _ h4 h7 (by omega) (by omega)).mono fun e w' ⟨he, hm⟩ => ⟨by rw [he]; simp, hm⟩
  go_wp2_with fail
  go_quiet ((go_at_call 15; refine Calls.quiet_of (KS _)))
  go_wp2_with fail
  go_ret
  exact ⟨rfl, below_drewN U7.out _⟩
theorem grows_any (w : World) (A : Option Addr) (n1 c1 : Nat) (key : List Int) (A2 : Option Addr) (n2 c2 : Nat) (info : List Int) (N M : Int) (hr : Reads w w.heap.size A n1 (key.map (Value.int .u8))) (hr2 : Reads w w.heap.size A2 n2 (info.map (Value.int .u8))) (hgl : Glob w) (h2 : 2 ≤ w.heap.size) (hn1 : n1 ≤ 140737488351232) (hn2 : n2 ≤ 140737488351232) :
    Calls Tryd.prog 8 #[.slice A n1 c1, .slice A2 n2 c2, .int .i64 N, .int .i64 M] w fun e w' => e = .returned (.bool true) ∧ Below w.heap.size w w' := by
  by_cases hlen : 4096 < n1 + n2
  · exact grows_long w A n1 c1 key A2 n2 c2 info N M hr hr2 hgl h2 hn1 hn2 hlen
  · by_cases hN0 : N < 0
    · exact grows_neg w A n1 c1 key A2 n2 c2 info N M hr hr2 hgl h2 hn1 hn2 (by omega) hN0
    · by_cases hN1 : 8160 < N
      · exact grows_big w A n1 c1 key A2 n2 c2 info N M hr hr2 hgl h2 hn1 hn2 (by omega) hN1
      · obtain ⟨N', rfl⟩ : ∃ N' : Nat, N = (N' : Int) := ⟨N.toNat, by omega⟩
        obtain ⟨K, hK1, hK⟩ := and_8191 M
        by_cases hK2 : 8160 < K
        · exact grows_over w A n1 c1 key A2 n2 c2 info N' M K hr hr2 hgl h2 hn1 hn2 (by omega) (by omega) hK hK1 hK2
        · by_cases hNK : N' ≤ K
          · exact grows_less w A n1 c1 key A2 n2 c2 info N' M K hr hr2 hgl h2 hn1 hn2 (by omega) (by omega) hK (by omega) hNK
          · exact grows_more w A n1 c1 key A2 n2 c2 info N' M K hr hr2 hgl h2 hn1 hn2 (by omega) (by omega) hK (by omega) (by omega)
end Go.Proofs.YtdghlfdplhfkhaaDoor
