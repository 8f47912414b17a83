/-
  FpReads: the walk; Read of bytes that are no number.
-/
import Derived.Test.YtlbmohofdgooaaaDoorR3Z
namespace Go.Proofs.YtlbmohofdgooaaaDoor
open Go.RowKit
set_option maxRecDepth 100000 in
set_option maxHeartbeats 4000000 in
theorem fp_read_field (w : World) (hG : GMp w) (hS : GSqp w) (A : Option Addr) (c : Nat) (bs : List Int) (hr : Reads w w.heap.size A 48 (bs.map (Value.int .u8))) (ho : Oct bs) (hc : 48 ≤ c) (hlt : Mp ≤ num bs) :
    Calls Tryd.prog 16 #[.slice A 48 c] w fun e w' => e = .returned (.tuple #[pv 0, .int .i64 12]) ∧ Below w.heap.size w w' := by
  have hl : bs.length = 48 := by simpa using hr.1
  obtain ⟨b, o, rfl, hb, -⟩ := hr.2 (by omega)
  have HG := Lib.hid hG
  have HS := Lib.hid hS
  have h4 := num_six bs hl
  have hpart : ∀ k, k + 8 ≤ 48 → Reads w w.heap.size (some ⟨b, o + k, none⟩) 8 (((bs.drop k).take 8).map (Value.int .u8)) := fun k hk => by
    have := reads_part hr k 8 hk (by omega)
    rwa [← List.map_drop, ← List.map_take] at this
  have hnum : ∀ k, k + 8 ≤ 48 → ∀ W c', Below w.heap.size w W → Calls Tryd.prog 42 #[.slice (some ⟨b, o + k, none⟩) 8 c'] W fun e w' => e = .returned (.int .u64 (num ((bs.drop k).take 8))) ∧ W = w' := fun k hk W c' hW =>
    fp_number W _ _ 8 c' _ ((hpart k hk).below hW) ((ho.drop k).take 8) (Nat.le_refl _)
  have hrange : ∀ k, k + 8 ≤ 48 → 0 ≤ num ((bs.drop k).take 8) ∧ num ((bs.drop k).take 8) < Wd := fun k hk => by
    have := num_lt _ ((ho.drop k).take 8)
    rw [show ((bs.drop k).take 8).length = 8 by simp; omega] at this
    unfold Wd
    omega
  have hn0 := num_lt bs ho
  obtain ⟨a0, ha0⟩ : ∃ a, a = num ((bs.drop 40).take 8) := ⟨_, rfl⟩
  obtain ⟨a1, ha1⟩ : ∃ a, a = num ((bs.drop 32).take 8) := ⟨_, rfl⟩
  obtain ⟨a2, ha2⟩ : ∃ a, a = num ((bs.drop 24).take 8) := ⟨_, rfl⟩
  obtain ⟨a3, ha3⟩ : ∃ a, a = num ((bs.drop 16).take 8) := ⟨_, rfl⟩
  obtain ⟨a4, ha4⟩ : ∃ a, a = num ((bs.drop 8).take 8) := ⟨_, rfl⟩
  obtain ⟨a5, ha5⟩ : ∃ a, a = num ((bs.drop 0).take 8) := ⟨_, rfl⟩
  have n0 := hnum 40 (by omega)
  have n1 := hnum 32 (by omega)
  have n2 := hnum 24 (by omega)
  have n3 := hnum 16 (by omega)
  have n4 := hnum 8 (by omega)
  have n5 := hnum 0 (by omega)
  have r0 := hrange 40 (by omega)
  have r1 := hrange 32 (by omega)
  have r2 := hrange 24 (by omega)
  have r3 := hrange 16 (by omega)
  have r4 := hrange 8 (by omega)
  have r5 := hrange 0 (by omega)
  rw [← ha0] at n0 r0
  rw [← ha1] at n1 r1
  rw [← ha2] at n2 r2
  rw [← ha3] at n3 r3
  rw [← ha4] at n4 r4
  rw [← ha5] at n5 r5
  rw [← ha0, ← ha1, ← ha2, ← ha3, ← ha4, ← ha5] at h4
  obtain ⟨x, hx⟩ : ∃ x, x = num bs := ⟨_, rfl⟩
  rw [← hx] at h4 hlt hn0
  have hagg := arr6_of a0 a1 a2 a3 a4 a5 x r0 r1 r2 r3 r4 r5 h4
  have hM := Mp_lo
  have N0 := Lib.hid n0
  have N1 := Lib.hid n1
  have N2 := Lib.hid n2
  have N3 := Lib.hid n3
  have N4 := Lib.hid n4
  rw [Nat.add_zero] at n5
  have N5 := Lib.hid n5
  have AG := Lib.hid hagg
  have XL := Lib.hid (show 0 ≤ x ∧ Mp ≤ x ∧ x < Wd ^ 6 ∧ 0 ≤ Mp by refine ⟨by omega, by omega, ?_, by omega⟩; have hq := hn0.2; rw [hl] at hq; exact Int.lt_of_lt_of_le hq (by unfold Wd; decide))
  clear hnum hpart hrange n0 n1 n2 n3 n4 n5 r0 r1 r2 r3 r4 r5 ha0 ha1 ha2 ha3 ha4 ha5 h4 hx hagg hM hlt hn0 hl hG hS hr ho
  have i1 : (48 : Int) ≤ c := by omega
  go_enter Tryd.func16, Tryd.ntmps16
  go_wp2_with fail
  refine wp_loop_rounds 7 ?_
  rw [rounds_succ]
  go_wp2_with fail
  refine (N0.out _ _ (by repeat (first | (with_reducible exact Below.refl _ _) | (with_reducible refine Below.drew ?_) | (with_reducible refine Below.alloc ?_ (by simp; try omega) _)))).mono ?_
  rintro e w' ⟨rfl, rfl⟩
  go_wp2_with fail
  rw [rounds_succ]
  go_wp2_with fail
  refine (N1.out _ _ (by repeat (first | (with_reducible exact Below.refl _ _) | (with_reducible refine Below.drew ?_) | (with_reducible refine Below.alloc ?_ (by simp; try omega) _)))).mono ?_
  rintro e w' ⟨rfl, rfl⟩
  go_wp2_with fail
  rw [rounds_succ]
  go_wp2_with fail
  refine (N2.out _ _ (by repeat (first | (with_reducible exact Below.refl _ _) | (with_reducible refine Below.drew ?_) | (with_reducible refine Below.alloc ?_ (by simp; try omega) _)))).mono ?_
  rintro e w' ⟨rfl, rfl⟩
  go_wp2_with fail
  rw [rounds_succ]
  go_wp2_with fail
  refine (N3.out _ _ (by repeat (first | (with_reducible exact Below.refl _ _) | (with_reducible refine Below.drew ?_) | (with_reducible refine Below.alloc ?_ (by simp; try omega) _)))).mono ?_
  rintro e w' ⟨rfl, rfl⟩
  go_wp2_with fail
  rw [rounds_succ]
  go_wp2_with fail
  refine (N4.out _ _ (by repeat (first | (with_reducible exact Below.refl _ _) | (with_reducible refine Below.drew ?_) | (with_reducible refine Below.alloc ?_ (by simp; try omega) _)))).mono ?_
  rintro e w' ⟨rfl, rfl⟩
  go_wp2_with fail
  rw [rounds_succ]
  go_wp2_with fail
  refine (N5.out _ _ (by repeat (first | (with_reducible exact Below.refl _ _) | (with_reducible refine Below.drew ?_) | (with_reducible refine Below.alloc ?_ (by simp; try omega) _)))).mono ?_
  rintro e w' ⟨rfl, rfl⟩
  go_wp2_with fail
  obtain ⟨g0, g1, g2, g3, g4, g5⟩ := HG.out
  have g9 := World.block_lt_of_cell? w _ g0
  have g10 : 0 < w.heap.size := by omega
  rw [rounds_succ]
  go_wp2_with fail
  rw [AG.out]
  refine (fp_below_ge x Mp _ XL.out.1 XL.out.2.2.1 XL.out.2.2.2 XL.out.2.1).mono ?_
  rintro e w1 ⟨rfl, hB⟩
  clear g0 g1 g2 g3 g4 g5 g9
  obtain ⟨f0, f1, f2, f3, f4, f5, z0, z1, z2, z3, z4, z5, hg⟩ := res6 (t := 28) (c0 := .int .u64 0) (c1 := .int .u64 0) (c2 := .int .u64 0) (c3 := .int .u64 0) (c4 := .int .u64 0) (c5 := .int .u64 0) ((Blk.new w _ _).alloc _) hB
  have hW : Below w.heap.size w w1 := Below.trans (by repeat (first | (with_reducible exact Below.refl _ _) | (with_reducible refine Below.drew ?_) | (with_reducible refine Below.alloc ?_ (by simp; try omega) _))) (hB.mono (by simp; try omega))
  have HW := Lib.hid hW
  clear hB hW
  go_wp2_with fail
  refine bodyPost_ret (v := .tuple #[pv 0, .int .i64 12]) (by rw [show pv 0 = arr6 0 by unfold pv; rw [pe_zero]]; simp [arr6, results, Tryd.results16, go_sem, wd, f0, f1, f2, f3, f4, f5]) rfl ⟨rfl, ?_⟩
  exact ((((((HW.out.setCell (Nat.le_refl _) _).setCell (Nat.le_refl _) _).setCell (Nat.le_refl _) _).setCell (Nat.le_refl _) _).setCell (Nat.le_refl _) _).setCell (Nat.le_refl _) _)
end Go.Proofs.YtlbmohofdgooaaaDoor
namespace Go.Proofs.YtlbmohofdgooaaaDoor
set_option linter.unusedSimpArgs false
set_option linter.unusedVariables false
open Go.RowKit
theorem u8_zs : (Tryd.prog.info? 5).map (fun i => (i.zero, i.size)) = some (some (.int .u8 0), 1) := by kernel_rfl
theorem bfill8 (b0 b1 b2 b3 b4 b5 b6 b7 : Int) : Instr.fill (fun i => some (i * 1, 1)) (Array.map (fun x => (Value.int IntKind.u8 0).cells[x % (Value.int IntKind.u8 0).cells.size]!) (Array.range (8 * 1)))
    [(0, Value.int IntKind.u8 b0), (1, Value.int IntKind.u8 b1), (2, Value.int IntKind.u8 b2), (3, Value.int IntKind.u8 b3), (4, Value.int IntKind.u8 b4), (5, Value.int IntKind.u8 b5), (6, Value.int IntKind.u8 b6), (7, Value.int IntKind.u8 b7)] = some (ag8 [b0, b1, b2, b3, b4, b5, b6, b7]) := by
  have e : Array.map (fun x => (Value.int IntKind.u8 0).cells[x % (Value.int IntKind.u8 0).cells.size]!) (Array.range (8 * 1)) = Array.replicate 8 (.int .u8 0) := by kernel_rfl
  rw [e]
  simp [Instr.fill, ag8, Value.cells, Array.replicate]
section
variable {ops : Array Oper} {late : List Nat} {R : Act → World → Prop} {v : World} {L L0 : List (Nat × TypeId × Array Value)} {n : Nat} {sl : List (Nat × Value)}
theorem wpOp_runG {P : Program} {Q : Exit → Act → World → Prop} {i : Nat} {o : Oper} {a : Act} {w w' : World} {u : Value} {K : Act → World → Prop} (hi : ops[i]? = some o) (hw : Region.wanted o (yielded ops a.tmps) = true)
    (hrun : (execOp a.eval o).run P w = .ok (.value u) w') (hK : K (a.put o.dst u) w') : Go.wpOp P ops Q i K a w := by
  unfold Go.wpOp
  simp only [hi]
  simp only [hw, if_true]
  refine .inl ?_
  unfold Oper.wp
  rw [hrun]
  exact hK
/-- Eight bytes, as a slice. -/
theorem L_build8 {i d : Nat} {il : List Nat} {ty : TypeId} {pos : String} {after : Array Edge} {gd : Option (Nat × Bool)} {p0 p1 p2 p3 p4 p5 p6 p7 : Operand} (b0 b1 b2 b3 b4 b5 b6 b7 : Int)
    (hi : ops[i]? = some ⟨some d, .buildSlice 22 8 #[(0, p0), (1, p1), (2, p2), (3, p3), (4, p4), (5, p5), (6, p6), (7, p7)], ty, pos, after, gd⟩) (hl : inFr n sl = true) (hw : Want ops n sl gd)
    (h0 : rho sl p0 = .int .u8 b0) (h1 : rho sl p1 = .int .u8 b1) (h2 : rho sl p2 = .int .u8 b2) (h3 : rho sl p3 = .int .u8 b3) (h4 : rho sl p4 = .int .u8 b4) (h5 : rho sl p5 = .int .u8 b5) (h6 : rho sl p6 = .int .u8 b6) (h7 : rho sl p7 = .int .u8 b7)
    (h : ∀ g, wpL Tryd.prog ops R il (fr n ((d, .slice (some ⟨g, 0, none⟩) 8 8) :: sl)) (Hbl v ((g, 5, ag8 [b0, b1, b2, b3, b4, b5, b6, b7]) :: L))) : wpL Tryd.prog ops R (i :: il) (fr n sl) (Hbl v L) := fun w hS => by
  obtain ⟨ie, he, hz⟩ := Option.map_eq_some_iff.1 u8_zs
  simp only [Prod.mk.injEq] at hz
  have hrun : (Instr.buildSlice 22 8 (#[(0, p0), (1, p1), (2, p2), (3, p3), (4, p4), (5, p5), (6, p6), (7, p7)].map fun x => (x.1, rho sl x.2))).run Tryd.prog w = .ok (.slice (some ⟨w.heap.size, 0, none⟩) 8 8) (w.alloc (.cells (ag8 [b0, b1, b2, b3, b4, b5, b6, b7]) 5)) := by
    refine run_buildSlice w _ _ 8 _ _ ie (.int .u8 0) und_u8s he hz.1 (by rw [hz.2]; decide) (by rw [hz.2]; decide) ?_
    rw [hz.2]
    simp only [List.map_toArray, List.map_cons, List.map_nil, h0, h1, h2, h3, h4, h5, h6, h7]
    exact bfill8 ..
  exact wpOp_runG (w' := w.alloc (.cells (ag8 [b0, b1, b2, b3, b4, b5, b6, b7]) 5)) hi (hw ..) (by rw [fr_eval n sl hl]; simp only [execOp, Sem.run_bind]; rw [hrun]; rfl) ⟨_, Hbl.stays v _, hS.alloc 5 (ag8 [b0, b1, b2, b3, b4, b5, b6, b7]), h _⟩
end
theorem lo8 (n : Int) : [n / 72057594037927936 % 256, n / 281474976710656 % 256, n / 1099511627776 % 256, n / 4294967296 % 256, n / 16777216 % 256, n / 65536 % 256, n / 256 % 256, n % 256] = lo n 8 := by
  simp only [lo]
  simp
theorem u8wrap (a : Int) : IntKind.u8.wrap a = a % 256 := by simp [IntKind.wrap, IntKind.bits, IntKind.signed]
theorem shr64 (a : Int) (s : Nat) (p : Int) (hs : s ≤ 64) (hp : (2 : Int) ^ s = p) : a.fdiv (2 ^ (min ((s : Int)).toNat IntKind.u64.bits)) = a / p := by
  have e : min ((s : Int)).toNat IntKind.u64.bits = s := by show min _ 64 = s; omega
  rw [e, hp, Int.fdiv_eq_ediv_of_nonneg _ (by rw [← hp]; exact Int.le_of_lt (Int.pow_pos (by omega)))]
theorem num_lo8 (n : Int) (h0 : 0 ≤ n) (h : n < Wd) : num (lo n 8) = n := by
  rw [num_lo, Int.emod_eq_of_lt h0]
  unfold Wd at h
  simpa using h
section
variable {P : Program} {S : World → Prop}
theorem gives_eqbb {l : List (Nat × Value)} {dst : Option Tmp} {t ct ty : TypeId} {x y : Operand} {pos : String} {after : Array Edge} {gd : Option (Nat × Bool)} (a b : Bool) (hx : rho l x = .bool a) (hy : rho l y = .bool b)
    (ht : P.underlying t = some .bool) (h : a = b) : Gives P S (.bool true) (execOp (rho l) ⟨dst, .binOp .eql t x y ct, ty, pos, after, gd⟩) := gives_value _ fun w => by
  subst h
  have h' : (Op.equal t (.bool a) (.bool a)).run P w = .ok true w := by
    unfold Op.equal
    rw [show Op.maxDepth = 9999 + 1 from rfl, run_equalIn_bool w 9999 t a a ht]
    simp
  simp [execOp, hx, hy, eqGuard, binOp, h']
end
theorem gb0_fp {S : World → Prop} {l : List (Nat × Value)} {dst : Option Nat} {ty : TypeId} {pos : String} {after : Array Edge} {gd : Option (Nat × Bool)} : Gives Tryd.prog S (.agg (pc 0)) (execOp (rho l) ⟨dst, .build 28 #[], ty, pos, after, gd⟩) := gives_value _ fun w => by
  have h : (Instr.build 28 #[]).run Tryd.prog w = .ok (.agg (pc 0)) w := by rw [pc_zero]; kernel_rfl
  simp [execOp, h]
theorem rng8 {n : Int} (h0 : 0 ≤ n) (h : n < Wd) : 0 ≤ n ∧ n < 65536 ^ 4 := ⟨h0, by unfold Wd at h; simpa using h⟩
theorem of_mod {n M : Int} (h0 : 0 ≤ n) (h : n < M) : n % M = n := Int.emod_eq_of_lt h0 h
theorem Wd_Mp : Wd < Mp := by unfold Wd Mp; decide
theorem of_val {k : Int} (h0 : 0 ≤ k) (h : k < Mp) : ((Fp.n k).val : Int) = k := by rw [Fp.n_val]; exact of_mod h0 h
theorem v_read_field (A : Option Addr) (c : Nat) (bs : List Int) (w : World) (hG : Glo w) (hr : Reads w w.heap.size A 48 (bs.map (Value.int .u8))) (ho : Oct bs) (hc : 48 ≤ c) (h : Mp ≤ num bs) : Rets 16 #[.slice A 48 c] w (.tuple #[.agg (pc 0), .int .i64 12]) := by
  have h := fp_read_field w hG.m hG.s A c bs hr ho hc h
  rw [pv_n, Fp.n_zero] at h
  exact h
theorem v_read_ok (A : Option Addr) (c : Nat) (bs : List Int) (w : World) (hG : Glo w) (hr : Reads w w.heap.size A 48 (bs.map (Value.int .u8))) (ho : Oct bs) (hc : 48 ≤ c) (h : num bs < Mp) : Rets 16 #[.slice A 48 c] w (.tuple #[.agg (pc (Fp.n (num bs))), .int .i64 0]) := by
  have h := fp_read_ok w hG.m hG.s A c bs hr ho hc h
  rw [pv_n] at h
  exact h
theorem v_zero_z (w : World) (hG : Glo w) : Rets 18 #[.agg (pc 0)] w (.bool true) := by
  have h := v_zero 0 w hG
  rwa [decide_eq_true rfl] at h
theorem z_iff {k : Int} (h0 : 0 ≤ k) (h : k < Mp) : Fp.n k = 0 ↔ k = 0 := by
  rw [← Fp.n_zero, Fp.n_inj, Int.zero_emod, of_mod h0 h]
theorem n_less (w : World) (A0 : Option Addr) (n0 c0 : Nat) (a : Int) (A1 : Option Addr) (n1 c1 : Nat) (b : Int) (ha : NumAt w A0 n0 a) (hb : NumAt w A1 n1 b) (r : Bool) (h : decide (a < b) = r) : Rets 19 #[.slice A0 n0 c0, .slice A1 n1 c1] w (.bool r) := by
  have s0 := ha.sz
  have s1 := hb.sz
  have e := r3_less w A0 n0 c0 _ A1 n1 c1 _ ha.rd hb.rd (wl_w16 _ _) (wl_w16 _ _) (by omega) (by omega)
  rw [ha.va, hb.va, h] at e
  exact e
theorem n_same3 (w : World) (A0 : Option Addr) (n0 c0 : Nat) (a : Int) (A1 : Option Addr) (n1 c1 : Nat) (b : Int) (ha : NumAt w A0 n0 a) (hb : NumAt w A1 n1 b) : Rets 21 #[.slice A0 n0 c0, .slice A1 n1 c1] w (.bool (decide (a = b))) := by
  have s0 := ha.sz
  have s1 := hb.sz
  have e := r3_same w A0 n0 c0 _ A1 n1 c1 _ ha.rd hb.rd (wl_w16 _ _) (wl_w16 _ _) (by omega) (by omega)
  rw [ha.va, hb.va] at e
  exact e
attribute [local irreducible] wpL wpF fr Code.wp bodyPost
set_option maxRecDepth 100000 in
set_option maxHeartbeats 4000000 in
theorem r3_number_big (A0 : Option Addr) (n0 c0 : Nat) (bs0 : List Int) (v : World) (hr0 : Reads v v.heap.size A0 n0 (bs0.map (Value.int .u8))) (ho0 : Oct bs0) (hb0 : n0 ≤ 140737488355328) : RetsW 14 #[.slice A0 n0 c0] v ((n0 + 1) / 2) (num bs0) := by
  have hn0 : bs0.length = n0 := by simpa using hr0.1
  refine calls_fr1 Tryd.func14 rfl (by rfl : _ = 40) (by rfl) ?_
  have hw := Hbl.nil v
  refine seq_plain hw [0] (by rfl) ?_
  refine L_val (.slice none 0 0) (by rfl) (by rfl) (gives_value _ fun _ => by rfl) ?_
  refine L_end ?_
  intro w1 hw1
  refine seq_plain hw1 [0, 1, 2, 3, 4, 5] (by rfl) ?_
  refine L_val (.slice A0 n0 c0) (by rfl) (by rfl) (gives_value _ fun _ => by rfl) ?_
  refine L_val (.int .i64 (n0 : Int)) (by rfl) (by rfl) (gives_len _ n0 c0 und_u8s (by rfl)) ?_
  refine L_val (.int .i64 ((n0 : Int) + 1)) (by rfl) (by rfl) (gives_add (k := .i64) ((n0 : Int)) (1) ((n0 : Int) + 1) (by rfl) (by rfl) (IntWalk.i64_in _ (by omega))) ?_
  refine L_val (.int .i64 (((n0 : Int) + 1) / 2)) (by rfl) (by rfl) (gives_quo (k := .i64) ((n0 : Int) + 1) (2) (((n0 : Int) + 1) / 2) (by rfl) (by rfl) (by omega) (IntWalk.i64_quo _ _ (by omega))) ?_
  refine L_make ((n0 + 1) / 2) (.int .u32 0) 4 (by rfl) (by rfl) und_u32s u32_all rfl (by exact congrArg (Value.int .i64) (by omega : (((n0 : Int) + 1) / 2) = (((n0 + 1) / 2 : Nat) : Int))) (by exact congrArg (Value.int .i64) (by omega : (((n0 : Int) + 1) / 2) = (((n0 + 1) / 2 : Nat) : Int))) (by omega) (by omega) ?_; intro g1
  refine L_val (.slice (some ⟨g1, 0, none⟩) ((n0 + 1) / 2) ((n0 + 1) / 2)) (by rfl) (by rfl) (gives_value _ fun _ => by rfl) ?_
  refine L_end ?_
  intro w2 hw2
  refine wp_seq ?_
  refine seq_plain hw2 [0] (by rfl) ?_
  refine L_val (.int .i64 0) (by rfl) (by rfl) (gives_value _ fun _ => by rfl) ?_
  refine L_end ?_
  intro w3 hw3
  refine wp_block ?_
  refine loop_down (fun (r_ : Nat) a w => ∃ (k : Nat) (g : Nat) (l_1 : List (Nat × Value)), n0 - k = r_ ∧ inFr 40 l_1 = true ∧ a = fr 40 ((0, .slice A0 n0 c0) :: (3, .slice (some ⟨g, 0, none⟩) ((n0 + 1) / 2) ((n0 + 1) / 2)) :: (4, .int .i64 (k : Int)) :: l_1) ∧ (k ≤ n0) ∧ Hbl v [(g, 54, (ag32 (wl (num (bs0.drop (n0 - k))) ((n0 + 1) / 2))))] w) ?_ _ _ _ ⟨0, g1, [(4, .int .i64 0), (3, .slice (some ⟨g1, 0, none⟩) ((n0 + 1) / 2) ((n0 + 1) / 2)), (10, .slice (some ⟨g1, 0, none⟩) ((n0 + 1) / 2) ((n0 + 1) / 2)), (9, .int .i64 (((n0 : Int) + 1) / 2)), (8, .int .i64 ((n0 : Int) + 1)), (7, .int .i64 (n0 : Int)), (6, .slice A0 n0 c0), (2, .slice none 0 0), (0, .slice A0 n0 c0)], rfl, (by rfl), (Eq.trans (Eq.trans (fr_dup _ _ 4 _ (by rfl) (by rfl) (by rfl)).symm (fr_dup _ _ 3 _ (by rfl) (by rfl) (by rfl)).symm) (fr_dup _ _ 0 _ (by rfl) (by rfl) (by rfl)).symm), Nat.zero_le _, (by rw [show bs0.drop (n0 - 0) = [] by simp [hn0]]; exact (ag32_zero _) ▸ hw3)⟩
  rintro r_1 a0 w0_1 ⟨k, g, l_1, hr_1, hl_1, rfl, hk, hw0_1⟩
  by_cases hlt : k < n0
  ·
    have b1 := ho0.at_ (n0 - 1 - k)
    have b2 := num_gt bs0 n0 k ((n0 + 1) / 2) ho0 hn0 hlt rfl
    obtain ⟨b0, o0, hA0, hq0, hce0⟩ := reads_cell hr0 (show n0 - 1 - k < n0 by omega)
    refine wp_seq ?_
    refine seq_plain hw0_1 [0, 1, 2, 3] (by rfl) ?_
    refine L_val (.int .i64 (k : Int)) (by rfl) (by exact hl_1) (gives_value _ fun _ => by rfl) ?_
    refine L_val (.slice A0 n0 c0) (by rfl) (by exact hl_1) (gives_value _ fun _ => by rfl) ?_
    refine L_val (.int .i64 (n0 : Int)) (by rfl) (by exact hl_1) (gives_len _ n0 c0 und_u8s (by rfl)) ?_
    refine L_val (.bool true) (by rfl) (by exact hl_1) (gives_lss (k := .i64) ((k : Int)) ((n0 : Int)) true (by rfl) (by rfl) (decide_eq_true (by omega))) ?_
    refine L_end ?_
    intro w4 hw4
    refine wp_cond_true (fr_at _ _ (by exact hl_1) _) ?_
    refine wp_skip ?_
    change Code.wp _ _ _ _ _
    refine wp_seq ?_
    refine wp_block ?_
    refine seq_plain hw4 [0, 1, 2, 3, 4, 5] (by rfl) ?_
    refine L_val (.slice A0 n0 c0) (by rfl) (by exact hl_1) (gives_value _ fun _ => by rfl) ?_
    refine L_val (.int .i64 (n0 : Int)) (by rfl) (by exact hl_1) (gives_len _ n0 c0 und_u8s (by rfl)) ?_
    refine L_val (.int .i64 ((n0 : Int) - 1)) (by rfl) (by exact hl_1) (gives_sub (k := .i64) ((n0 : Int)) (1) ((n0 : Int) - 1) (by rfl) (by rfl) (IntWalk.i64_in _ (by omega))) ?_
    refine L_val (.int .i64 (k : Int)) (by rfl) (by exact hl_1) (gives_value _ fun _ => by rfl) ?_
    refine L_val (.int .i64 (((n0 : Int) - 1) - (k : Int))) (by rfl) (by exact hl_1) (gives_sub (k := .i64) ((n0 : Int) - 1) ((k : Int)) (((n0 : Int) - 1) - (k : Int)) (by rfl) (by rfl) (IntWalk.i64_in _ (by omega))) ?_
    refine L_val (.int .i64 (((n0 : Int) - 1) - (k : Int))) (by rfl) (by exact hl_1) (gives_value _ fun _ => by rfl) ?_
    refine L_end ?_
    intro w5 hw5
    refine one_flow (by kernel_rfl) hw5 [17] [(g, 54, (ag32 (wl (num (bs0.drop (n0 - k))) ((n0 + 1) / 2))))] 18 (by rfl) ?_
    refine flow_take (i := 0) (.slice (some ⟨g, 0, none⟩) ((n0 + 1) / 2) ((n0 + 1) / 2)) (by rfl) (by kernel_rfl) (by kernel_rfl) (by kernel_rfl) (by exact hl_1) (by kernel_rfl) (List.Sublist.refl _) (gives_value _ fun _ => by rfl) ?_
    refine flow_take (i := 1) (.int .i64 (k : Int)) (by rfl) (by kernel_rfl) (by kernel_rfl) (by kernel_rfl) (by exact hl_1) (by kernel_rfl) (List.Sublist.refl _) (gives_value _ fun _ => by rfl) ?_
    refine flow_take (i := 2) (.int .i64 ((k : Int) / 2)) (by rfl) (by kernel_rfl) (by kernel_rfl) (by kernel_rfl) (by exact hl_1) (by kernel_rfl) (List.Sublist.refl _) (gives_quo (k := .i64) ((k : Int)) (2) ((k : Int) / 2) (by rfl) (by rfl) (by omega) (IntWalk.i64_quo _ _ (by omega))) ?_
    refine flow_take (i := 3) (.pointer (some ⟨g, 0 + (k / 2), none⟩)) (by rfl) (by kernel_rfl) (by kernel_rfl) (by kernel_rfl) (by exact hl_1) (by kernel_rfl) (List.Sublist.refl _) (gives_index g 0 (((n0 + 1) / 2)) (((n0 + 1) / 2)) ((k : Int) / 2) (k / 2) (by rfl) (by rfl) und_u32s u32_sz (by omega) (by omega)) ?_
    refine flow_take (i := 4) (.int .u32 (gt (wl (num (bs0.drop (n0 - k))) ((n0 + 1) / 2)) (k / 2))) (by rfl) (by kernel_rfl) (by kernel_rfl) (by kernel_rfl) (by exact hl_1) (by kernel_rfl) (List.Sublist.refl _) (gives_load1 g (0 + (k / 2)) _ (ag32 (wl (num (bs0.drop (n0 - k))) ((n0 + 1) / 2))) (.int .u32 (gt (wl (num (bs0.drop (n0 - k))) ((n0 + 1) / 2)) (k / 2))) (by rfl) (fun _ h => h.blk 0 (by rfl)) (ag32_at _ _ (by rw [wl_len]; omega)) und_u32) ?_
    refine flow_take (i := 5) (.slice A0 n0 c0) (by rfl) (by kernel_rfl) (by kernel_rfl) (by kernel_rfl) (by exact hl_1) (by kernel_rfl) (List.Sublist.refl _) (gives_value _ fun _ => by rfl) ?_
    refine flow_take (i := 6) (.int .i64 (((n0 : Int) - 1) - (k : Int))) (by rfl) (by kernel_rfl) (by kernel_rfl) (by kernel_rfl) (by exact hl_1) (by kernel_rfl) (List.Sublist.refl _) (gives_value _ fun _ => by rfl) ?_
    refine flow_take (i := 7) (.pointer (some ⟨b0, o0 + (n0 - 1 - k), none⟩)) (by rfl) (by kernel_rfl) (by kernel_rfl) (by kernel_rfl) (by exact hl_1) (by kernel_rfl) (List.Sublist.refl _) (gives_index_old A0 n0 c0 (((n0 : Int) - 1) - (k : Int)) (n0 - 1 - k) _ _ hA0 (by rfl) (by rfl) und_u8s u8_sz (by omega) (by omega)) ?_
    refine flow_take (i := 8) (.int .u8 (gt bs0 (n0 - 1 - k))) (by rfl) (by kernel_rfl) (by kernel_rfl) (by kernel_rfl) (by exact hl_1) (by kernel_rfl) (List.Sublist.refl _) (gives_load_old _ (.int .u8 (gt bs0 (n0 - 1 - k))) (by rfl) (fun _ h => (h.below.cell (p := ⟨b0, _, none⟩) hq0).trans hce0) und_u8') ?_
    refine flow_take (i := 9) (.int .u32 (gt bs0 (n0 - 1 - k))) (by rfl) (by kernel_rfl) (by kernel_rfl) (by kernel_rfl) (by exact hl_1) (by kernel_rfl) (List.Sublist.refl _) (gives_conv (k2 := .u32) (gt bs0 (n0 - 1 - k)) (gt bs0 (n0 - 1 - k)) (by rfl) und_u8' und_u32 (IntWalk.u32_in _ (by omega))) ?_
    refine flow_take (i := 10) (.int .i64 (k : Int)) (by rfl) (by kernel_rfl) (by kernel_rfl) (by kernel_rfl) (by exact hl_1) (by kernel_rfl) (List.Sublist.refl _) (gives_value _ fun _ => by rfl) ?_
    refine flow_take (i := 11) (.int .i64 ((k : Int) % 2)) (by rfl) (by kernel_rfl) (by kernel_rfl) (by kernel_rfl) (by exact hl_1) (by kernel_rfl) (List.Sublist.refl _) (gives_rem (k := .i64) ((k : Int)) (2) ((k : Int) % 2) (by rfl) (by rfl) (by omega) (IntWalk.rem_in _ _ (by omega))) ?_
    refine flow_take (i := 12) (.int .i64 (8 * ((k : Int) % 2))) (by rfl) (by kernel_rfl) (by kernel_rfl) (by kernel_rfl) (by exact hl_1) (by kernel_rfl) (List.Sublist.refl _) (gives_mul (k := .i64) (8) ((k : Int) % 2) (8 * ((k : Int) % 2)) (by rfl) (by rfl) (IntWalk.i64_in _ (by omega))) ?_
    refine flow_take (i := 13) (.int .u64 (8 * ((k : Int) % 2))) (by rfl) (by kernel_rfl) (by kernel_rfl) (by kernel_rfl) (by exact hl_1) (by kernel_rfl) (List.Sublist.refl _) (gives_conv (k2 := .u64) (8 * ((k : Int) % 2)) (8 * ((k : Int) % 2)) (by rfl) und_int und_uint (IntWalk.u64_in _ (by omega))) ?_
    refine flow_take (i := 14) (.int .u32 ((gt bs0 (n0 - 1 - k)) * 256 ^ (k % 2))) (by rfl) (by kernel_rfl) (by kernel_rfl) (by kernel_rfl) (by exact hl_1) (by kernel_rfl) (List.Sublist.refl _) (gives_shl (k := .u32) (k2 := .u64) (gt bs0 (n0 - 1 - k)) (8 * ((k : Int) % 2)) ((gt bs0 (n0 - 1 - k)) * 256 ^ (k % 2)) (by rfl) (by rfl) (by omega) (shl_byte _ k b1.1 b1.2)) ?_
    refine flow_take (i := 15) (.int .u32 ((gt (wl (num (bs0.drop (n0 - k))) ((n0 + 1) / 2)) (k / 2)) + ((gt bs0 (n0 - 1 - k)) * 256 ^ (k % 2)))) (by rfl) (by kernel_rfl) (by kernel_rfl) (by kernel_rfl) (by exact hl_1) (by kernel_rfl) (List.Sublist.refl _) (gives_or (k := .u32) (gt (wl (num (bs0.drop (n0 - k))) ((n0 + 1) / 2)) (k / 2)) ((gt bs0 (n0 - 1 - k)) * 256 ^ (k % 2)) ((gt (wl (num (bs0.drop (n0 - k))) ((n0 + 1) / 2)) (k / 2)) + ((gt bs0 (n0 - 1 - k)) * 256 ^ (k % 2))) (by rfl) (by rfl) (or_byte _ _ k b2.1 b2.2 b1.1 b1.2)) ?_
    refine flow_take (i := 16) (.pointer (some ⟨g, 0 + (k / 2), none⟩)) (by rfl) (by kernel_rfl) (by kernel_rfl) (by kernel_rfl) (by exact hl_1) (by kernel_rfl) (List.Sublist.refl _) (gives_index g 0 (((n0 + 1) / 2)) (((n0 + 1) / 2)) ((k : Int) / 2) (k / 2) (by rfl) (by rfl) und_u32s u32_sz (by omega) (by omega)) ?_
    refine flow_one 17 (by kernel_rfl) ?_
    refine F_store1 0 g (0 + (k / 2)) _ (ag32 (wl (num (bs0.drop (n0 - k))) ((n0 + 1) / 2))) (.int .u32 ((gt (wl (num (bs0.drop (n0 - k))) ((n0 + 1) / 2)) (k / 2)) + ((gt bs0 (n0 - 1 - k)) * 256 ^ (k % 2)))) (by rfl) (by exact hl_1) (by rfl) (by rfl) rfl (by rfl) u32_sz (by rw [ag32_size, wl_len]; omega) (.inl (by decide)) ?_
    simp only [List.set_cons_zero, List.set_cons_succ]
    refine flow_done (by kernel_rfl) ?_
    intro w6 hw6
    change Code.wp _ _ _ _ _
    refine one_plain hw6 [0, 1, 2] (by rfl) ?_
    refine L_val (.int .i64 (k : Int)) (by rfl) (by exact hl_1) (gives_value _ fun _ => by rfl) ?_
    refine L_val (.int .i64 ((k : Int) + 1)) (by rfl) (by exact hl_1) (gives_add (k := .i64) ((k : Int)) (1) ((k : Int) + 1) (by rfl) (by rfl) (IntWalk.i64_in _ (by omega))) ?_
    refine L_val (.int .i64 ((k : Int) + 1)) (by rfl) (by exact hl_1) (gives_value _ fun _ => by rfl) ?_
    refine L_end ?_
    intro w7 hw7
    change ∃ r' : Nat, r' < r_1 ∧ _
    refine ⟨_, ?_, k + 1, g, ((4, .int .i64 ((k : Int) + 1)) :: (16, .int .i64 ((k : Int) + 1)) :: (15, .int .i64 (k : Int)) :: (38, .pointer (some ⟨g, 0 + (k / 2), none⟩)) :: (37, .int .u32 ((gt (wl (num (bs0.drop (n0 - k))) ((n0 + 1) / 2)) (k / 2)) + ((gt bs0 (n0 - 1 - k)) * 256 ^ (k % 2)))) :: (36, .int .u32 ((gt bs0 (n0 - 1 - k)) * 256 ^ (k % 2))) :: (35, .int .u64 (8 * ((k : Int) % 2))) :: (34, .int .i64 (8 * ((k : Int) % 2))) :: (33, .int .i64 ((k : Int) % 2)) :: (32, .int .i64 (k : Int)) :: (31, .int .u32 (gt bs0 (n0 - 1 - k))) :: (30, .int .u8 (gt bs0 (n0 - 1 - k))) :: (29, .pointer (some ⟨b0, o0 + (n0 - 1 - k), none⟩)) :: (28, .int .i64 (((n0 : Int) - 1) - (k : Int))) :: (27, .slice A0 n0 c0) :: (26, .int .u32 (gt (wl (num (bs0.drop (n0 - k))) ((n0 + 1) / 2)) (k / 2))) :: (25, .pointer (some ⟨g, 0 + (k / 2), none⟩)) :: (24, .int .i64 ((k : Int) / 2)) :: (23, .int .i64 (k : Int)) :: (22, .slice (some ⟨g, 0, none⟩) ((n0 + 1) / 2) ((n0 + 1) / 2)) :: (5, .int .i64 (((n0 : Int) - 1) - (k : Int))) :: (21, .int .i64 (((n0 : Int) - 1) - (k : Int))) :: (20, .int .i64 (k : Int)) :: (19, .int .i64 ((n0 : Int) - 1)) :: (18, .int .i64 (n0 : Int)) :: (17, .slice A0 n0 c0) :: (14, .bool true) :: (13, .int .i64 (n0 : Int)) :: (12, .slice A0 n0 c0) :: (11, .int .i64 (k : Int)) :: (0, .slice A0 n0 c0) :: (3, .slice (some ⟨g, 0, none⟩) ((n0 + 1) / 2) ((n0 + 1) / 2)) :: (4, .int .i64 (k : Int)) :: l_1), rfl, (by exact hl_1), (Eq.trans (Eq.trans (fr_dup _ _ 4 _ (by exact hl_1) (by rfl) (by rfl)).symm (fr_dup _ _ 3 _ (by exact hl_1) (by rfl) (by rfl)).symm) (fr_dup _ _ 0 _ (by exact hl_1) (by rfl) (by rfl)).symm), by omega, (by rw [← num_set bs0 n0 k ((n0 + 1) / 2) ho0 hn0 hlt rfl]; exact hw7)⟩
    omega
  ·
    refine wp_seq ?_
    refine seq_plain hw0_1 [0, 1, 2, 3] (by rfl) ?_
    refine L_val (.int .i64 (k : Int)) (by rfl) (by exact hl_1) (gives_value _ fun _ => by rfl) ?_
    refine L_val (.slice A0 n0 c0) (by rfl) (by exact hl_1) (gives_value _ fun _ => by rfl) ?_
    refine L_val (.int .i64 (n0 : Int)) (by rfl) (by exact hl_1) (gives_len _ n0 c0 und_u8s (by rfl)) ?_
    refine L_val (.bool false) (by rfl) (by exact hl_1) (gives_lss (k := .i64) ((k : Int)) ((n0 : Int)) false (by rfl) (by rfl) (decide_eq_false (by omega))) ?_
    refine L_end ?_
    intro w8 hw8
    refine wp_cond_false (fr_at _ _ (by exact hl_1) _) ?_
    refine wp_exit ?_
    have hkN : k = n0 := by omega
    change Code.wp _ _ _ _ _
    change Code.wp _ _ _ _ _
    refine seq_plain hw8 [0, 1] (by rfl) ?_
    refine L_val (.slice (some ⟨g, 0, none⟩) ((n0 + 1) / 2) ((n0 + 1) / 2)) (by rfl) (by exact hl_1) (gives_value _ fun _ => by rfl) ?_
    refine L_val (.slice (some ⟨g, 0, none⟩) ((n0 + 1) / 2) ((n0 + 1) / 2)) (by rfl) (by exact hl_1) (gives_value _ fun _ => by rfl) ?_
    refine L_end ?_
    intro w9 hw9
    subst hkN
    refine wp_ret ?_
    change bodyPost _ _ _ Exit.ret _ _
    refine (ret_tmp (by rfl) (by exact hl_1) (by rfl) ⟨g, _, ag32 (wl (num bs0) ((k + 1) / 2)), rfl, WB.of _ _ (by omega), hw9.ge 0 (by rfl), (by have hq := hw9.blk 0 (by rfl); rw [Nat.sub_self, List.drop_zero] at hq; exact hq), hw9.below⟩)
theorem n_number8 (w : World) (g : Nat) (n : Int) (h0 : 0 ≤ n) (hn : n < Wd) (hB : Blk w g 5 (ag8 [n / 72057594037927936 % 256, n / 281474976710656 % 256, n / 1099511627776 % 256, n / 4294967296 % 256, n / 16777216 % 256, n / 65536 % 256, n / 256 % 256, n % 256])) : RetsW 14 #[.slice (some ⟨g, 0, none⟩) 8 8] w 4 n := by
  rw [lo8] at hB
  have h := r3_number (some ⟨g, 0, none⟩) 8 8 (lo n 8) w (copy_reads hB (lo_len _ _)) (lo_oct _ _) (by omega)
  rw [num_lo8 n h0 hn] at h
  exact h
set_option maxRecDepth 100000 in
set_option maxHeartbeats 4000000 in
theorem v_read_len (A0 : Option Addr) (L0 C0 : Nat) (v : World) (hL : L0 ≠ 48) : Rets 16 #[.slice A0 L0 C0] v (.tuple #[.agg (pc 0), .int .i64 10]) := by
  refine calls_fr1 Tryd.func16 rfl (by rfl : _ = 33) (by rfl) ?_
  have hw := Hbl.nil v
  refine seq_plain hw [0, 1] (by rfl) ?_
  refine L_alloc _ (by rfl) (by rfl) z_1 (pc (0 : Fp)) rfl ?_; intro g1
  refine L_val (.int .i64 0) (by rfl) (by rfl) (gives_value _ fun _ => by rfl) ?_
  refine L_end ?_
  intro w1 hw1
  refine wp_seq ?_
  refine seq_plain hw1 [0, 1, 2] (by rfl) ?_
  refine L_val (.slice A0 L0 C0) (by rfl) (by rfl) (gives_value _ fun _ => by rfl) ?_
  refine L_val (.int .i64 (L0 : Int)) (by rfl) (by rfl) (gives_len _ L0 C0 und_u8s (by rfl)) ?_
  refine L_val (.bool true) (by rfl) (by rfl) (gives_ine (k := .i64) ((L0 : Int)) (48) true (by rfl) (by rfl) (decide_eq_true (by omega))) ?_
  refine L_end ?_
  intro w2 hw2
  refine wp_cond_true (fr_at _ _ (by rfl) _) ?_
  refine seq_plain hw2 [0, 1, 2] (by rfl) ?_
  refine L_val (.agg (pc (0 : Fp))) (by rfl) (by rfl) gb0_fp ?_
  refine L_store (t := 28) 0 g1 (pc (0 : Fp)) (pc (0 : Fp)) (by rfl) (by rfl) (by rfl) (by rfl) (by rfl) (hi_1 _) ((pc_size _).trans (pc_size _).symm) (pc_one _) ?_
  simp only [List.set_cons_zero, List.set_cons_succ]
  refine L_val (.int .i64 10) (by rfl) (by rfl) (gives_value _ fun _ => by rfl) ?_
  refine L_end ?_
  intro w3 hw3
  refine wp_ret ?_
  change bodyPost _ _ _ Exit.ret _ _
  refine (ret_cell_tmp (by rfl) (by rfl) (by rfl) (by rfl) (hw3.blk 0 (by rfl)) Tryd.underlying28 (by rfl) (hi_1 _) ⟨?_, hw3.below⟩)
  rfl
set_option maxRecDepth 100000 in
set_option maxHeartbeats 4000000 in
theorem reads_len (A0 : Option Addr) (L0 : Nat) (C0 : Nat) (bs0 : List Int) (a1 : Int) (v : World) (hG : Glo v) (hQ : GQp v) (hU : GUp v) (hr0 : Reads v v.heap.size A0 L0 (bs0.map (Value.int .u8))) (ho0 : Oct bs0) (ha0 : 0 ≤ a1) (ha1 : a1 < Wd) (hb0 : L0 ≤ 140737488355328) (hcase : L0 ≠ 48) : Rets 3 #[.slice A0 L0 C0, .int .u64 a1] v (.bool true) := by
  have hn0 : bs0.length = L0 := by simpa using hr0.1
  refine calls_fr2 Tryd.func3 rfl (by rfl : _ = 88) (by rfl) ?_
  have hw := Hbl.nil v
  refine seq_plain hw [0] (by rfl) ?_
  refine L_val (.bool false) (by rfl) (by rfl) (gives_value _ fun _ => by rfl) ?_
  refine L_end ?_
  intro w1 hw1
  refine wp_seq ?_
  refine seq_plain hw1 [0, 1, 2, 3, 4, 5, 6, 7, 8, 9, 10, 11, 12, 13, 14, 15, 16, 17, 18, 19, 20, 21, 22, 23, 24, 25, 26, 27, 28, 29, 30, 31, 32] (by rfl) ?_
  refine L_val (.bool true) (by rfl) (by rfl) (gives_call (vl := []) (by kernel_rfl) (by rfl) (fun w h => v_head w (hG.keep h.below) (hQ.keep h.below) (hU.keep h.below))) ?_
  refine L_val (.bool false) (by rfl) (by rfl) (gives_value _ fun _ => by rfl) ?_
  refine L_val (.bool false) (by rfl) (by rfl) (gives_value _ fun _ => by rfl) ?_
  refine L_val_g (dj := 11) (.int .u64 a1) (by rfl) (by rfl) (by rfl) (by rfl) (by rfl) (gives_value _ fun _ => by rfl) ?_
  refine L_val_g (dj := 11) (.agg (pc (Fp.n a1))) (by rfl) (by rfl) (by rfl) (by rfl) (by rfl) (gives_call (vl := [.int .u64 a1]) (by kernel_rfl) (by rfl) (fun w h => v_of _ w (hG.keep h.below) ha0 ha1)) ?_
  refine L_val_g (dj := 11) (.int .u64 a1) (by rfl) (by rfl) (by rfl) (by rfl) (by rfl) (gives_value _ fun _ => by rfl) ?_
  refine L_val_g (dj := 11) (.int .u64 (a1 / 72057594037927936)) (by rfl) (by rfl) (by rfl) (by rfl) (by rfl) (gives_shr (k := .u64) (k2 := .u64) (a1) 56 (a1 / 72057594037927936) (by rfl) (by rfl) (by omega) (shr64 _ 56 _ (by omega) (by rfl))) ?_
  refine L_val_g (dj := 11) (.int .u8 ((a1 / 72057594037927936) % 256)) (by rfl) (by rfl) (by rfl) (by rfl) (by rfl) (gives_conv (k2 := .u8) (a1 / 72057594037927936) ((a1 / 72057594037927936) % 256) (by rfl) und_w64 und_u8' (u8wrap _)) ?_
  refine L_val_g (dj := 11) (.int .u64 a1) (by rfl) (by rfl) (by rfl) (by rfl) (by rfl) (gives_value _ fun _ => by rfl) ?_
  refine L_val_g (dj := 11) (.int .u64 (a1 / 281474976710656)) (by rfl) (by rfl) (by rfl) (by rfl) (by rfl) (gives_shr (k := .u64) (k2 := .u64) (a1) 48 (a1 / 281474976710656) (by rfl) (by rfl) (by omega) (shr64 _ 48 _ (by omega) (by rfl))) ?_
  refine L_val_g (dj := 11) (.int .u8 ((a1 / 281474976710656) % 256)) (by rfl) (by rfl) (by rfl) (by rfl) (by rfl) (gives_conv (k2 := .u8) (a1 / 281474976710656) ((a1 / 281474976710656) % 256) (by rfl) und_w64 und_u8' (u8wrap _)) ?_
  refine L_val_g (dj := 11) (.int .u64 a1) (by rfl) (by rfl) (by rfl) (by rfl) (by rfl) (gives_value _ fun _ => by rfl) ?_
  refine L_val_g (dj := 11) (.int .u64 (a1 / 1099511627776)) (by rfl) (by rfl) (by rfl) (by rfl) (by rfl) (gives_shr (k := .u64) (k2 := .u64) (a1) 40 (a1 / 1099511627776) (by rfl) (by rfl) (by omega) (shr64 _ 40 _ (by omega) (by rfl))) ?_
  refine L_val_g (dj := 11) (.int .u8 ((a1 / 1099511627776) % 256)) (by rfl) (by rfl) (by rfl) (by rfl) (by rfl) (gives_conv (k2 := .u8) (a1 / 1099511627776) ((a1 / 1099511627776) % 256) (by rfl) und_w64 und_u8' (u8wrap _)) ?_
  refine L_val_g (dj := 11) (.int .u64 a1) (by rfl) (by rfl) (by rfl) (by rfl) (by rfl) (gives_value _ fun _ => by rfl) ?_
  refine L_val_g (dj := 11) (.int .u64 (a1 / 4294967296)) (by rfl) (by rfl) (by rfl) (by rfl) (by rfl) (gives_shr (k := .u64) (k2 := .u64) (a1) 32 (a1 / 4294967296) (by rfl) (by rfl) (by omega) (shr64 _ 32 _ (by omega) (by rfl))) ?_
  refine L_val_g (dj := 11) (.int .u8 ((a1 / 4294967296) % 256)) (by rfl) (by rfl) (by rfl) (by rfl) (by rfl) (gives_conv (k2 := .u8) (a1 / 4294967296) ((a1 / 4294967296) % 256) (by rfl) und_w64 und_u8' (u8wrap _)) ?_
  refine L_val_g (dj := 11) (.int .u64 a1) (by rfl) (by rfl) (by rfl) (by rfl) (by rfl) (gives_value _ fun _ => by rfl) ?_
  refine L_val_g (dj := 11) (.int .u64 (a1 / 16777216)) (by rfl) (by rfl) (by rfl) (by rfl) (by rfl) (gives_shr (k := .u64) (k2 := .u64) (a1) 24 (a1 / 16777216) (by rfl) (by rfl) (by omega) (shr64 _ 24 _ (by omega) (by rfl))) ?_
  refine L_val_g (dj := 11) (.int .u8 ((a1 / 16777216) % 256)) (by rfl) (by rfl) (by rfl) (by rfl) (by rfl) (gives_conv (k2 := .u8) (a1 / 16777216) ((a1 / 16777216) % 256) (by rfl) und_w64 und_u8' (u8wrap _)) ?_
  refine L_val_g (dj := 11) (.int .u64 a1) (by rfl) (by rfl) (by rfl) (by rfl) (by rfl) (gives_value _ fun _ => by rfl) ?_
  refine L_val_g (dj := 11) (.int .u64 (a1 / 65536)) (by rfl) (by rfl) (by rfl) (by rfl) (by rfl) (gives_shr (k := .u64) (k2 := .u64) (a1) 16 (a1 / 65536) (by rfl) (by rfl) (by omega) (shr_16_64 _ (by omega))) ?_
  refine L_val_g (dj := 11) (.int .u8 ((a1 / 65536) % 256)) (by rfl) (by rfl) (by rfl) (by rfl) (by rfl) (gives_conv (k2 := .u8) (a1 / 65536) ((a1 / 65536) % 256) (by rfl) und_w64 und_u8' (u8wrap _)) ?_
  refine L_val_g (dj := 11) (.int .u64 a1) (by rfl) (by rfl) (by rfl) (by rfl) (by rfl) (gives_value _ fun _ => by rfl) ?_
  refine L_val_g (dj := 11) (.int .u64 (a1 / 256)) (by rfl) (by rfl) (by rfl) (by rfl) (by rfl) (gives_shr (k := .u64) (k2 := .u64) (a1) 8 (a1 / 256) (by rfl) (by rfl) (by omega) (shr64 _ 8 _ (by omega) (by rfl))) ?_
  refine L_val_g (dj := 11) (.int .u8 ((a1 / 256) % 256)) (by rfl) (by rfl) (by rfl) (by rfl) (by rfl) (gives_conv (k2 := .u8) (a1 / 256) ((a1 / 256) % 256) (by rfl) und_w64 und_u8' (u8wrap _)) ?_
  refine L_val_g (dj := 11) (.int .u64 a1) (by rfl) (by rfl) (by rfl) (by rfl) (by rfl) (gives_value _ fun _ => by rfl) ?_
  refine L_val_g (dj := 11) (.int .u8 (a1 % 256)) (by rfl) (by rfl) (by rfl) (by rfl) (by rfl) (gives_conv (k2 := .u8) (a1) (a1 % 256) (by rfl) und_w64 und_u8' (u8wrap _)) ?_
  refine L_build8 ((a1 / 72057594037927936) % 256) ((a1 / 281474976710656) % 256) ((a1 / 1099511627776) % 256) ((a1 / 4294967296) % 256) ((a1 / 16777216) % 256) ((a1 / 65536) % 256) ((a1 / 256) % 256) (a1 % 256) (by rfl) (by rfl) (Want.some (dj := 11) (by rfl) (by rfl) (by rfl) (by rfl)) (by rfl) (by rfl) (by rfl) (by rfl) (by rfl) (by rfl) (by rfl) (by rfl) ?_; intro g1
  refine L_freshG (vl := [.slice (some ⟨g1, 0, none⟩) 8 8]) (4) (a1) (by rfl) (by rfl) (Want.some (dj := 11) (by rfl) (by rfl) (by rfl) (by rfl)) (by kernel_rfl) (by rfl) (fun w h => n_number8 w _ a1 ha0 ha1 (h.blk 0 (by rfl))) ?_; intro g2 cap_1 cs_1 hwb_1
  refine L_val_g (dj := 11) (.bool true) (by rfl) (by rfl) (by rfl) (by rfl) (by rfl) (gives_call (vl := [.agg (pc (Fp.n a1)), .slice (some ⟨g2, 0, none⟩) (4) cap_1]) (by kernel_rfl) (by rfl) (fun w h => l4_is _ _ _ _ _ w (hG.keep h.below) (hwb_1.num (h.blk 0 (by rfl)) (rng8 ha0 ha1) (by omega)) (of_val ha0 (Int.lt_trans ha1 Wd_Mp)))) ?_
  refine L_val_g (dj := 11) (.bool false) (by rfl) (by rfl) (by rfl) (by rfl) (by rfl) (gives_value _ fun _ => by rfl) ?_
  refine L_val (.bool false) (by rfl) (by rfl) (gives_value _ fun _ => by rfl) ?_
  refine L_end ?_
  intro w2 hw2
  refine wp_cond_false (fr_at _ _ (by rfl) _) ?_
  refine wp_skip ?_
  change Code.wp _ _ _ _ _
  refine seq_plain hw2 [0, 1, 2] (by rfl) ?_
  refine L_val (.slice A0 L0 C0) (by rfl) (by rfl) (gives_value _ fun _ => by rfl) ?_
  refine L_fresh 5 (ag8 bs0) (fun g => .slice (some ⟨g, 0, none⟩) L0 L0) (by rfl) (by rfl) (by kernel_rfl) (by rfl) (fun w h => copy_any w A0 L0 C0 bs0 ((hr0.below h.below).more h.below.size) (by omega)) ?_; intro g3
  refine L_val (.slice (some ⟨g3, 0, none⟩) L0 L0) (by rfl) (by rfl) (gives_value _ fun _ => by rfl) ?_
  refine L_end ?_
  intro w3 hw3
  refine seq_plain hw3 [0, 1, 2, 3, 4, 5, 6, 7] (by rfl) ?_
  refine L_val (.slice (some ⟨g3, 0, none⟩) L0 L0) (by rfl) (by rfl) (gives_value _ fun _ => by rfl) ?_
  refine L_val (.tuple #[.agg (pc (0 : Fp)), .int .i64 10]) (by rfl) (by rfl) (gives_call (vl := [.slice (some ⟨g3, 0, none⟩) L0 L0]) (by kernel_rfl) (by rfl) (fun w h => v_read_len _ _ _ w (by omega))) ?_
  refine L_val (.tuple #[.agg (pc (0 : Fp)), .int .i64 10]) (by rfl) (by rfl) (gives_value _ fun _ => by rfl) ?_
  refine L_val (.agg (pc (0 : Fp))) (by rfl) (by rfl) (gives_value _ fun _ => by kernel_rfl) ?_
  refine L_val (.int .i64 10) (by rfl) (by rfl) (gives_value _ fun _ => by kernel_rfl) ?_
  refine L_alloc _ (by rfl) (by rfl) z_1 (pc (0 : Fp)) rfl ?_; intro g4
  refine L_store (t := 28) 0 g4 (pc (0 : Fp)) (pc (0 : Fp)) (by rfl) (by rfl) (by rfl) (by rfl) (by rfl) (hi_1 _) ((pc_size _).trans (pc_size _).symm) (pc_one _) ?_
  simp only [List.set_cons_zero, List.set_cons_succ]
  refine L_val (.int .i64 10) (by rfl) (by rfl) (gives_value _ fun _ => by rfl) ?_
  refine L_end ?_
  intro w4 hw4
  refine seq_plain hw4 [0, 1, 2] (by rfl) ?_
  refine L_val (.slice A0 L0 C0) (by rfl) (by rfl) (gives_value _ fun _ => by rfl) ?_
  refine L_freshW (vl := [.slice A0 L0 C0]) ((L0 + 1) / 2) (num bs0) (by rfl) (by rfl) (by kernel_rfl) (by rfl) (fun w h => r3_number_big _ _ _ bs0 w ((hr0.below h.below).more h.below.size) ho0 (by omega)) ?_; intro g5 cap_2 cs_2 hwb_2
  refine L_val (.slice (some ⟨g5, 0, none⟩) ((L0 + 1) / 2) cap_2) (by rfl) (by rfl) (gives_value _ fun _ => by rfl) ?_
  refine L_end ?_
  intro w5 hw5
  refine wp_seq ?_
  refine seq_plain hw5 [0, 1, 2, 3] (by rfl) ?_
  refine L_val (.slice (some ⟨g3, 0, none⟩) L0 L0) (by rfl) (by rfl) (gives_value _ fun _ => by rfl) ?_
  refine L_val (.slice A0 L0 C0) (by rfl) (by rfl) (gives_value _ fun _ => by rfl) ?_
  refine L_val (.bool true) (by rfl) (by rfl) (gives_call (vl := [.slice (some ⟨g3, 0, none⟩) L0 L0, .slice A0 L0 C0]) (by kernel_rfl) (by rfl) (fun w h => n_same w _ _ _ _ _ _ (bs0) (bs0) (copy_reads (h.blk 2 (by rfl)) hn0) ((hr0.below h.below).more h.below.size) (by omega) (by omega) rfl)) ?_
  refine L_val (.bool false) (by rfl) (by rfl) (gives_value _ fun _ => by rfl) ?_
  refine L_end ?_
  intro w6 hw6
  refine wp_cond_false (fr_at _ _ (by rfl) _) ?_
  refine wp_skip ?_
  change Code.wp _ _ _ _ _
  refine wp_seq ?_
  refine seq_plain hw6 [0, 1, 2] (by rfl) ?_
  refine L_val (.slice A0 L0 C0) (by rfl) (by rfl) (gives_value _ fun _ => by rfl) ?_
  refine L_val (.int .i64 (L0 : Int)) (by rfl) (by rfl) (gives_len _ L0 C0 und_u8s (by rfl)) ?_
  refine L_val (.bool true) (by rfl) (by rfl) (gives_ine (k := .i64) ((L0 : Int)) (48) true (by rfl) (by rfl) (decide_eq_true (by omega))) ?_
  refine L_end ?_
  intro w7 hw7
  refine wp_cond_true (fr_at _ _ (by rfl) _) ?_
  refine seq_plain hw7 [0, 1, 2, 3, 4, 5, 6] (by rfl) ?_
  refine L_val (.int .i64 10) (by rfl) (by rfl) (gives_value _ fun _ => by rfl) ?_
  refine L_val (.bool true) (by rfl) (by rfl) (gives_ieq (k := .i64) (10) (10) true (by rfl) (by rfl) (decide_eq_true (by omega))) ?_
  refine L_val (.bool true) (by rfl) (by rfl) (gives_value _ fun _ => by rfl) ?_
  refine L_val_g (dj := 60) (.agg (pc (0 : Fp))) (by rfl) (by rfl) (by rfl) (by rfl) (by rfl) (gives_load g4 0 28 (pc (0 : Fp)) (pc (0 : Fp)) _ (by rfl) (fun _ h => h.blk 1 (by rfl)) (Sl.refl _) Tryd.underlying28 (by rfl) (hi_1 _)) ?_
  refine L_val_g (dj := 60) (.bool true) (by rfl) (by rfl) (by rfl) (by rfl) (by rfl) (gives_call (vl := [.agg (pc (0 : Fp))]) (by kernel_rfl) (by rfl) (fun w h => v_zero_z w (hG.keep h.below))) ?_
  refine L_val (.bool true) (by rfl) (by rfl) (gives_value _ fun _ => by rfl) ?_
  refine L_val (.bool true) (by rfl) (by rfl) (gives_value _ fun _ => by rfl) ?_
  refine L_end ?_
  intro w8 hw8
  refine wp_ret ?_
  change bodyPost _ _ _ Exit.ret _ _
  refine (ret_tmp (by rfl) (by rfl) (by rfl) ⟨rfl, hw8.below⟩)
set_option maxRecDepth 100000 in
set_option maxHeartbeats 4000000 in
theorem reads_field (A0 : Option Addr) (C0 : Nat) (bs0 : List Int) (a1 : Int) (v : World) (hG : Glo v) (hQ : GQp v) (hU : GUp v) (hr0 : Reads v v.heap.size A0 48 (bs0.map (Value.int .u8))) (ho0 : Oct bs0) (ha0 : 0 ≤ a1) (ha1 : a1 < Wd) (hcase : Mp ≤ num bs0) : Rets 3 #[.slice A0 48 C0, .int .u64 a1] v (.bool true) := by
  have hn0 : bs0.length = 48 := by simpa using hr0.1
  refine calls_fr2 Tryd.func3 rfl (by rfl : _ = 88) (by rfl) ?_
  have hw := Hbl.nil v
  refine seq_plain hw [0] (by rfl) ?_
  refine L_val (.bool false) (by rfl) (by rfl) (gives_value _ fun _ => by rfl) ?_
  refine L_end ?_
  intro w1 hw1
  refine wp_seq ?_
  refine seq_plain hw1 [0, 1, 2, 3, 4, 5, 6, 7, 8, 9, 10, 11, 12, 13, 14, 15, 16, 17, 18, 19, 20, 21, 22, 23, 24, 25, 26, 27, 28, 29, 30, 31, 32] (by rfl) ?_
  refine L_val (.bool true) (by rfl) (by rfl) (gives_call (vl := []) (by kernel_rfl) (by rfl) (fun w h => v_head w (hG.keep h.below) (hQ.keep h.below) (hU.keep h.below))) ?_
  refine L_val (.bool false) (by rfl) (by rfl) (gives_value _ fun _ => by rfl) ?_
  refine L_val (.bool false) (by rfl) (by rfl) (gives_value _ fun _ => by rfl) ?_
  refine L_val_g (dj := 11) (.int .u64 a1) (by rfl) (by rfl) (by rfl) (by rfl) (by rfl) (gives_value _ fun _ => by rfl) ?_
  refine L_val_g (dj := 11) (.agg (pc (Fp.n a1))) (by rfl) (by rfl) (by rfl) (by rfl) (by rfl) (gives_call (vl := [.int .u64 a1]) (by kernel_rfl) (by rfl) (fun w h => v_of _ w (hG.keep h.below) ha0 ha1)) ?_
  refine L_val_g (dj := 11) (.int .u64 a1) (by rfl) (by rfl) (by rfl) (by rfl) (by rfl) (gives_value _ fun _ => by rfl) ?_
  refine L_val_g (dj := 11) (.int .u64 (a1 / 72057594037927936)) (by rfl) (by rfl) (by rfl) (by rfl) (by rfl) (gives_shr (k := .u64) (k2 := .u64) (a1) 56 (a1 / 72057594037927936) (by rfl) (by rfl) (by omega) (shr64 _ 56 _ (by omega) (by rfl))) ?_
  refine L_val_g (dj := 11) (.int .u8 ((a1 / 72057594037927936) % 256)) (by rfl) (by rfl) (by rfl) (by rfl) (by rfl) (gives_conv (k2 := .u8) (a1 / 72057594037927936) ((a1 / 72057594037927936) % 256) (by rfl) und_w64 und_u8' (u8wrap _)) ?_
  refine L_val_g (dj := 11) (.int .u64 a1) (by rfl) (by rfl) (by rfl) (by rfl) (by rfl) (gives_value _ fun _ => by rfl) ?_
  refine L_val_g (dj := 11) (.int .u64 (a1 / 281474976710656)) (by rfl) (by rfl) (by rfl) (by rfl) (by rfl) (gives_shr (k := .u64) (k2 := .u64) (a1) 48 (a1 / 281474976710656) (by rfl) (by rfl) (by omega) (shr64 _ 48 _ (by omega) (by rfl))) ?_
  refine L_val_g (dj := 11) (.int .u8 ((a1 / 281474976710656) % 256)) (by rfl) (by rfl) (by rfl) (by rfl) (by rfl) (gives_conv (k2 := .u8) (a1 / 281474976710656) ((a1 / 281474976710656) % 256) (by rfl) und_w64 und_u8' (u8wrap _)) ?_
  refine L_val_g (dj := 11) (.int .u64 a1) (by rfl) (by rfl) (by rfl) (by rfl) (by rfl) (gives_value _ fun _ => by rfl) ?_
  refine L_val_g (dj := 11) (.int .u64 (a1 / 1099511627776)) (by rfl) (by rfl) (by rfl) (by rfl) (by rfl) (gives_shr (k := .u64) (k2 := .u64) (a1) 40 (a1 / 1099511627776) (by rfl) (by rfl) (by omega) (shr64 _ 40 _ (by omega) (by rfl))) ?_
  refine L_val_g (dj := 11) (.int .u8 ((a1 / 1099511627776) % 256)) (by rfl) (by rfl) (by rfl) (by rfl) (by rfl) (gives_conv (k2 := .u8) (a1 / 1099511627776) ((a1 / 1099511627776) % 256) (by rfl) und_w64 und_u8' (u8wrap _)) ?_
  refine L_val_g (dj := 11) (.int .u64 a1) (by rfl) (by rfl) (by rfl) (by rfl) (by rfl) (gives_value _ fun _ => by rfl) ?_
  refine L_val_g (dj := 11) (.int .u64 (a1 / 4294967296)) (by rfl) (by rfl) (by rfl) (by rfl) (by rfl) (gives_shr (k := .u64) (k2 := .u64) (a1) 32 (a1 / 4294967296) (by rfl) (by rfl) (by omega) (shr64 _ 32 _ (by omega) (by rfl))) ?_
  refine L_val_g (dj := 11) (.int .u8 ((a1 / 4294967296) % 256)) (by rfl) (by rfl) (by rfl) (by rfl) (by rfl) (gives_conv (k2 := .u8) (a1 / 4294967296) ((a1 / 4294967296) % 256) (by rfl) und_w64 und_u8' (u8wrap _)) ?_
  refine L_val_g (dj := 11) (.int .u64 a1) (by rfl) (by rfl) (by rfl) (by rfl) (by rfl) (gives_value _ fun _ => by rfl) ?_
  refine L_val_g (dj := 11) (.int .u64 (a1 / 16777216)) (by rfl) (by rfl) (by rfl) (by rfl) (by rfl) (gives_shr (k := .u64) (k2 := .u64) (a1) 24 (a1 / 16777216) (by rfl) (by rfl) (by omega) (shr64 _ 24 _ (by omega) (by rfl))) ?_
  refine L_val_g (dj := 11) (.int .u8 ((a1 / 16777216) % 256)) (by rfl) (by rfl) (by rfl) (by rfl) (by rfl) (gives_conv (k2 := .u8) (a1 / 16777216) ((a1 / 16777216) % 256) (by rfl) und_w64 und_u8' (u8wrap _)) ?_
  refine L_val_g (dj := 11) (.int .u64 a1) (by rfl) (by rfl) (by rfl) (by rfl) (by rfl) (gives_value _ fun _ => by rfl) ?_
  refine L_val_g (dj := 11) (.int .u64 (a1 / 65536)) (by rfl) (by rfl) (by rfl) (by rfl) (by rfl) (gives_shr (k := .u64) (k2 := .u64) (a1) 16 (a1 / 65536) (by rfl) (by rfl) (by omega) (shr_16_64 _ (by omega))) ?_
  refine L_val_g (dj := 11) (.int .u8 ((a1 / 65536) % 256)) (by rfl) (by rfl) (by rfl) (by rfl) (by rfl) (gives_conv (k2 := .u8) (a1 / 65536) ((a1 / 65536) % 256) (by rfl) und_w64 und_u8' (u8wrap _)) ?_
  refine L_val_g (dj := 11) (.int .u64 a1) (by rfl) (by rfl) (by rfl) (by rfl) (by rfl) (gives_value _ fun _ => by rfl) ?_
  refine L_val_g (dj := 11) (.int .u64 (a1 / 256)) (by rfl) (by rfl) (by rfl) (by rfl) (by rfl) (gives_shr (k := .u64) (k2 := .u64) (a1) 8 (a1 / 256) (by rfl) (by rfl) (by omega) (shr64 _ 8 _ (by omega) (by rfl))) ?_
  refine L_val_g (dj := 11) (.int .u8 ((a1 / 256) % 256)) (by rfl) (by rfl) (by rfl) (by rfl) (by rfl) (gives_conv (k2 := .u8) (a1 / 256) ((a1 / 256) % 256) (by rfl) und_w64 und_u8' (u8wrap _)) ?_
  refine L_val_g (dj := 11) (.int .u64 a1) (by rfl) (by rfl) (by rfl) (by rfl) (by rfl) (gives_value _ fun _ => by rfl) ?_
  refine L_val_g (dj := 11) (.int .u8 (a1 % 256)) (by rfl) (by rfl) (by rfl) (by rfl) (by rfl) (gives_conv (k2 := .u8) (a1) (a1 % 256) (by rfl) und_w64 und_u8' (u8wrap _)) ?_
  refine L_build8 ((a1 / 72057594037927936) % 256) ((a1 / 281474976710656) % 256) ((a1 / 1099511627776) % 256) ((a1 / 4294967296) % 256) ((a1 / 16777216) % 256) ((a1 / 65536) % 256) ((a1 / 256) % 256) (a1 % 256) (by rfl) (by rfl) (Want.some (dj := 11) (by rfl) (by rfl) (by rfl) (by rfl)) (by rfl) (by rfl) (by rfl) (by rfl) (by rfl) (by rfl) (by rfl) (by rfl) ?_; intro g1
  refine L_freshG (vl := [.slice (some ⟨g1, 0, none⟩) 8 8]) (4) (a1) (by rfl) (by rfl) (Want.some (dj := 11) (by rfl) (by rfl) (by rfl) (by rfl)) (by kernel_rfl) (by rfl) (fun w h => n_number8 w _ a1 ha0 ha1 (h.blk 0 (by rfl))) ?_; intro g2 cap_1 cs_1 hwb_1
  refine L_val_g (dj := 11) (.bool true) (by rfl) (by rfl) (by rfl) (by rfl) (by rfl) (gives_call (vl := [.agg (pc (Fp.n a1)), .slice (some ⟨g2, 0, none⟩) (4) cap_1]) (by kernel_rfl) (by rfl) (fun w h => l4_is _ _ _ _ _ w (hG.keep h.below) (hwb_1.num (h.blk 0 (by rfl)) (rng8 ha0 ha1) (by omega)) (of_val ha0 (Int.lt_trans ha1 Wd_Mp)))) ?_
  refine L_val_g (dj := 11) (.bool false) (by rfl) (by rfl) (by rfl) (by rfl) (by rfl) (gives_value _ fun _ => by rfl) ?_
  refine L_val (.bool false) (by rfl) (by rfl) (gives_value _ fun _ => by rfl) ?_
  refine L_end ?_
  intro w2 hw2
  refine wp_cond_false (fr_at _ _ (by rfl) _) ?_
  refine wp_skip ?_
  change Code.wp _ _ _ _ _
  refine seq_plain hw2 [0, 1, 2] (by rfl) ?_
  refine L_val (.slice A0 48 C0) (by rfl) (by rfl) (gives_value _ fun _ => by rfl) ?_
  refine L_fresh 5 (ag8 bs0) (fun g => .slice (some ⟨g, 0, none⟩) 48 48) (by rfl) (by rfl) (by kernel_rfl) (by rfl) (fun w h => copy_any w A0 48 C0 bs0 ((hr0.below h.below).more h.below.size) (by omega)) ?_; intro g3
  refine L_val (.slice (some ⟨g3, 0, none⟩) 48 48) (by rfl) (by rfl) (gives_value _ fun _ => by rfl) ?_
  refine L_end ?_
  intro w3 hw3
  refine seq_plain hw3 [0, 1, 2, 3, 4, 5, 6, 7] (by rfl) ?_
  refine L_val (.slice (some ⟨g3, 0, none⟩) 48 48) (by rfl) (by rfl) (gives_value _ fun _ => by rfl) ?_
  refine L_val (.tuple #[.agg (pc (0 : Fp)), .int .i64 12]) (by rfl) (by rfl) (gives_call (vl := [.slice (some ⟨g3, 0, none⟩) 48 48]) (by kernel_rfl) (by rfl) (fun w h => v_read_field _ _ bs0 w (hG.keep h.below) (copy_reads (h.blk 0 (by rfl)) hn0) ho0 (by omega) hcase)) ?_
  refine L_val (.tuple #[.agg (pc (0 : Fp)), .int .i64 12]) (by rfl) (by rfl) (gives_value _ fun _ => by rfl) ?_
  refine L_val (.agg (pc (0 : Fp))) (by rfl) (by rfl) (gives_value _ fun _ => by kernel_rfl) ?_
  refine L_val (.int .i64 12) (by rfl) (by rfl) (gives_value _ fun _ => by kernel_rfl) ?_
  refine L_alloc _ (by rfl) (by rfl) z_1 (pc (0 : Fp)) rfl ?_; intro g4
  refine L_store (t := 28) 0 g4 (pc (0 : Fp)) (pc (0 : Fp)) (by rfl) (by rfl) (by rfl) (by rfl) (by rfl) (hi_1 _) ((pc_size _).trans (pc_size _).symm) (pc_one _) ?_
  simp only [List.set_cons_zero, List.set_cons_succ]
  refine L_val (.int .i64 12) (by rfl) (by rfl) (gives_value _ fun _ => by rfl) ?_
  refine L_end ?_
  intro w4 hw4
  refine seq_plain hw4 [0, 1, 2] (by rfl) ?_
  refine L_val (.slice A0 48 C0) (by rfl) (by rfl) (gives_value _ fun _ => by rfl) ?_
  refine L_freshW (vl := [.slice A0 48 C0]) ((48 + 1) / 2) (num bs0) (by rfl) (by rfl) (by kernel_rfl) (by rfl) (fun w h => r3_number_big _ _ _ bs0 w ((hr0.below h.below).more h.below.size) ho0 (by omega)) ?_; intro g5 cap_2 cs_2 hwb_2
  refine L_val (.slice (some ⟨g5, 0, none⟩) ((48 + 1) / 2) cap_2) (by rfl) (by rfl) (gives_value _ fun _ => by rfl) ?_
  refine L_end ?_
  intro w5 hw5
  refine wp_seq ?_
  refine seq_plain hw5 [0, 1, 2, 3] (by rfl) ?_
  refine L_val (.slice (some ⟨g3, 0, none⟩) 48 48) (by rfl) (by rfl) (gives_value _ fun _ => by rfl) ?_
  refine L_val (.slice A0 48 C0) (by rfl) (by rfl) (gives_value _ fun _ => by rfl) ?_
  refine L_val (.bool true) (by rfl) (by rfl) (gives_call (vl := [.slice (some ⟨g3, 0, none⟩) 48 48, .slice A0 48 C0]) (by kernel_rfl) (by rfl) (fun w h => n_same w _ _ _ _ _ _ (bs0) (bs0) (copy_reads (h.blk 2 (by rfl)) hn0) ((hr0.below h.below).more h.below.size) (by omega) (by omega) rfl)) ?_
  refine L_val (.bool false) (by rfl) (by rfl) (gives_value _ fun _ => by rfl) ?_
  refine L_end ?_
  intro w6 hw6
  refine wp_cond_false (fr_at _ _ (by rfl) _) ?_
  refine wp_skip ?_
  change Code.wp _ _ _ _ _
  refine wp_seq ?_
  refine seq_plain hw6 [0, 1, 2] (by rfl) ?_
  refine L_val (.slice A0 48 C0) (by rfl) (by rfl) (gives_value _ fun _ => by rfl) ?_
  refine L_val (.int .i64 (48 : Int)) (by rfl) (by rfl) (gives_len _ 48 C0 und_u8s (by rfl)) ?_
  refine L_val (.bool false) (by rfl) (by rfl) (gives_ine (k := .i64) ((48 : Int)) (48) false (by rfl) (by rfl) (decide_eq_false (by omega))) ?_
  refine L_end ?_
  intro w7 hw7
  refine wp_cond_false (fr_at _ _ (by rfl) _) ?_
  refine wp_skip ?_
  change Code.wp _ _ _ _ _
  refine wp_seq ?_
  refine seq_plain hw7 [0, 1, 2, 3] (by rfl) ?_
  refine L_val (.slice (some ⟨g5, 0, none⟩) ((48 + 1) / 2) cap_2) (by rfl) (by rfl) (gives_value _ fun _ => by rfl) ?_
  refine L_freshW (vl := []) (24) (Mp) (by rfl) (by rfl) (by kernel_rfl) (by rfl) (fun w h => m_04 w) ?_; intro g6 cap_3 cs_3 hwb_3
  refine L_val (.bool false) (by rfl) (by rfl) (gives_call (vl := [.slice (some ⟨g5, 0, none⟩) ((48 + 1) / 2) cap_2, .slice (some ⟨g6, 0, none⟩) (24) cap_3]) (by kernel_rfl) (by rfl) (fun w h => n_less w _ _ _ _ _ _ _ _ (hwb_2.num (h.blk 1 (by rfl)) (num_rng bs0 _ ho0 hn0) (by omega)) (hwb_3.num (h.blk 0 (by rfl)) ⟨Int.le_of_lt Mp_pos, Mp_24⟩ (by omega)) false (decide_eq_false (by omega)))) ?_
  refine L_val (.bool true) (by rfl) (by rfl) (gives_value _ fun _ => by rfl) ?_
  refine L_end ?_
  intro w8 hw8
  refine wp_cond_true (fr_at _ _ (by rfl) _) ?_
  refine seq_plain hw8 [0, 1, 2, 3, 4, 5, 6] (by rfl) ?_
  refine L_val (.int .i64 12) (by rfl) (by rfl) (gives_value _ fun _ => by rfl) ?_
  refine L_val (.bool true) (by rfl) (by rfl) (gives_ieq (k := .i64) (12) (12) true (by rfl) (by rfl) (decide_eq_true (by omega))) ?_
  refine L_val (.bool true) (by rfl) (by rfl) (gives_value _ fun _ => by rfl) ?_
  refine L_val_g (dj := 70) (.agg (pc (0 : Fp))) (by rfl) (by rfl) (by rfl) (by rfl) (by rfl) (gives_load g4 0 28 (pc (0 : Fp)) (pc (0 : Fp)) _ (by rfl) (fun _ h => h.blk 2 (by rfl)) (Sl.refl _) Tryd.underlying28 (by rfl) (hi_1 _)) ?_
  refine L_val_g (dj := 70) (.bool true) (by rfl) (by rfl) (by rfl) (by rfl) (by rfl) (gives_call (vl := [.agg (pc (0 : Fp))]) (by kernel_rfl) (by rfl) (fun w h => v_zero_z w (hG.keep h.below))) ?_
  refine L_val (.bool true) (by rfl) (by rfl) (gives_value _ fun _ => by rfl) ?_
  refine L_val (.bool true) (by rfl) (by rfl) (gives_value _ fun _ => by rfl) ?_
  refine L_end ?_
  intro w9 hw9
  refine wp_ret ?_
  change bodyPost _ _ _ Exit.ret _ _
  refine (ret_tmp (by rfl) (by rfl) (by rfl) ⟨rfl, hw9.below⟩)
set_option maxRecDepth 100000 in
set_option maxHeartbeats 4000000 in
theorem reads_ok (A0 : Option Addr) (C0 : Nat) (bs0 : List Int) (a1 : Int) (v : World) (hG : Glo v) (hQ : GQp v) (hU : GUp v) (hr0 : Reads v v.heap.size A0 48 (bs0.map (Value.int .u8))) (ho0 : Oct bs0) (ha0 : 0 ≤ a1) (ha1 : a1 < Wd) (hcase : num bs0 < Mp) : Rets 3 #[.slice A0 48 C0, .int .u64 a1] v (.bool true) := by
  have hn0 : bs0.length = 48 := by simpa using hr0.1
  refine calls_fr2 Tryd.func3 rfl (by rfl : _ = 88) (by rfl) ?_
  have hw := Hbl.nil v
  refine seq_plain hw [0] (by rfl) ?_
  refine L_val (.bool false) (by rfl) (by rfl) (gives_value _ fun _ => by rfl) ?_
  refine L_end ?_
  intro w1 hw1
  refine wp_seq ?_
  refine seq_plain hw1 [0, 1, 2, 3, 4, 5, 6, 7, 8, 9, 10, 11, 12, 13, 14, 15, 16, 17, 18, 19, 20, 21, 22, 23, 24, 25, 26, 27, 28, 29, 30, 31, 32] (by rfl) ?_
  refine L_val (.bool true) (by rfl) (by rfl) (gives_call (vl := []) (by kernel_rfl) (by rfl) (fun w h => v_head w (hG.keep h.below) (hQ.keep h.below) (hU.keep h.below))) ?_
  refine L_val (.bool false) (by rfl) (by rfl) (gives_value _ fun _ => by rfl) ?_
  refine L_val (.bool false) (by rfl) (by rfl) (gives_value _ fun _ => by rfl) ?_
  refine L_val_g (dj := 11) (.int .u64 a1) (by rfl) (by rfl) (by rfl) (by rfl) (by rfl) (gives_value _ fun _ => by rfl) ?_
  refine L_val_g (dj := 11) (.agg (pc (Fp.n a1))) (by rfl) (by rfl) (by rfl) (by rfl) (by rfl) (gives_call (vl := [.int .u64 a1]) (by kernel_rfl) (by rfl) (fun w h => v_of _ w (hG.keep h.below) ha0 ha1)) ?_
  refine L_val_g (dj := 11) (.int .u64 a1) (by rfl) (by rfl) (by rfl) (by rfl) (by rfl) (gives_value _ fun _ => by rfl) ?_
  refine L_val_g (dj := 11) (.int .u64 (a1 / 72057594037927936)) (by rfl) (by rfl) (by rfl) (by rfl) (by rfl) (gives_shr (k := .u64) (k2 := .u64) (a1) 56 (a1 / 72057594037927936) (by rfl) (by rfl) (by omega) (shr64 _ 56 _ (by omega) (by rfl))) ?_
  refine L_val_g (dj := 11) (.int .u8 ((a1 / 72057594037927936) % 256)) (by rfl) (by rfl) (by rfl) (by rfl) (by rfl) (gives_conv (k2 := .u8) (a1 / 72057594037927936) ((a1 / 72057594037927936) % 256) (by rfl) und_w64 und_u8' (u8wrap _)) ?_
  refine L_val_g (dj := 11) (.int .u64 a1) (by rfl) (by rfl) (by rfl) (by rfl) (by rfl) (gives_value _ fun _ => by rfl) ?_
  refine L_val_g (dj := 11) (.int .u64 (a1 / 281474976710656)) (by rfl) (by rfl) (by rfl) (by rfl) (by rfl) (gives_shr (k := .u64) (k2 := .u64) (a1) 48 (a1 / 281474976710656) (by rfl) (by rfl) (by omega) (shr64 _ 48 _ (by omega) (by rfl))) ?_
  refine L_val_g (dj := 11) (.int .u8 ((a1 / 281474976710656) % 256)) (by rfl) (by rfl) (by rfl) (by rfl) (by rfl) (gives_conv (k2 := .u8) (a1 / 281474976710656) ((a1 / 281474976710656) % 256) (by rfl) und_w64 und_u8' (u8wrap _)) ?_
  refine L_val_g (dj := 11) (.int .u64 a1) (by rfl) (by rfl) (by rfl) (by rfl) (by rfl) (gives_value _ fun _ => by rfl) ?_
  refine L_val_g (dj := 11) (.int .u64 (a1 / 1099511627776)) (by rfl) (by rfl) (by rfl) (by rfl) (by rfl) (gives_shr (k := .u64) (k2 := .u64) (a1) 40 (a1 / 1099511627776) (by rfl) (by rfl) (by omega) (shr64 _ 40 _ (by omega) (by rfl))) ?_
  refine L_val_g (dj := 11) (.int .u8 ((a1 / 1099511627776) % 256)) (by rfl) (by rfl) (by rfl) (by rfl) (by rfl) (gives_conv (k2 := .u8) (a1 / 1099511627776) ((a1 / 1099511627776) % 256) (by rfl) und_w64 und_u8' (u8wrap _)) ?_
  refine L_val_g (dj := 11) (.int .u64 a1) (by rfl) (by rfl) (by rfl) (by rfl) (by rfl) (gives_value _ fun _ => by rfl) ?_
  refine L_val_g (dj := 11) (.int .u64 (a1 / 4294967296)) (by rfl) (by rfl) (by rfl) (by rfl) (by rfl) (gives_shr (k := .u64) (k2 := .u64) (a1) 32 (a1 / 4294967296) (by rfl) (by rfl) (by omega) (shr64 _ 32 _ (by omega) (by rfl))) ?_
  refine L_val_g (dj := 11) (.int .u8 ((a1 / 4294967296) % 256)) (by rfl) (by rfl) (by rfl) (by rfl) (by rfl) (gives_conv (k2 := .u8) (a1 / 4294967296) ((a1 / 4294967296) % 256) (by rfl) und_w64 und_u8' (u8wrap _)) ?_
  refine L_val_g (dj := 11) (.int .u64 a1) (by rfl) (by rfl) (by rfl) (by rfl) (by rfl) (gives_value _ fun _ => by rfl) ?_
  refine L_val_g (dj := 11) (.int .u64 (a1 / 16777216)) (by rfl) (by rfl) (by rfl) (by rfl) (by rfl) (gives_shr (k := .u64) (k2 := .u64) (a1) 24 (a1 / 16777216) (by rfl) (by rfl) (by omega) (shr64 _ 24 _ (by omega) (by rfl))) ?_
  refine L_val_g (dj := 11) (.int .u8 ((a1 / 16777216) % 256)) (by rfl) (by rfl) (by rfl) (by rfl) (by rfl) (gives_conv (k2 := .u8) (a1 / 16777216) ((a1 / 16777216) % 256) (by rfl) und_w64 und_u8' (u8wrap _)) ?_
  refine L_val_g (dj := 11) (.int .u64 a1) (by rfl) (by rfl) (by rfl) (by rfl) (by rfl) (gives_value _ fun _ => by rfl) ?_
  refine L_val_g (dj := 11) (.int .u64 (a1 / 65536)) (by rfl) (by rfl) (by rfl) (by rfl) (by rfl) (gives_shr (k := .u64) (k2 := .u64) (a1) 16 (a1 / 65536) (by rfl) (by rfl) (by omega) (shr_16_64 _ (by omega))) ?_
  refine L_val_g (dj := 11) (.int .u8 ((a1 / 65536) % 256)) (by rfl) (by rfl) (by rfl) (by rfl) (by rfl) (gives_conv (k2 := .u8) (a1 / 65536) ((a1 / 65536) % 256) (by rfl) und_w64 und_u8' (u8wrap _)) ?_
  refine L_val_g (dj := 11) (.int .u64 a1) (by rfl) (by rfl) (by rfl) (by rfl) (by rfl) (gives_value _ fun _ => by rfl) ?_
  refine L_val_g (dj := 11) (.int .u64 (a1 / 256)) (by rfl) (by rfl) (by rfl) (by rfl) (by rfl) (gives_shr (k := .u64) (k2 := .u64) (a1) 8 (a1 / 256) (by rfl) (by rfl) (by omega) (shr64 _ 8 _ (by omega) (by rfl))) ?_
  refine L_val_g (dj := 11) (.int .u8 ((a1 / 256) % 256)) (by rfl) (by rfl) (by rfl) (by rfl) (by rfl) (gives_conv (k2 := .u8) (a1 / 256) ((a1 / 256) % 256) (by rfl) und_w64 und_u8' (u8wrap _)) ?_
  refine L_val_g (dj := 11) (.int .u64 a1) (by rfl) (by rfl) (by rfl) (by rfl) (by rfl) (gives_value _ fun _ => by rfl) ?_
  refine L_val_g (dj := 11) (.int .u8 (a1 % 256)) (by rfl) (by rfl) (by rfl) (by rfl) (by rfl) (gives_conv (k2 := .u8) (a1) (a1 % 256) (by rfl) und_w64 und_u8' (u8wrap _)) ?_
  refine L_build8 ((a1 / 72057594037927936) % 256) ((a1 / 281474976710656) % 256) ((a1 / 1099511627776) % 256) ((a1 / 4294967296) % 256) ((a1 / 16777216) % 256) ((a1 / 65536) % 256) ((a1 / 256) % 256) (a1 % 256) (by rfl) (by rfl) (Want.some (dj := 11) (by rfl) (by rfl) (by rfl) (by rfl)) (by rfl) (by rfl) (by rfl) (by rfl) (by rfl) (by rfl) (by rfl) (by rfl) ?_; intro g1
  refine L_freshG (vl := [.slice (some ⟨g1, 0, none⟩) 8 8]) (4) (a1) (by rfl) (by rfl) (Want.some (dj := 11) (by rfl) (by rfl) (by rfl) (by rfl)) (by kernel_rfl) (by rfl) (fun w h => n_number8 w _ a1 ha0 ha1 (h.blk 0 (by rfl))) ?_; intro g2 cap_1 cs_1 hwb_1
  refine L_val_g (dj := 11) (.bool true) (by rfl) (by rfl) (by rfl) (by rfl) (by rfl) (gives_call (vl := [.agg (pc (Fp.n a1)), .slice (some ⟨g2, 0, none⟩) (4) cap_1]) (by kernel_rfl) (by rfl) (fun w h => l4_is _ _ _ _ _ w (hG.keep h.below) (hwb_1.num (h.blk 0 (by rfl)) (rng8 ha0 ha1) (by omega)) (of_val ha0 (Int.lt_trans ha1 Wd_Mp)))) ?_
  refine L_val_g (dj := 11) (.bool false) (by rfl) (by rfl) (by rfl) (by rfl) (by rfl) (gives_value _ fun _ => by rfl) ?_
  refine L_val (.bool false) (by rfl) (by rfl) (gives_value _ fun _ => by rfl) ?_
  refine L_end ?_
  intro w2 hw2
  refine wp_cond_false (fr_at _ _ (by rfl) _) ?_
  refine wp_skip ?_
  change Code.wp _ _ _ _ _
  refine seq_plain hw2 [0, 1, 2] (by rfl) ?_
  refine L_val (.slice A0 48 C0) (by rfl) (by rfl) (gives_value _ fun _ => by rfl) ?_
  refine L_fresh 5 (ag8 bs0) (fun g => .slice (some ⟨g, 0, none⟩) 48 48) (by rfl) (by rfl) (by kernel_rfl) (by rfl) (fun w h => copy_any w A0 48 C0 bs0 ((hr0.below h.below).more h.below.size) (by omega)) ?_; intro g3
  refine L_val (.slice (some ⟨g3, 0, none⟩) 48 48) (by rfl) (by rfl) (gives_value _ fun _ => by rfl) ?_
  refine L_end ?_
  intro w3 hw3
  refine seq_plain hw3 [0, 1, 2, 3, 4, 5, 6, 7] (by rfl) ?_
  refine L_val (.slice (some ⟨g3, 0, none⟩) 48 48) (by rfl) (by rfl) (gives_value _ fun _ => by rfl) ?_
  refine L_val (.tuple #[.agg (pc (Fp.n (num bs0))), .int .i64 0]) (by rfl) (by rfl) (gives_call (vl := [.slice (some ⟨g3, 0, none⟩) 48 48]) (by kernel_rfl) (by rfl) (fun w h => v_read_ok _ _ bs0 w (hG.keep h.below) (copy_reads (h.blk 0 (by rfl)) hn0) ho0 (by omega) hcase)) ?_
  refine L_val (.tuple #[.agg (pc (Fp.n (num bs0))), .int .i64 0]) (by rfl) (by rfl) (gives_value _ fun _ => by rfl) ?_
  refine L_val (.agg (pc (Fp.n (num bs0)))) (by rfl) (by rfl) (gives_value _ fun _ => by kernel_rfl) ?_
  refine L_val (.int .i64 0) (by rfl) (by rfl) (gives_value _ fun _ => by kernel_rfl) ?_
  refine L_alloc _ (by rfl) (by rfl) z_1 (pc (0 : Fp)) rfl ?_; intro g4
  refine L_store (t := 28) 0 g4 (pc (0 : Fp)) (pc (Fp.n (num bs0))) (by rfl) (by rfl) (by rfl) (by rfl) (by rfl) (hi_1 _) ((pc_size _).trans (pc_size _).symm) (pc_one _) ?_
  simp only [List.set_cons_zero, List.set_cons_succ]
  refine L_val (.int .i64 0) (by rfl) (by rfl) (gives_value _ fun _ => by rfl) ?_
  refine L_end ?_
  intro w4 hw4
  refine seq_plain hw4 [0, 1, 2] (by rfl) ?_
  refine L_val (.slice A0 48 C0) (by rfl) (by rfl) (gives_value _ fun _ => by rfl) ?_
  refine L_freshW (vl := [.slice A0 48 C0]) ((48 + 1) / 2) (num bs0) (by rfl) (by rfl) (by kernel_rfl) (by rfl) (fun w h => r3_number_big _ _ _ bs0 w ((hr0.below h.below).more h.below.size) ho0 (by omega)) ?_; intro g5 cap_2 cs_2 hwb_2
  refine L_val (.slice (some ⟨g5, 0, none⟩) ((48 + 1) / 2) cap_2) (by rfl) (by rfl) (gives_value _ fun _ => by rfl) ?_
  refine L_end ?_
  intro w5 hw5
  refine wp_seq ?_
  refine seq_plain hw5 [0, 1, 2, 3] (by rfl) ?_
  refine L_val (.slice (some ⟨g3, 0, none⟩) 48 48) (by rfl) (by rfl) (gives_value _ fun _ => by rfl) ?_
  refine L_val (.slice A0 48 C0) (by rfl) (by rfl) (gives_value _ fun _ => by rfl) ?_
  refine L_val (.bool true) (by rfl) (by rfl) (gives_call (vl := [.slice (some ⟨g3, 0, none⟩) 48 48, .slice A0 48 C0]) (by kernel_rfl) (by rfl) (fun w h => n_same w _ _ _ _ _ _ (bs0) (bs0) (copy_reads (h.blk 2 (by rfl)) hn0) ((hr0.below h.below).more h.below.size) (by omega) (by omega) rfl)) ?_
  refine L_val (.bool false) (by rfl) (by rfl) (gives_value _ fun _ => by rfl) ?_
  refine L_end ?_
  intro w6 hw6
  refine wp_cond_false (fr_at _ _ (by rfl) _) ?_
  refine wp_skip ?_
  change Code.wp _ _ _ _ _
  refine wp_seq ?_
  refine seq_plain hw6 [0, 1, 2] (by rfl) ?_
  refine L_val (.slice A0 48 C0) (by rfl) (by rfl) (gives_value _ fun _ => by rfl) ?_
  refine L_val (.int .i64 (48 : Int)) (by rfl) (by rfl) (gives_len _ 48 C0 und_u8s (by rfl)) ?_
  refine L_val (.bool false) (by rfl) (by rfl) (gives_ine (k := .i64) ((48 : Int)) (48) false (by rfl) (by rfl) (decide_eq_false (by omega))) ?_
  refine L_end ?_
  intro w7 hw7
  refine wp_cond_false (fr_at _ _ (by rfl) _) ?_
  refine wp_skip ?_
  change Code.wp _ _ _ _ _
  refine wp_seq ?_
  refine seq_plain hw7 [0, 1, 2, 3] (by rfl) ?_
  refine L_val (.slice (some ⟨g5, 0, none⟩) ((48 + 1) / 2) cap_2) (by rfl) (by rfl) (gives_value _ fun _ => by rfl) ?_
  refine L_freshW (vl := []) (24) (Mp) (by rfl) (by rfl) (by kernel_rfl) (by rfl) (fun w h => m_04 w) ?_; intro g6 cap_3 cs_3 hwb_3
  refine L_val (.bool true) (by rfl) (by rfl) (gives_call (vl := [.slice (some ⟨g5, 0, none⟩) ((48 + 1) / 2) cap_2, .slice (some ⟨g6, 0, none⟩) (24) cap_3]) (by kernel_rfl) (by rfl) (fun w h => n_less w _ _ _ _ _ _ _ _ (hwb_2.num (h.blk 1 (by rfl)) (num_rng bs0 _ ho0 hn0) (by omega)) (hwb_3.num (h.blk 0 (by rfl)) ⟨Int.le_of_lt Mp_pos, Mp_24⟩ (by omega)) true (decide_eq_true (by omega)))) ?_
  refine L_val (.bool false) (by rfl) (by rfl) (gives_value _ fun _ => by rfl) ?_
  refine L_end ?_
  intro w8 hw8
  refine wp_cond_false (fr_at _ _ (by rfl) _) ?_
  refine wp_skip ?_
  change Code.wp _ _ _ _ _
  refine seq_plain hw8 [0, 1, 2, 3, 4, 5, 6, 7, 8, 9, 10, 11, 12, 13, 14] (by rfl) ?_
  refine L_val (.int .i64 0) (by rfl) (by rfl) (gives_value _ fun _ => by rfl) ?_
  refine L_val (.bool true) (by rfl) (by rfl) (gives_ieq (k := .i64) (0) (0) true (by rfl) (by rfl) (decide_eq_true (by omega))) ?_
  refine L_val (.bool true) (by rfl) (by rfl) (gives_value _ fun _ => by rfl) ?_
  refine L_val_g (dj := 76) (.agg (pc (Fp.n (num bs0)))) (by rfl) (by rfl) (by rfl) (by rfl) (by rfl) (gives_load g4 0 28 (pc (Fp.n (num bs0))) (pc (Fp.n (num bs0))) _ (by rfl) (fun _ h => h.blk 2 (by rfl)) (Sl.refl _) Tryd.underlying28 (by rfl) (hi_1 _)) ?_
  refine L_val_g (dj := 76) (.slice (some ⟨g5, 0, none⟩) ((48 + 1) / 2) cap_2) (by rfl) (by rfl) (by rfl) (by rfl) (by rfl) (gives_value _ fun _ => by rfl) ?_
  refine L_val_g (dj := 76) (.bool true) (by rfl) (by rfl) (by rfl) (by rfl) (by rfl) (gives_call (vl := [.agg (pc (Fp.n (num bs0))), .slice (some ⟨g5, 0, none⟩) ((48 + 1) / 2) cap_2]) (by kernel_rfl) (by rfl) (fun w h => l4_is _ _ _ _ _ w (hG.keep h.below) (hwb_2.num (h.blk 1 (by rfl)) (num_rng bs0 _ ho0 hn0) (by omega)) (of_val (num_rng bs0 _ ho0 hn0).1 hcase))) ?_
  refine L_val (.bool true) (by rfl) (by rfl) (gives_value _ fun _ => by rfl) ?_
  refine L_val (.bool true) (by rfl) (by rfl) (gives_value _ fun _ => by rfl) ?_
  refine L_val_g (dj := 81) (.agg (pc (Fp.n (num bs0)))) (by rfl) (by rfl) (by rfl) (by rfl) (by rfl) (gives_load g4 0 28 (pc (Fp.n (num bs0))) (pc (Fp.n (num bs0))) _ (by rfl) (fun _ h => h.blk 2 (by rfl)) (Sl.refl _) Tryd.underlying28 (by rfl) (hi_1 _)) ?_
  refine L_val_g (dj := 81) (.bool (decide (Fp.n (num bs0) = 0))) (by rfl) (by rfl) (by rfl) (by rfl) (by rfl) (gives_call (vl := [.agg (pc (Fp.n (num bs0)))]) (by kernel_rfl) (by rfl) (fun w h => v_zero _ w (hG.keep h.below))) ?_
  refine L_val_g (dj := 81) (.slice (some ⟨g5, 0, none⟩) ((48 + 1) / 2) cap_2) (by rfl) (by rfl) (by rfl) (by rfl) (by rfl) (gives_value _ fun _ => by rfl) ?_
  refine L_val_g (dj := 81) (.bool (decide (num bs0 = 0))) (by rfl) (by rfl) (by rfl) (by rfl) (by rfl) (gives_call (vl := [.slice (some ⟨g5, 0, none⟩) ((48 + 1) / 2) cap_2, .slice none 0 0]) (by kernel_rfl) (by rfl) (fun w h => n_same3 w _ _ _ _ _ _ _ _ (hwb_2.num (h.blk 1 (by rfl)) (num_rng bs0 _ ho0 hn0) (by omega)) (NumAt.nil w))) ?_
  refine L_val_g (dj := 81) (.bool true) (by rfl) (by rfl) (by rfl) (by rfl) (by rfl) (gives_eqbb _ _ (by rfl) (by rfl) (by rfl) (decide_eq_decide.2 (z_iff (num_rng bs0 _ ho0 hn0).1 hcase))) ?_
  refine L_val (.bool true) (by rfl) (by rfl) (gives_value _ fun _ => by rfl) ?_
  refine L_val (.bool true) (by rfl) (by rfl) (gives_value _ fun _ => by rfl) ?_
  refine L_end ?_
  intro w9 hw9
  refine wp_ret ?_
  change bodyPost _ _ _ Exit.ret _ _
  refine (ret_tmp (by rfl) (by rfl) (by rfl) ⟨rfl, hw9.below⟩)
theorem reads_any (A0 : Option Addr) (L0 C0 : Nat) (bs0 : List Int) (a1 : Int) (v : World) (hG : Glo v) (hQ : GQp v) (hU : GUp v) (hr0 : Reads v v.heap.size A0 L0 (bs0.map (Value.int .u8))) (ho0 : Oct bs0) (ha0 : 0 ≤ a1) (ha1 : a1 < Wd) (hb0 : L0 ≤ 140737488355328) : Rets 3 #[.slice A0 L0 C0, .int .u64 a1] v (.bool true) := by
  by_cases h : L0 = 48
  · subst h
    rcases Int.lt_or_le (num bs0) Mp with h | h
    · exact reads_ok A0 C0 bs0 a1 v hG hQ hU hr0 ho0 ha0 ha1 h
    · exact reads_field A0 C0 bs0 a1 v hG hQ hU hr0 ho0 ha0 ha1 h
  · exact reads_len A0 L0 C0 bs0 a1 v hG hQ hU hr0 ho0 ha0 ha1 hb0 h
end Go.Proofs.YtlbmohofdgooaaaDoor
