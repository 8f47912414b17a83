/-
  FpReads: the walk; Read of bytes that are no number.
-/
import Derived.Test.YtialfoccalobpaaDoorR3Z
namespace Go.Proofs.YtialfoccalobpaaDoor
open Go.RowKit
set_option maxRecDepth 100000 in
set_option maxHeartbeats 4000000 in
theorem fp_read_field (w : World) (hG : GMp w) (hS : GSqp w) (A : Option Addr) (c : Nat) (bs : List Int) (hr : Reads w w.heap.size A 48 (bs.map (Value.int .u8))) (ho : Oct bs) (hc : 48 ≤ c) (hlt : Mp ≤ num bs) :
    Calls Tryd.prog 71 #[.slice A 48 c] w fun e w' => e = .returned (.tuple #[pv 0, .int .i64 12]) ∧ Below w.heap.size w w' := by
  have hl : bs.length = 48 := by simpa using hr.1
  obtain ⟨b, o, rfl, hb, -⟩ := hr.2 (by omega)
  have HG := Lib.hid hG
  have HS := Lib.hid hS
  have h4 := num_six bs hl
  have hpart : ∀ k, k + 8 ≤ 48 → Reads w w.heap.size (some ⟨b, o + k, none⟩) 8 (((bs.drop k).take 8).map (Value.int .u8)) := fun k hk => by
    have := reads_part hr k 8 hk (by omega)
    rwa [← List.map_drop, ← List.map_take] at this
  have hnum : ∀ k, k + 8 ≤ 48 → ∀ W c', Below w.heap.size w W → Calls Tryd.prog 113 #[.slice (some ⟨b, o + k, none⟩) 8 c'] W fun e w' => e = .returned (.int .u64 (num ((bs.drop k).take 8))) ∧ W = w' := fun k hk W c' hW =>
    fp_number W _ _ 8 c' _ ((hpart k hk).below hW) ((ho.drop k).take 8) (Nat.le_refl _)
  have hrange : ∀ k, k + 8 ≤ 48 → 0 ≤ num ((bs.drop k).take 8) ∧ num ((bs.drop k).take 8) < Wd := fun k hk => by
    have := num_lt _ ((ho.drop k).take 8)
    rw [show ((bs.drop k).take 8).length = 8 by simp; omega] at this
    unfold Wd
    omega
  have hn0 := num_lt bs ho
  obtain ⟨a0, ha0⟩ : ∃ a, a = num ((bs.drop 40).take 8) := ⟨_, rfl⟩
  obtain ⟨a1, ha1⟩ : ∃ a, a = num ((bs.drop 32).take 8) := ⟨_, rfl⟩
  obtain ⟨a2, ha2⟩ : ∃ a, a = num ((bs.drop 24).take 8) := ⟨_, rfl⟩
  obtain ⟨a3, ha3⟩ : ∃ a, a = num ((bs.drop 16).take 8) := ⟨_, rfl⟩
  obtain ⟨a4, ha4⟩ : ∃ a, a = num ((bs.drop 8).take 8) := ⟨_, rfl⟩
  obtain ⟨a5, ha5⟩ : ∃ a, a = num ((bs.drop 0).take 8) := ⟨_, rfl⟩
  have n0 := hnum 40 (by omega)
  have n1 := hnum 32 (by omega)
  have n2 := hnum 24 (by omega)
  have n3 := hnum 16 (by omega)
  have n4 := hnum 8 (by omega)
  have n5 := hnum 0 (by omega)
  have r0 := hrange 40 (by omega)
  have r1 := hrange 32 (by omega)
  have r2 := hrange 24 (by omega)
  have r3 := hrange 16 (by omega)
  have r4 := hrange 8 (by omega)
  have r5 := hrange 0 (by omega)
  rw [← ha0] at n0 r0
  rw [← ha1] at n1 r1
  rw [← ha2] at n2 r2
  rw [← ha3] at n3 r3
  rw [← ha4] at n4 r4
  rw [← ha5] at n5 r5
  rw [← ha0, ← ha1, ← ha2, ← ha3, ← ha4, ← ha5] at h4
  obtain ⟨x, hx⟩ : ∃ x, x = num bs := ⟨_, rfl⟩
  rw [← hx] at h4 hlt hn0
  have hagg := arr6_of a0 a1 a2 a3 a4 a5 x r0 r1 r2 r3 r4 r5 h4
  have hM := Mp_lo
  have N0 := Lib.hid n0
  have N1 := Lib.hid n1
  have N2 := Lib.hid n2
  have N3 := Lib.hid n3
  have N4 := Lib.hid n4
  rw [Nat.add_zero] at n5
  have N5 := Lib.hid n5
  have AG := Lib.hid hagg
  have XL := Lib.hid (show 0 ≤ x ∧ Mp ≤ x ∧ x < Wd ^ 6 ∧ 0 ≤ Mp by refine ⟨by omega, by omega, ?_, by omega⟩; have hq := hn0.2; rw [hl] at hq; exact Int.lt_of_lt_of_le hq (by unfold Wd; decide))
  clear hnum hpart hrange n0 n1 n2 n3 n4 n5 r0 r1 r2 r3 r4 r5 ha0 ha1 ha2 ha3 ha4 ha5 h4 hx hagg hM hlt hn0 hl hG hS hr ho
  have i1 : (48 : Int) ≤ c := by omega
  go_enter Tryd.func71, Tryd.ntmps71
  go_wp2_with fail
  refine wp_loop_rounds 7 ?_
  rw [rounds_succ]
  go_wp2_with fail
  refine (N0.out _ _ (by repeat (first | (with_reducible exact Below.refl _ _) | (with_reducible refine Below.drew ?_) | (with_reducible refine Below.alloc ?_ (by simp; try omega) _)))).mono ?_
  rintro e w' ⟨rfl, rfl⟩
  go_wp2_with fail
  rw [rounds_succ]
  go_wp2_with fail
  refine (N1.out _ _ (by repeat (first | (with_reducible exact Below.refl _ _) | (with_reducible refine Below.drew ?_) | (with_reducible refine Below.alloc ?_ (by simp; try omega) _)))).mono ?_
  rintro e w' ⟨rfl, rfl⟩
  go_wp2_with fail
  rw [rounds_succ]
  go_wp2_with fail
  refine (N2.out _ _ (by repeat (first | (with_reducible exact Below.refl _ _) | (with_reducible refine Below.drew ?_) | (with_reducible refine Below.alloc ?_ (by simp; try omega) _)))).mono ?_
  rintro e w' ⟨rfl, rfl⟩
  go_wp2_with fail
  rw [rounds_succ]
  go_wp2_with fail
  refine (N3.out _ _ (by repeat (first | (with_reducible exact Below.refl _ _) | (with_reducible refine Below.drew ?_) | (with_reducible refine Below.alloc ?_ (by simp; try omega) _)))).mono ?_
  rintro e w' ⟨rfl, rfl⟩
  go_wp2_with fail
  rw [rounds_succ]
  go_wp2_with fail
  refine (N4.out _ _ (by repeat (first | (with_reducible exact Below.refl _ _) | (with_reducible refine Below.drew ?_) | (with_reducible refine Below.alloc ?_ (by simp; try omega) _)))).mono ?_
  rintro e w' ⟨rfl, rfl⟩
  go_wp2_with fail
  rw [rounds_succ]
  go_wp2_with fail
  refine (N5.out _ _ (by repeat (first | (with_reducible exact Below.refl _ _) | (with_reducible refine Below.drew ?_) | (with_reducible refine Below.alloc ?_ (by simp; try omega) _)))).mono ?_
  rintro e w' ⟨rfl, rfl⟩
  go_wp2_with fail
  obtain ⟨g0, g1, g2, g3, g4, g5⟩ := HG.out
  have g9 := World.block_lt_of_cell? w _ g0
  have g10 : 0 < w.heap.size := by omega
  rw [rounds_succ]
  go_wp2_with fail
  rw [AG.out]
  refine (fp_below_ge x Mp _ XL.out.1 XL.out.2.2.1 XL.out.2.2.2 XL.out.2.1).mono ?_
  rintro e w1 ⟨rfl, hB⟩
  clear g0 g1 g2 g3 g4 g5 g9
  obtain ⟨f0, f1, f2, f3, f4, f5, z0, z1, z2, z3, z4, z5, hg⟩ := res6 (t := 35) (c0 := .int .u64 0) (c1 := .int .u64 0) (c2 := .int .u64 0) (c3 := .int .u64 0) (c4 := .int .u64 0) (c5 := .int .u64 0) ((Blk.new w _ _).alloc _) hB
  have hW : Below w.heap.size w w1 := Below.trans (by repeat (first | (with_reducible exact Below.refl _ _) | (with_reducible refine Below.drew ?_) | (with_reducible refine Below.alloc ?_ (by simp; try omega) _))) (hB.mono (by simp; try omega))
  have HW := Lib.hid hW
  clear hB hW
  go_wp2_with fail
  refine bodyPost_ret (v := .tuple #[pv 0, .int .i64 12]) (by rw [show pv 0 = arr6 0 by unfold pv; rw [pe_zero]]; simp [arr6, results, Tryd.results71, go_sem, wd, f0, f1, f2, f3, f4, f5]) rfl ⟨rfl, ?_⟩
  exact ((((((HW.out.setCell (Nat.le_refl _) _).setCell (Nat.le_refl _) _).setCell (Nat.le_refl _) _).setCell (Nat.le_refl _) _).setCell (Nat.le_refl _) _).setCell (Nat.le_refl _) _)
end Go.Proofs.YtialfoccalobpaaDoor
namespace Go.Proofs.YtialfoccalobpaaDoor
set_option linter.unusedSimpArgs false
set_option linter.unusedVariables false
open Go.RowKit
theorem u8_zs : (Tryd.prog.info? 5).map (fun i => (i.zero, i.size)) = some (some (.int .u8 0), 1) := by kernel_rfl
theorem bfill8 (b0 b1 b2 b3 b4 b5 b6 b7 : Int) : Instr.fill (fun i => some (i * 1, 1)) (Array.map (fun x => (Value.int IntKind.u8 0).cells[x % (Value.int IntKind.u8 0).cells.size]!) (Array.range (8 * 1)))
    [(0, Value.int IntKind.u8 b0), (1, Value.int IntKind.u8 b1), (2, Value.int IntKind.u8 b2), (3, Value.int IntKind.u8 b3), (4, Value.int IntKind.u8 b4), (5, Value.int IntKind.u8 b5), (6, Value.int IntKind.u8 b6), (7, Value.int IntKind.u8 b7)] = some (ag8 [b0, b1, b2, b3, b4, b5, b6, b7]) := by
  have e : Array.map (fun x => (Value.int IntKind.u8 0).cells[x % (Value.int IntKind.u8 0).cells.size]!) (Array.range (8 * 1)) = Array.replicate 8 (.int .u8 0) := by kernel_rfl
  rw [e]
  simp [Instr.fill, ag8, Value.cells, Array.replicate]
section
variable {ops : Array Oper} {late : List Nat} {R : Act → World → Prop} {v : World} {L L0 : List (Nat × TypeId × Array Value)} {n : Nat} {sl : List (Nat × Value)}
theorem wpOp_runG {P : Program} {Q : Exit → Act → World → Prop} {i : Nat} {o : Oper} {a : Act} {w w' : World} {u : Value} {K : Act → World → Prop} (hi : ops[i]? = some o) (hw : Region.wanted o (yielded ops a.tmps) = true)
    (hrun : (execOp a.eval o).run P w = .ok (.value u) w') (hK : K (a.put o.dst u) w') : Go.wpOp P ops Q i K a w := by
  unfold Go.wpOp
  simp only [hi]
  simp only [hw, if_true]
  refine .inl ?_
  unfold Oper.wp
  rw [hrun]
  exact hK
/-- Eight bytes, as a slice. -/
theorem L_build8 {i d : Nat} {il : List Nat} {ty : TypeId} {pos : String} {after : Array Edge} {gd : Option (Nat × Bool)} {p0 p1 p2 p3 p4 p5 p6 p7 : Operand} (b0 b1 b2 b3 b4 b5 b6 b7 : Int)
    (hi : ops[i]? = some ⟨some d, .buildSlice 22 8 #[(0, p0), (1, p1), (2, p2), (3, p3), (4, p4), (5, p5), (6, p6), (7, p7)], ty, pos, after, gd⟩) (hl : inFr n sl = true) (hw : Want ops n sl gd)
    (h0 : rho sl p0 = .int .u8 b0) (h1 : rho sl p1 = .int .u8 b1) (h2 : rho sl p2 = .int .u8 b2) (h3 : rho sl p3 = .int .u8 b3) (h4 : rho sl p4 = .int .u8 b4) (h5 : rho sl p5 = .int .u8 b5) (h6 : rho sl p6 = .int .u8 b6) (h7 : rho sl p7 = .int .u8 b7)
    (h : ∀ g, wpL Tryd.prog ops R il (fr n ((d, .slice (some ⟨g, 0, none⟩) 8 8) :: sl)) (Hbl v ((g, 5, ag8 [b0, b1, b2, b3, b4, b5, b6, b7]) :: L))) : wpL Tryd.prog ops R (i :: il) (fr n sl) (Hbl v L) := fun w hS => by
  obtain ⟨ie, he, hz⟩ := Option.map_eq_some_iff.1 u8_zs
  simp only [Prod.mk.injEq] at hz
  have hrun : (Instr.buildSlice 22 8 (#[(0, p0), (1, p1), (2, p2), (3, p3), (4, p4), (5, p5), (6, p6), (7, p7)].map fun x => (x.1, rho sl x.2))).run Tryd.prog w = .ok (.slice (some ⟨w.heap.size, 0, none⟩) 8 8) (w.alloc (.cells (ag8 [b0, b1, b2, b3, b4, b5, b6, b7]) 5)) := by
    refine run_buildSlice w _ _ 8 _ _ ie (.int .u8 0) und_u8s he hz.1 (by rw [hz.2]; decide) (by rw [hz.2]; decide) ?_
    rw [hz.2]
    simp only [List.map_toArray, List.map_cons, List.map_nil, h0, h1, h2, h3, h4, h5, h6, h7]
    exact bfill8 ..
  exact wpOp_runG (w' := w.alloc (.cells (ag8 [b0, b1, b2, b3, b4, b5, b6, b7]) 5)) hi (hw ..) (by rw [fr_eval n sl hl]; simp only [execOp, Sem.run_bind]; rw [hrun]; rfl) ⟨_, Hbl.stays v _, hS.alloc 5 (ag8 [b0, b1, b2, b3, b4, b5, b6, b7]), h _⟩
end
theorem lo8 (n : Int) : [n / 72057594037927936 % 256, n / 281474976710656 % 256, n / 1099511627776 % 256, n / 4294967296 % 256, n / 16777216 % 256, n / 65536 % 256, n / 256 % 256, n % 256] = lo n 8 := by
  simp only [lo]
  simp
theorem u8wrap (a : Int) : IntKind.u8.wrap a = a % 256 := by simp [IntKind.wrap, IntKind.bits, IntKind.signed]
theorem shr64 (a : Int) (s : Nat) (p : Int) (hs : s ≤ 64) (hp : (2 : Int) ^ s = p) : a.fdiv (2 ^ (min ((s : Int)).toNat IntKind.u64.bits)) = a / p := by
  have e : min ((s : Int)).toNat IntKind.u64.bits = s := by show min _ 64 = s; omega
  rw [e, hp, Int.fdiv_eq_ediv_of_nonneg _ (by rw [← hp]; exact Int.le_of_lt (Int.pow_pos (by omega)))]
theorem num_lo8 (n : Int) (h0 : 0 ≤ n) (h : n < Wd) : num (lo n 8) = n := by
  rw [num_lo, Int.emod_eq_of_lt h0]
  unfold Wd at h
  simpa using h
section
variable {P : Program} {S : World → Prop}
theorem gives_eqbb {l : List (Nat × Value)} {dst : Option Tmp} {t ct ty : TypeId} {x y : Operand} {pos : String} {after : Array Edge} {gd : Option (Nat × Bool)} (a b : Bool) (hx : rho l x = .bool a) (hy : rho l y = .bool b)
    (ht : P.underlying t = some .bool) (h : a = b) : Gives P S (.bool true) (execOp (rho l) ⟨dst, .binOp .eql t x y ct, ty, pos, after, gd⟩) := gives_value _ fun w => by
  subst h
  have h' : (Op.equal t (.bool a) (.bool a)).run P w = .ok true w := by
    unfold Op.equal
    rw [show Op.maxDepth = 9999 + 1 from rfl, run_equalIn_bool w 9999 t a a ht]
    simp
  simp [execOp, hx, hy, eqGuard, binOp, h']
end
theorem gb0_fp {S : World → Prop} {l : List (Nat × Value)} {dst : Option Nat} {ty : TypeId} {pos : String} {after : Array Edge} {gd : Option (Nat × Bool)} : Gives Tryd.prog S (.agg (pc 0)) (execOp (rho l) ⟨dst, .build 35 #[], ty, pos, after, gd⟩) := gives_value _ fun w => by
  have h : (Instr.build 35 #[]).run Tryd.prog w = .ok (.agg (pc 0)) w := by rw [pc_zero]; kernel_rfl
  simp [execOp, h]
theorem rng8 {n : Int} (h0 : 0 ≤ n) (h : n < Wd) : 0 ≤ n ∧ n < 65536 ^ 4 := ⟨h0, by unfold Wd at h; simpa using h⟩
theorem of_mod {n M : Int} (h0 : 0 ≤ n) (h : n < M) : n % M = n := Int.emod_eq_of_lt h0 h
theorem Wd_Mp : Wd < Mp := by unfold Wd Mp; decide
theorem of_val {k : Int} (h0 : 0 ≤ k) (h : k < Mp) : ((Fp.n k).val : Int) = k := by rw [Fp.n_val]; exact of_mod h0 h
theorem v_read_field (A : Option Addr) (c : Nat) (bs : List Int) (w : World) (hG : Glo w) (hr : Reads w w.heap.size A 48 (bs.map (Value.int .u8))) (ho : Oct bs) (hc : 48 ≤ c) (h : Mp ≤ num bs) : Rets 71 #[.slice A 48 c] w (.tuple #[.agg (pc 0), .int .i64 12]) := by
  have h := fp_read_field w hG.m hG.s A c bs hr ho hc h
  rw [pv_n, Fp.n_zero] at h
  exact h
theorem v_read_ok (A : Option Addr) (c : Nat) (bs : List Int) (w : World) (hG : Glo w) (hr : Reads w w.heap.size A 48 (bs.map (Value.int .u8))) (ho : Oct bs) (hc : 48 ≤ c) (h : num bs < Mp) : Rets 71 #[.slice A 48 c] w (.tuple #[.agg (pc (Fp.n (num bs))), .int .i64 0]) := by
  have h := fp_read_ok w hG.m hG.s A c bs hr ho hc h
  rw [pv_n] at h
  exact h
theorem v_zero_z (w : World) (hG : Glo w) : Rets 135 #[.agg (pc 0)] w (.bool true) := by
  have h := v_zero 0 w hG
  rwa [decide_eq_true rfl] at h
theorem z_iff {k : Int} (h0 : 0 ≤ k) (h : k < Mp) : Fp.n k = 0 ↔ k = 0 := by
  rw [← Fp.n_zero, Fp.n_inj, Int.zero_emod, of_mod h0 h]
theorem n_less (w : World) (A0 : Option Addr) (n0 c0 : Nat) (a : Int) (A1 : Option Addr) (n1 c1 : Nat) (b : Int) (ha : NumAt w A0 n0 a) (hb : NumAt w A1 n1 b) (r : Bool) (h : decide (a < b) = r) : Rets 57 #[.slice A0 n0 c0, .slice A1 n1 c1] w (.bool r) := by
  have s0 := ha.sz
  have s1 := hb.sz
  have e := r3_less w A0 n0 c0 _ A1 n1 c1 _ ha.rd hb.rd (wl_w16 _ _) (wl_w16 _ _) (by omega) (by omega)
  rw [ha.va, hb.va, h] at e
  exact e
end Go.Proofs.YtialfoccalobpaaDoor
