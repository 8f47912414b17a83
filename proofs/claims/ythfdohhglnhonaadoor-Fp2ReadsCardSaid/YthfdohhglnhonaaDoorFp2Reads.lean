/-
  FpErr, FlowE, Fa, Fm, Fb, Fr2, Fc2, Fq, in one text.
-/
import Derived.Test.YthfdohhglnhonaaDoorR3Z
import Derived.Test.YthfdohhglnhonaaDoorA5
/-! ## FpErr -/
namespace Go.Proofs.YthfdohhglnhonaaDoor
open Go.RowKit
set_option maxRecDepth 100000 in
set_option maxHeartbeats 4000000 in
theorem fp_read_field (w : World) (hG : GMp w) (hS : GSqp w) (A : Option Addr) (c : Nat) (bs : List Int) (hr : Reads w w.heap.size A 48 (bs.map (Value.int .u8))) (ho : Oct bs) (hc : 48 ≤ c) (hlt : Mp ≤ num bs) :
    Calls Tryd.prog 50 #[.slice A 48 c] w fun e w' => e = .returned (.tuple #[pv 0, .int .i64 12]) ∧ Below w.heap.size w w' := by
  have hl : bs.length = 48 := by simpa using hr.1
  obtain ⟨b, o, rfl, hb, -⟩ := hr.2 (by omega)
  have HG := Lib.hid hG
  have HS := Lib.hid hS
  have h4 := num_six bs hl
  have hpart : ∀ k, k + 8 ≤ 48 → Reads w w.heap.size (some ⟨b, o + k, none⟩) 8 (((bs.drop k).take 8).map (Value.int .u8)) := fun k hk => by
    have := reads_part hr k 8 hk (by omega)
    rwa [← List.map_drop, ← List.map_take] at this
  have hnum : ∀ k, k + 8 ≤ 48 → ∀ W c', Below w.heap.size w W → Calls Tryd.prog 70 #[.slice (some ⟨b, o + k, none⟩) 8 c'] W fun e w' => e = .returned (.int .u64 (num ((bs.drop k).take 8))) ∧ W = w' := fun k hk W c' hW =>
    fp_number W _ _ 8 c' _ ((hpart k hk).below hW) ((ho.drop k).take 8) (Nat.le_refl _)
  have hrange : ∀ k, k + 8 ≤ 48 → 0 ≤ num ((bs.drop k).take 8) ∧ num ((bs.drop k).take 8) < Wd := fun k hk => by
    have := num_lt _ ((ho.drop k).take 8)
    rw [show ((bs.drop k).take 8).length = 8 by simp; omega] at this
    unfold Wd
    omega
  have hn0 := num_lt bs ho
  obtain ⟨a0, ha0⟩ : ∃ a, a = num ((bs.drop 40).take 8) := ⟨_, rfl⟩
  obtain ⟨a1, ha1⟩ : ∃ a, a = num ((bs.drop 32).take 8) := ⟨_, rfl⟩
  obtain ⟨a2, ha2⟩ : ∃ a, a = num ((bs.drop 24).take 8) := ⟨_, rfl⟩
  obtain ⟨a3, ha3⟩ : ∃ a, a = num ((bs.drop 16).take 8) := ⟨_, rfl⟩
  obtain ⟨a4, ha4⟩ : ∃ a, a = num ((bs.drop 8).take 8) := ⟨_, rfl⟩
  obtain ⟨a5, ha5⟩ : ∃ a, a = num ((bs.drop 0).take 8) := ⟨_, rfl⟩
  have n0 := hnum 40 (by omega)
  have n1 := hnum 32 (by omega)
  have n2 := hnum 24 (by omega)
  have n3 := hnum 16 (by omega)
  have n4 := hnum 8 (by omega)
  have n5 := hnum 0 (by omega)
  have r0 := hrange 40 (by omega)
  have r1 := hrange 32 (by omega)
  have r2 := hrange 24 (by omega)
  have r3 := hrange 16 (by omega)
  have r4 := hrange 8 (by omega)
  have r5 := hrange 0 (by omega)
  rw [← ha0] at n0 r0
  rw [← ha1] at n1 r1
  rw [← ha2] at n2 r2
  rw [← ha3] at n3 r3
  rw [← ha4] at n4 r4
  rw [← ha5] at n5 r5
  rw [← ha0, ← ha1, ← ha2, ← ha3, ← ha4, ← ha5] at h4
  obtain ⟨x, hx⟩ : ∃ x, x = num bs := ⟨_, rfl⟩
  rw [← hx] at h4 hlt hn0
  have hagg := arr6_of a0 a1 a2 a3 a4 a5 x r0 r1 r2 r3 r4 r5 h4
  have hM := Mp_lo
  have N0 := Lib.hid n0
  have N1 := Lib.hid n1
  have N2 := Lib.hid n2
  have N3 := Lib.hid n3
  have N4 := Lib.hid n4
  rw [Nat.add_zero] at n5
  have N5 := Lib.hid n5
  have AG := Lib.hid hagg
  have XL := Lib.hid (show 0 ≤ x ∧ Mp ≤ x ∧ x < Wd ^ 6 ∧ 0 ≤ Mp by refine ⟨by omega, by omega, ?_, by omega⟩; have hq := hn0.2; rw [hl] at hq; exact Int.lt_of_lt_of_le hq (by unfold Wd; decide))
  clear hnum hpart hrange n0 n1 n2 n3 n4 n5 r0 r1 r2 r3 r4 r5 ha0 ha1 ha2 ha3 ha4 ha5 h4 hx hagg hM hlt hn0 hl hG hS hr ho
  have i1 : (48 : Int) ≤ c := by omega
  go_enter Tryd.func50, Tryd.ntmps50
  go_wp2_with fail
  refine wp_loop_rounds 7 ?_
  rw [rounds_succ]
  go_wp2_with fail
  refine (N0.out _ _ (by repeat (first | (with_reducible exact Below.refl _ _) | (with_reducible refine Below.drew ?_) | (with_reducible refine Below.alloc ?_ (by simp; try omega) _)))).mono ?_
  rintro e w' ⟨rfl, rfl⟩
  go_wp2_with fail
  rw [rounds_succ]
  go_wp2_with fail
  refine (N1.out _ _ (by repeat (first | (with_reducible exact Below.refl _ _) | (with_reducible refine Below.drew ?_) | (with_reducible refine Below.alloc ?_ (by simp; try omega) _)))).mono ?_
  rintro e w' ⟨rfl, rfl⟩
  go_wp2_with fail
  rw [rounds_succ]
  go_wp2_with fail
  refine (N2.out _ _ (by repeat (first | (with_reducible exact Below.refl _ _) | (with_reducible refine Below.drew ?_) | (with_reducible refine Below.alloc ?_ (by simp; try omega) _)))).mono ?_
  rintro e w' ⟨rfl, rfl⟩
  go_wp2_with fail
  rw [rounds_succ]
  go_wp2_with fail
  refine (N3.out _ _ (by repeat (first | (with_reducible exact Below.refl _ _) | (with_reducible refine Below.drew ?_) | (with_reducible refine Below.alloc ?_ (by simp; try omega) _)))).mono ?_
  rintro e w' ⟨rfl, rfl⟩
  go_wp2_with fail
  rw [rounds_succ]
  go_wp2_with fail
  refine (N4.out _ _ (by repeat (first | (with_reducible exact Below.refl _ _) | (with_reducible refine Below.drew ?_) | (with_reducible refine Below.alloc ?_ (by simp; try omega) _)))).mono ?_
  rintro e w' ⟨rfl, rfl⟩
  go_wp2_with fail
  rw [rounds_succ]
  go_wp2_with fail
  refine (N5.out _ _ (by repeat (first | (with_reducible exact Below.refl _ _) | (with_reducible refine Below.drew ?_) | (with_reducible refine Below.alloc ?_ (by simp; try omega) _)))).mono ?_
  rintro e w' ⟨rfl, rfl⟩
  go_wp2_with fail
  obtain ⟨g0, g1, g2, g3, g4, g5⟩ := HG.out
  have g9 := World.block_lt_of_cell? w _ g0
  have g10 : 0 < w.heap.size := by omega
  rw [rounds_succ]
  go_wp2_with fail
  rw [AG.out]
  refine (fp_below_ge x Mp _ XL.out.1 XL.out.2.2.1 XL.out.2.2.2 XL.out.2.1).mono ?_
  rintro e w1 ⟨rfl, hB⟩
  clear g0 g1 g2 g3 g4 g5 g9
  obtain ⟨f0, f1, f2, f3, f4, f5, z0, z1, z2, z3, z4, z5, hg⟩ := res6 (t := 28) (c0 := .int .u64 0) (c1 := .int .u64 0) (c2 := .int .u64 0) (c3 := .int .u64 0) (c4 := .int .u64 0) (c5 := .int .u64 0) ((Blk.new w _ _).alloc _) hB
  have hW : Below w.heap.size w w1 := Below.trans (by repeat (first | (with_reducible exact Below.refl _ _) | (with_reducible refine Below.drew ?_) | (with_reducible refine Below.alloc ?_ (by simp; try omega) _))) (hB.mono (by simp; try omega))
  have HW := Lib.hid hW
  clear hB hW
  go_wp2_with fail
  refine bodyPost_ret (v := .tuple #[pv 0, .int .i64 12]) (by rw [show pv 0 = arr6 0 by unfold pv; rw [pe_zero]]; simp [arr6, results, Tryd.results50, go_sem, wd, f0, f1, f2, f3, f4, f5]) rfl ⟨rfl, ?_⟩
  exact ((((((HW.out.setCell (Nat.le_refl _) _).setCell (Nat.le_refl _) _).setCell (Nat.le_refl _) _).setCell (Nat.le_refl _) _).setCell (Nat.le_refl _) _).setCell (Nat.le_refl _) _)
end Go.Proofs.YthfdohhglnhonaaDoor
namespace Go.Proofs.YthfdohhglnhonaaDoor
set_option linter.unusedSimpArgs false
set_option linter.unusedVariables false
open Go.RowKit
theorem u8_zs : (Tryd.prog.info? 5).map (fun i => (i.zero, i.size)) = some (some (.int .u8 0), 1) := by kernel_rfl
theorem bfill8 (b0 b1 b2 b3 b4 b5 b6 b7 : Int) : Instr.fill (fun i => some (i * 1, 1)) (Array.map (fun x => (Value.int IntKind.u8 0).cells[x % (Value.int IntKind.u8 0).cells.size]!) (Array.range (8 * 1)))
    [(0, Value.int IntKind.u8 b0), (1, Value.int IntKind.u8 b1), (2, Value.int IntKind.u8 b2), (3, Value.int IntKind.u8 b3), (4, Value.int IntKind.u8 b4), (5, Value.int IntKind.u8 b5), (6, Value.int IntKind.u8 b6), (7, Value.int IntKind.u8 b7)] = some (ag8 [b0, b1, b2, b3, b4, b5, b6, b7]) := by
  have e : Array.map (fun x => (Value.int IntKind.u8 0).cells[x % (Value.int IntKind.u8 0).cells.size]!) (Array.range (8 * 1)) = Array.replicate 8 (.int .u8 0) := by kernel_rfl
  rw [e]
  simp [Instr.fill, ag8, Value.cells, Array.replicate]
section
variable {ops : Array Oper} {late : List Nat} {R : Act → World → Prop} {v : World} {L L0 : List (Nat × TypeId × Array Value)} {n : Nat} {sl : List (Nat × Value)}
theorem wpOp_runG {P : Program} {Q : Exit → Act → World → Prop} {i : Nat} {o : Oper} {a : Act} {w w' : World} {u : Value} {K : Act → World → Prop} (hi : ops[i]? = some o) (hw : Region.wanted o (yielded ops a.tmps) = true)
    (hrun : (execOp a.eval o).run P w = .ok (.value u) w') (hK : K (a.put o.dst u) w') : Go.wpOp P ops Q i K a w := by
  unfold Go.wpOp
  simp only [hi]
  simp only [hw, if_true]
  refine .inl ?_
  unfold Oper.wp
  rw [hrun]
  exact hK
/-- Eight bytes, as a slice. -/
theorem L_build8 {i d : Nat} {il : List Nat} {ty : TypeId} {pos : String} {after : Array Edge} {gd : Option (Nat × Bool)} {p0 p1 p2 p3 p4 p5 p6 p7 : Operand} (b0 b1 b2 b3 b4 b5 b6 b7 : Int)
    (hi : ops[i]? = some ⟨some d, .buildSlice 22 8 #[(0, p0), (1, p1), (2, p2), (3, p3), (4, p4), (5, p5), (6, p6), (7, p7)], ty, pos, after, gd⟩) (hl : inFr n sl = true) (hw : Want ops n sl gd)
    (h0 : rho sl p0 = .int .u8 b0) (h1 : rho sl p1 = .int .u8 b1) (h2 : rho sl p2 = .int .u8 b2) (h3 : rho sl p3 = .int .u8 b3) (h4 : rho sl p4 = .int .u8 b4) (h5 : rho sl p5 = .int .u8 b5) (h6 : rho sl p6 = .int .u8 b6) (h7 : rho sl p7 = .int .u8 b7)
    (h : ∀ g, wpL Tryd.prog ops R il (fr n ((d, .slice (some ⟨g, 0, none⟩) 8 8) :: sl)) (Hbl v ((g, 5, ag8 [b0, b1, b2, b3, b4, b5, b6, b7]) :: L))) : wpL Tryd.prog ops R (i :: il) (fr n sl) (Hbl v L) := fun w hS => by
  obtain ⟨ie, he, hz⟩ := Option.map_eq_some_iff.1 u8_zs
  simp only [Prod.mk.injEq] at hz
  have hrun : (Instr.buildSlice 22 8 (#[(0, p0), (1, p1), (2, p2), (3, p3), (4, p4), (5, p5), (6, p6), (7, p7)].map fun x => (x.1, rho sl x.2))).run Tryd.prog w = .ok (.slice (some ⟨w.heap.size, 0, none⟩) 8 8) (w.alloc (.cells (ag8 [b0, b1, b2, b3, b4, b5, b6, b7]) 5)) := by
    refine run_buildSlice w _ _ 8 _ _ ie (.int .u8 0) und_u8s he hz.1 (by rw [hz.2]; decide) (by rw [hz.2]; decide) ?_
    rw [hz.2]
    simp only [List.map_toArray, List.map_cons, List.map_nil, h0, h1, h2, h3, h4, h5, h6, h7]
    exact bfill8 ..
  exact wpOp_runG (w' := w.alloc (.cells (ag8 [b0, b1, b2, b3, b4, b5, b6, b7]) 5)) hi (hw ..) (by rw [fr_eval n sl hl]; simp only [execOp, Sem.run_bind]; rw [hrun]; rfl) ⟨_, Hbl.stays v _, hS.alloc 5 (ag8 [b0, b1, b2, b3, b4, b5, b6, b7]), h _⟩
end
theorem lo8 (n : Int) : [n / 72057594037927936 % 256, n / 281474976710656 % 256, n / 1099511627776 % 256, n / 4294967296 % 256, n / 16777216 % 256, n / 65536 % 256, n / 256 % 256, n % 256] = lo n 8 := by
  simp only [lo]
  simp
theorem u8wrap (a : Int) : IntKind.u8.wrap a = a % 256 := by simp [IntKind.wrap, IntKind.bits, IntKind.signed]
theorem shr64 (a : Int) (s : Nat) (p : Int) (hs : s ≤ 64) (hp : (2 : Int) ^ s = p) : a.fdiv (2 ^ (min ((s : Int)).toNat IntKind.u64.bits)) = a / p := by
  have e : min ((s : Int)).toNat IntKind.u64.bits = s := by show min _ 64 = s; omega
  rw [e, hp, Int.fdiv_eq_ediv_of_nonneg _ (by rw [← hp]; exact Int.le_of_lt (Int.pow_pos (by omega)))]
theorem num_lo8 (n : Int) (h0 : 0 ≤ n) (h : n < Wd) : num (lo n 8) = n := by
  rw [num_lo, Int.emod_eq_of_lt h0]
  unfold Wd at h
  simpa using h
section
variable {P : Program} {S : World → Prop}
theorem gives_eqbb {l : List (Nat × Value)} {dst : Option Tmp} {t ct ty : TypeId} {x y : Operand} {pos : String} {after : Array Edge} {gd : Option (Nat × Bool)} (a b : Bool) (hx : rho l x = .bool a) (hy : rho l y = .bool b)
    (ht : P.underlying t = some .bool) (h : a = b) : Gives P S (.bool true) (execOp (rho l) ⟨dst, .binOp .eql t x y ct, ty, pos, after, gd⟩) := gives_value _ fun w => by
  subst h
  have h' : (Op.equal t (.bool a) (.bool a)).run P w = .ok true w := by
    unfold Op.equal
    rw [show Op.maxDepth = 9999 + 1 from rfl, run_equalIn_bool w 9999 t a a ht]
    simp
  simp [execOp, hx, hy, eqGuard, binOp, h']
end
theorem gb0_fp {S : World → Prop} {l : List (Nat × Value)} {dst : Option Nat} {ty : TypeId} {pos : String} {after : Array Edge} {gd : Option (Nat × Bool)} : Gives Tryd.prog S (.agg (pc 0)) (execOp (rho l) ⟨dst, .build 28 #[], ty, pos, after, gd⟩) := gives_value _ fun w => by
  have h : (Instr.build 28 #[]).run Tryd.prog w = .ok (.agg (pc 0)) w := by rw [pc_zero]; kernel_rfl
  simp [execOp, h]
theorem rng8 {n : Int} (h0 : 0 ≤ n) (h : n < Wd) : 0 ≤ n ∧ n < 65536 ^ 4 := ⟨h0, by unfold Wd at h; simpa using h⟩
theorem of_mod {n M : Int} (h0 : 0 ≤ n) (h : n < M) : n % M = n := Int.emod_eq_of_lt h0 h
theorem Wd_Mp : Wd < Mp := by unfold Wd Mp; decide
theorem of_val {k : Int} (h0 : 0 ≤ k) (h : k < Mp) : ((Fp.n k).val : Int) = k := by rw [Fp.n_val]; exact of_mod h0 h
theorem v_read_field (A : Option Addr) (c : Nat) (bs : List Int) (w : World) (hG : Glo w) (hr : Reads w w.heap.size A 48 (bs.map (Value.int .u8))) (ho : Oct bs) (hc : 48 ≤ c) (h : Mp ≤ num bs) : Rets 50 #[.slice A 48 c] w (.tuple #[.agg (pc 0), .int .i64 12]) := by
  have h := fp_read_field w hG.m hG.s A c bs hr ho hc h
  rw [pv_n, Fp.n_zero] at h
  exact h
theorem v_read_ok (A : Option Addr) (c : Nat) (bs : List Int) (w : World) (hG : Glo w) (hr : Reads w w.heap.size A 48 (bs.map (Value.int .u8))) (ho : Oct bs) (hc : 48 ≤ c) (h : num bs < Mp) : Rets 50 #[.slice A 48 c] w (.tuple #[.agg (pc (Fp.n (num bs))), .int .i64 0]) := by
  have h := fp_read_ok w hG.m hG.s A c bs hr ho hc h
  rw [pv_n] at h
  exact h
theorem v_zero_z (w : World) (hG : Glo w) : Rets 48 #[.agg (pc 0)] w (.bool true) := by
  have h := v_zero 0 w hG
  rwa [decide_eq_true rfl] at h
theorem z_iff {k : Int} (h0 : 0 ≤ k) (h : k < Mp) : Fp.n k = 0 ↔ k = 0 := by
  rw [← Fp.n_zero, Fp.n_inj, Int.zero_emod, of_mod h0 h]
theorem n_less (w : World) (A0 : Option Addr) (n0 c0 : Nat) (a : Int) (A1 : Option Addr) (n1 c1 : Nat) (b : Int) (ha : NumAt w A0 n0 a) (hb : NumAt w A1 n1 b) (r : Bool) (h : decide (a < b) = r) : Rets 15 #[.slice A0 n0 c0, .slice A1 n1 c1] w (.bool r) := by
  have s0 := ha.sz
  have s1 := hb.sz
  have e := r3_less w A0 n0 c0 _ A1 n1 c1 _ ha.rd hb.rd (wl_w16 _ _) (wl_w16 _ _) (by omega) (by omega)
  rw [ha.va, hb.va, h] at e
  exact e
theorem n_same3 (w : World) (A0 : Option Addr) (n0 c0 : Nat) (a : Int) (A1 : Option Addr) (n1 c1 : Nat) (b : Int) (ha : NumAt w A0 n0 a) (hb : NumAt w A1 n1 b) : Rets 39 #[.slice A0 n0 c0, .slice A1 n1 c1] w (.bool (decide (a = b))) := by
  have s0 := ha.sz
  have s1 := hb.sz
  have e := r3_same w A0 n0 c0 _ A1 n1 c1 _ ha.rd hb.rd (wl_w16 _ _) (wl_w16 _ _) (by omega) (by omega)
  rw [ha.va, hb.va] at e
  exact e
end Go.Proofs.YthfdohhglnhonaaDoor

/-! ## FlowE -/
namespace Go.Proofs.YthfdohhglnhonaaDoor
set_option linter.unusedSimpArgs false
set_option linter.unusedVariables false
open Go.RowKit
section
variable {P : Program}
/-- What the fields' comparisons come to. -/
inductive EqFs (P : Program) (w : World) (d : Nat) (xs ys : Array Value) : List Field → Bool → Prop
  | nil : EqFs P w d xs ys [] true
  | cons {f : Field} {fs : List Field} {a b : Value} {r r' : Bool} (hn : (f.name == "_") = false) (ha : (part f.type xs f.offset).run P w = .ok a w) (hb : (part f.type ys f.offset).run P w = .ok b w)
      (he : (Op.equalIn d f.type a b).run P w = .ok r w) (ht : EqFs P w d xs ys fs r') : EqFs P w d xs ys (f :: fs) (r && r')
theorem run_equalIn_struct (d : Nat) (w : World) (t : TypeId) (fs : Array Field) (xs ys : Array Value) (ht : P.underlying t = some (.struct fs)) (hs : P.stoodInHeld t = false) (r : Bool) (h : EqFs P w d xs ys fs.toList r) :
    (Op.equalIn (d + 1) t (.agg xs) (.agg ys)).run P w = .ok r w := by
  unfold Op.equalIn
  simp only [Sem.run_bind, run_underlying ht, run_program, Result.andThen_ok, hs, Bool.false_eq_true, if_false]
  rw [← Array.forIn_toList]
  generalize fs.toList = l at h
  induction h with
  | nil => simp
  | @cons f fs a b r r' hn ha hb he ht ih =>
    have hn' : f.name ≠ "_" := by simpa using hn
    rw [List.forIn_cons]
    cases r with
    | true =>
      simp only [Sem.run_bind, hn', ne_eq, not_false_eq_true, if_true, ha, hb, he, Result.andThen_ok, Bool.not_true, Bool.false_eq_true, if_false, Sem.run_pure, Bool.true_and]
      simp only [ne_eq] at ih
      exact ih
    | false =>
      simp [Sem.run_bind, hn', ha, hb, he]
theorem run_part_agg (w : World) (ty : TypeId) (cs sub : Array Value) (o : Nat) (d : TypeDesc) (hu : P.underlying ty = some d) (hd : (match d with | .struct _ | .array _ _ => true | _ => false) = true) (hi : (P.info? ty).map (·.size) = some sub.size)
    (hs : cs.extract o (o + sub.size) = sub) : (part ty cs o).run P w = .ok (.agg sub) w := by
  cases hq : P.info? ty with
  | none => simp [hq] at hi
  | some i =>
    have hsz : i.size = sub.size := by simpa [hq] using hi
    have hagg : (isAgg ty).run P w = .ok true w := by
      unfold isAgg
      rw [Sem.run_bind, run_underlying hu w]
      cases d <;> simp_all
    simp [part, Sem.run_bind, hagg, sizeOf, typeInfo, hq, hsz, hs]
theorem ext_left (a b : Array Value) (n : Nat) (h : a.size = n) : (a ++ b).extract 0 (0 + n) = a := by
  subst h; simp [Array.extract_append]
theorem ext_right (a b : Array Value) (n m : Nat) (h : a.size = n) (hm : b.size = m) : (a ++ b).extract n (n + m) = b := by
  subst h hm; simp [Array.extract_append]
theorem ext_mid (a b c : Array Value) (n m : Nat) (h : a.size = n) (hm : b.size = m) : (a ++ (b ++ c)).extract n (n + m) = b := by
  subst h hm; simp [Array.extract_append]
theorem ext_last (a b c : Array Value) (n m k : Nat) (h : a.size = n) (hm : b.size = m) (hk : c.size = k) (q : Nat) (hq : n + m = q) : (a ++ (b ++ c)).extract q (q + k) = c := by
  rw [← Array.append_assoc]
  exact ext_right (a ++ b) c q k (by simp; omega) hk
end
theorem und_arr6 : Tryd.prog.underlying 26 = some (.array 6 25) := by kernel_rfl
theorem und_u64 : Tryd.prog.underlying 25 = some (.int .u64) := by kernel_rfl
theorem hi_arr6 (x : Fp) : (Tryd.prog.info? 26).map (·.size) = some (pc x).size := by rw [pc_size]; kernel_rfl
theorem pc_wd (x : Fp) (i : Nat) (hi : i < 6) : (pc x)[i]? = some (.int .u64 (wd (fe Mp (Wd ^ 6) x.val) i)) := by
  match i, hi with
  | 0, _ | 1, _ | 2, _ | 3, _ | 4, _ | 5, _ => rfl
theorem eq_arr6 (x y : Fp) (d : Nat) (w : World) : (Op.equalIn (d + 1 + 1) 26 (.agg (pc x)) (.agg (pc y))).run Tryd.prog w = .ok (decide (x = y)) w := by
  refine run_equalIn_arr d w _ _ 6 .u64 _ _ und_arr6 und_u64 size23 (fun i hi => ⟨_, _, pc_wd x i hi, pc_wd y i hi⟩) _ ?_
  rw [decide_eq_true_iff]
  constructor
  · rintro rfl i _; rfl
  · intro h
    have hM := Mp_lo
    have h0 := h 0 (by omega)
    have h1 := h 1 (by omega)
    have h2 := h 2 (by omega)
    have h3 := h 3 (by omega)
    have h4 := h 4 (by omega)
    have h5 := h 5 (by omega)
    simp only [pc_wd x _ (show 0 < 6 by omega), pc_wd x _ (show 1 < 6 by omega), pc_wd x _ (show 2 < 6 by omega), pc_wd x _ (show 3 < 6 by omega), pc_wd x _ (show 4 < 6 by omega), pc_wd x _ (show 5 < 6 by omega), pc_wd y _ (show 0 < 6 by omega), pc_wd y _ (show 1 < 6 by omega), pc_wd y _ (show 2 < 6 by omega), pc_wd y _ (show 3 < 6 by omega), pc_wd y _ (show 4 < 6 by omega), pc_wd y _ (show 5 < 6 by omega), Option.some.injEq, Value.int.injEq, true_and] at h0 h1 h2 h3 h4 h5
    have px := pe_in x.val
    have py := pe_in y.val
    have e : fe Mp (Wd ^ 6) x.val = fe Mp (Wd ^ 6) y.val := by
      rw [nu6 _ px.1 (by omega), nu6 (fe Mp (Wd ^ 6) y.val) py.1 (by omega), h0, h1, h2, h3, h4, h5]
    have e2 := (fe_inj Rip_ok).1 e
    rw [Fp.val_mod, Fp.val_mod] at e2
    apply Fin.ext
    omega
theorem sh_1 : (Tryd.prog).stoodInHeld 28 = false := by kernel_rfl
theorem sh_2 : (Tryd.prog).stoodInHeld 30 = false := by kernel_rfl
theorem eq_1 (x y : Fp) (d : Nat) (w : World) : (Op.equalIn (d + 1 + 1 + 1) 28 (.agg (pc x)) (.agg (pc y))).run Tryd.prog w = .ok (decide (x = y)) w := by
  refine run_equalIn_struct (d + 1 + 1) w _ _ _ _ Tryd.underlying28 sh_1 _ ?_
  rw [← Bool.and_true (decide (x = y))]
  refine EqFs.cons (fs := []) ?_ (run_part_agg w 26 (pc x) (pc x) 0 _ und_arr6 rfl (hi_arr6 _) (by simp)) (run_part_agg w 26 (pc y) (pc y) 0 _ und_arr6 rfl (hi_arr6 _) (by simp)) (eq_arr6 x y d w) .nil
  kernel_rfl
theorem F2.eq_iff {x y : F2} : x = y ↔ x.a = y.a ∧ x.b = y.b := ⟨fun h => by rw [h]; exact ⟨rfl, rfl⟩, fun h => F2.same h.1 h.2⟩
theorem C3.eq_iff {x y : C3} : x = y ↔ x.a = y.a ∧ x.b = y.b ∧ x.c = y.c := ⟨fun h => by rw [h]; exact ⟨rfl, rfl, rfl⟩, fun h => C3.same h.1 h.2.1 h.2.2⟩
theorem T12.eq_iff {x y : T12} : x = y ↔ x.a = y.a ∧ x.b = y.b := ⟨fun h => by rw [h]; exact ⟨rfl, rfl⟩, fun h => T12.same h.1 h.2⟩
instance : DecidableEq F2 := fun _ _ => decidable_of_iff _ F2.eq_iff.symm
instance : DecidableEq C3 := fun _ _ => decidable_of_iff _ C3.eq_iff.symm
instance : DecidableEq T12 := fun _ _ => decidable_of_iff _ T12.eq_iff.symm
theorem eq_2 (x y : F2) (d : Nat) (w : World) : (Op.equalIn (d + 1 + 1 + 1 + 1) 30 (.agg (c2 x)) (.agg (c2 y))).run Tryd.prog w = .ok (decide (x = y)) w := by
  refine run_equalIn_struct (d + 1 + 1 + 1) w _ _ _ _ Tryd.underlying30 sh_2 _ ?_
  rw [decide_eq_decide.2 F2.eq_iff, Bool.decide_and, ← Bool.and_true (decide (x.b = y.b))]
  refine EqFs.cons ?_ (run_part_agg w 28 (c2 x) (pc x.a) 0 _ Tryd.underlying28 rfl (hi_1 _) (ext_left _ _ 6 (pc_size _))) (run_part_agg w 28 (c2 y) (pc y.a) 0 _ Tryd.underlying28 rfl (hi_1 _) (ext_left _ _ 6 (pc_size _))) (eq_1 x.a y.a d w)
    (EqFs.cons (fs := []) ?_ (run_part_agg w 28 (c2 x) (pc x.b) 6 _ Tryd.underlying28 rfl (hi_1 _) (ext_right _ _ 6 6 (pc_size _) (pc_size _))) (run_part_agg w 28 (c2 y) (pc y.b) 6 _ Tryd.underlying28 rfl (hi_1 _) (ext_right _ _ 6 6 (pc_size _) (pc_size _))) (eq_1 x.b y.b d w) .nil)
  all_goals kernel_rfl
section
variable {P : Program} {S : World → Prop}
theorem gives_eql {l : List (Nat × Value)} {dst : Option Tmp} {t ct ty : TypeId} {x y : Operand} {pos : String} {after : Array Edge} {gd : Option (Nat × Bool)} (A B : Array Value) (r : Bool) (hx : rho l x = .agg A) (hy : rho l y = .agg B)
    (hg : P.eqGuardType P.depth t = false) (h : ∀ w, (Op.equalIn 10000 t (.agg A) (.agg B)).run P w = .ok r w) : Gives P S (.bool r) (execOp (rho l) ⟨dst, .binOp .eql t x y ct, ty, pos, after, gd⟩) := gives_value _ fun w => by
  have h' : (Op.equal t (.agg A) (.agg B)).run P w = .ok r w := h w
  simp [execOp, hx, hy, eqGuard, hg, binOp, h']
theorem gives_neq {l : List (Nat × Value)} {dst : Option Tmp} {t ct ty : TypeId} {x y : Operand} {pos : String} {after : Array Edge} {gd : Option (Nat × Bool)} (A B : Array Value) (r : Bool) (hx : rho l x = .agg A) (hy : rho l y = .agg B)
    (hg : P.eqGuardType P.depth t = false) (h : ∀ w, (Op.equalIn 10000 t (.agg A) (.agg B)).run P w = .ok r w) : Gives P S (.bool (!r)) (execOp (rho l) ⟨dst, .binOp .neq t x y ct, ty, pos, after, gd⟩) := gives_value _ fun w => by
  have h' : (Op.equal t (.agg A) (.agg B)).run P w = .ok r w := h w
  simp [execOp, hx, hy, eqGuard, hg, binOp, h']
end
end Go.Proofs.YthfdohhglnhonaaDoor

/-! ## Fa -/
namespace Go.Proofs.YthfdohhglnhonaaDoor
set_option linter.unusedSimpArgs false
set_option linter.unusedVariables false
open Go.RowKit
attribute [local irreducible] wpL wpF fr Code.wp bodyPost
set_option maxRecDepth 100000 in
set_option maxHeartbeats 4000000 in
theorem q_add (x y : F2) (v : World) (hG : Glo v) : Rets 22 #[.agg (c2 (x)), .agg (c2 (y))] v (.agg (c2 (x + y))) := by
  refine calls_fr2 Tryd.func22 rfl (by rfl : _ = 16) (by rfl) ?_
  have hw := Hbl.nil v
  refine seq_plain hw [0, 1, 2] (by rfl) ?_
  refine L_box (.agg (c2 (x))) (by rfl) (by rfl) (by rfl) (c2 (x)) (by rfl) ?_; intro g1
  refine L_box (.agg (c2 (y))) (by rfl) (by rfl) (by rfl) (c2 (y)) (by rfl) ?_; intro g2
  refine L_alloc _ (by rfl) (by rfl) z_2 (c2 (0 : F2)) rfl ?_; intro g3
  refine L_end ?_
  intro w1 hw1
  refine seq_flow (by kernel_rfl) hw1 [] [(g2, 30, (c2 (y))), (g1, 30, (c2 (x)))] 12 (by rfl) ?_
  refine flow_take (i := 0) (.pointer (some ⟨g1, 0, none⟩)) (by rfl) (by kernel_rfl) (by kernel_rfl) (by kernel_rfl) (by rfl) (by kernel_rfl) (List.Sublist.cons _ (List.Sublist.refl _)) (gives_value _ fun _ => by kernel_rfl) ?_
  refine flow_take (i := 1) (.agg (pc ((x).a))) (by rfl) (by kernel_rfl) (by kernel_rfl) (by kernel_rfl) (by rfl) (by kernel_rfl) (List.Sublist.cons _ (List.Sublist.refl _)) (gives_load g1 0 30 (c2 (x)) (pc ((x).a)) _ (by rfl) (fun _ h => h.blk 1 (by rfl)) (sl_2a (x) _ _ (Sl.refl _)) Tryd.underlying28 (by rfl) (hi_1 _)) ?_
  refine flow_take (i := 2) (.pointer (some ⟨g2, 0, none⟩)) (by rfl) (by kernel_rfl) (by kernel_rfl) (by kernel_rfl) (by rfl) (by kernel_rfl) (List.Sublist.cons _ (List.Sublist.refl _)) (gives_value _ fun _ => by kernel_rfl) ?_
  refine flow_take (i := 3) (.agg (pc ((y).a))) (by rfl) (by kernel_rfl) (by kernel_rfl) (by kernel_rfl) (by rfl) (by kernel_rfl) (List.Sublist.cons _ (List.Sublist.refl _)) (gives_load g2 0 30 (c2 (y)) (pc ((y).a)) _ (by rfl) (fun _ h => h.blk 0 (by rfl)) (sl_2a (y) _ _ (Sl.refl _)) Tryd.underlying28 (by rfl) (hi_1 _)) ?_
  refine flow_take (i := 4) (.agg (pc (((x).a) + ((y).a)))) (by rfl) (by kernel_rfl) (by kernel_rfl) (by kernel_rfl) (by rfl) (by kernel_rfl) (List.Sublist.cons _ (List.Sublist.refl _)) (gives_call (vl := [.agg (pc ((x).a)), .agg (pc ((y).a))]) (by kernel_rfl) (by rfl) (fun w h => v_add _ _ w (hG.keep h.below))) ?_
  refine flow_take (i := 5) (.pointer (some ⟨g1, 6, none⟩)) (by rfl) (by kernel_rfl) (by kernel_rfl) (by kernel_rfl) (by rfl) (by kernel_rfl) (List.Sublist.cons _ (List.Sublist.refl _)) (gives_value _ fun _ => by kernel_rfl) ?_
  refine flow_take (i := 6) (.agg (pc ((x).b))) (by rfl) (by kernel_rfl) (by kernel_rfl) (by kernel_rfl) (by rfl) (by kernel_rfl) (List.Sublist.cons _ (List.Sublist.refl _)) (gives_load g1 6 30 (c2 (x)) (pc ((x).b)) _ (by rfl) (fun _ h => h.blk 1 (by rfl)) (sl_2b (x) _ _ 6 (Sl.refl _) (by rfl)) Tryd.underlying28 (by rfl) (hi_1 _)) ?_
  refine flow_take (i := 7) (.pointer (some ⟨g2, 6, none⟩)) (by rfl) (by kernel_rfl) (by kernel_rfl) (by kernel_rfl) (by rfl) (by kernel_rfl) (List.Sublist.cons _ (List.Sublist.refl _)) (gives_value _ fun _ => by kernel_rfl) ?_
  refine flow_take (i := 8) (.agg (pc ((y).b))) (by rfl) (by kernel_rfl) (by kernel_rfl) (by kernel_rfl) (by rfl) (by kernel_rfl) (List.Sublist.cons _ (List.Sublist.refl _)) (gives_load g2 6 30 (c2 (y)) (pc ((y).b)) _ (by rfl) (fun _ h => h.blk 0 (by rfl)) (sl_2b (y) _ _ 6 (Sl.refl _) (by rfl)) Tryd.underlying28 (by rfl) (hi_1 _)) ?_
  refine flow_take (i := 9) (.agg (pc (((x).b) + ((y).b)))) (by rfl) (by kernel_rfl) (by kernel_rfl) (by kernel_rfl) (by rfl) (by kernel_rfl) (List.Sublist.cons _ (List.Sublist.refl _)) (gives_call (vl := [.agg (pc ((x).b)), .agg (pc ((y).b))]) (by kernel_rfl) (by rfl) (fun w h => v_add _ _ w (hG.keep h.below))) ?_
  refine flow_take (i := 10) (.agg (c2 (⟨((x).a) + ((y).a), ((x).b) + ((y).b)⟩ : F2))) (by rfl) (by kernel_rfl) (by kernel_rfl) (by kernel_rfl) (by rfl) (by kernel_rfl) (List.Sublist.cons _ (List.Sublist.refl _)) (gb_fp2 [(0, (pc (((x).a) + ((y).a)))), (1, (pc (((x).b) + ((y).b))))] ⟨congrArg some (pc_size _).symm, congrArg some (pc_size _).symm, trivial⟩ (by rfl) (c2 (⟨((x).a) + ((y).a), ((x).b) + ((y).b)⟩ : F2)) (by rfl)) ?_
  refine flow_one 11 (by kernel_rfl) ?_
  refine F_store (t := 30) 0 g3 (c2 (0 : F2)) (c2 (⟨((x).a) + ((y).a), ((x).b) + ((y).b)⟩ : F2)) (by rfl) (by rfl) (by rfl) (by rfl) (by rfl) (hi_2 _) ((c2_size _).trans (c2_size _).symm) (c2_one _) (.inr (List.Sublist.cons _ (List.Sublist.refl _))) ?_
  simp only [List.set_cons_zero, List.set_cons_succ]
  refine flow_done (by kernel_rfl) ?_
  intro w2 hw2
  refine wp_ret ?_
  change bodyPost _ _ _ Exit.ret _ _
  refine (ret_cell (by rfl) (by rfl) (by rfl) (hw2.blk 0 (by rfl)) Tryd.underlying30 (by rfl) (hi_2 _) ⟨?_, hw2.below⟩)
  exact rfl
set_option maxRecDepth 100000 in
set_option maxHeartbeats 4000000 in
theorem q_sub (x y : F2) (v : World) (hG : Glo v) : Rets 24 #[.agg (c2 (x)), .agg (c2 (y))] v (.agg (c2 (x - y))) := by
  refine calls_fr2 Tryd.func24 rfl (by rfl : _ = 16) (by rfl) ?_
  have hw := Hbl.nil v
  refine seq_plain hw [0, 1, 2] (by rfl) ?_
  refine L_box (.agg (c2 (x))) (by rfl) (by rfl) (by rfl) (c2 (x)) (by rfl) ?_; intro g1
  refine L_box (.agg (c2 (y))) (by rfl) (by rfl) (by rfl) (c2 (y)) (by rfl) ?_; intro g2
  refine L_alloc _ (by rfl) (by rfl) z_2 (c2 (0 : F2)) rfl ?_; intro g3
  refine L_end ?_
  intro w1 hw1
  refine seq_flow (by kernel_rfl) hw1 [] [(g2, 30, (c2 (y))), (g1, 30, (c2 (x)))] 12 (by rfl) ?_
  refine flow_take (i := 0) (.pointer (some ⟨g1, 0, none⟩)) (by rfl) (by kernel_rfl) (by kernel_rfl) (by kernel_rfl) (by rfl) (by kernel_rfl) (List.Sublist.cons _ (List.Sublist.refl _)) (gives_value _ fun _ => by kernel_rfl) ?_
  refine flow_take (i := 1) (.agg (pc ((x).a))) (by rfl) (by kernel_rfl) (by kernel_rfl) (by kernel_rfl) (by rfl) (by kernel_rfl) (List.Sublist.cons _ (List.Sublist.refl _)) (gives_load g1 0 30 (c2 (x)) (pc ((x).a)) _ (by rfl) (fun _ h => h.blk 1 (by rfl)) (sl_2a (x) _ _ (Sl.refl _)) Tryd.underlying28 (by rfl) (hi_1 _)) ?_
  refine flow_take (i := 2) (.pointer (some ⟨g2, 0, none⟩)) (by rfl) (by kernel_rfl) (by kernel_rfl) (by kernel_rfl) (by rfl) (by kernel_rfl) (List.Sublist.cons _ (List.Sublist.refl _)) (gives_value _ fun _ => by kernel_rfl) ?_
  refine flow_take (i := 3) (.agg (pc ((y).a))) (by rfl) (by kernel_rfl) (by kernel_rfl) (by kernel_rfl) (by rfl) (by kernel_rfl) (List.Sublist.cons _ (List.Sublist.refl _)) (gives_load g2 0 30 (c2 (y)) (pc ((y).a)) _ (by rfl) (fun _ h => h.blk 0 (by rfl)) (sl_2a (y) _ _ (Sl.refl _)) Tryd.underlying28 (by rfl) (hi_1 _)) ?_
  refine flow_take (i := 4) (.agg (pc (((x).a) - ((y).a)))) (by rfl) (by kernel_rfl) (by kernel_rfl) (by kernel_rfl) (by rfl) (by kernel_rfl) (List.Sublist.cons _ (List.Sublist.refl _)) (gives_call (vl := [.agg (pc ((x).a)), .agg (pc ((y).a))]) (by kernel_rfl) (by rfl) (fun w h => v_sub _ _ w (hG.keep h.below))) ?_
  refine flow_take (i := 5) (.pointer (some ⟨g1, 6, none⟩)) (by rfl) (by kernel_rfl) (by kernel_rfl) (by kernel_rfl) (by rfl) (by kernel_rfl) (List.Sublist.cons _ (List.Sublist.refl _)) (gives_value _ fun _ => by kernel_rfl) ?_
  refine flow_take (i := 6) (.agg (pc ((x).b))) (by rfl) (by kernel_rfl) (by kernel_rfl) (by kernel_rfl) (by rfl) (by kernel_rfl) (List.Sublist.cons _ (List.Sublist.refl _)) (gives_load g1 6 30 (c2 (x)) (pc ((x).b)) _ (by rfl) (fun _ h => h.blk 1 (by rfl)) (sl_2b (x) _ _ 6 (Sl.refl _) (by rfl)) Tryd.underlying28 (by rfl) (hi_1 _)) ?_
  refine flow_take (i := 7) (.pointer (some ⟨g2, 6, none⟩)) (by rfl) (by kernel_rfl) (by kernel_rfl) (by kernel_rfl) (by rfl) (by kernel_rfl) (List.Sublist.cons _ (List.Sublist.refl _)) (gives_value _ fun _ => by kernel_rfl) ?_
  refine flow_take (i := 8) (.agg (pc ((y).b))) (by rfl) (by kernel_rfl) (by kernel_rfl) (by kernel_rfl) (by rfl) (by kernel_rfl) (List.Sublist.cons _ (List.Sublist.refl _)) (gives_load g2 6 30 (c2 (y)) (pc ((y).b)) _ (by rfl) (fun _ h => h.blk 0 (by rfl)) (sl_2b (y) _ _ 6 (Sl.refl _) (by rfl)) Tryd.underlying28 (by rfl) (hi_1 _)) ?_
  refine flow_take (i := 9) (.agg (pc (((x).b) - ((y).b)))) (by rfl) (by kernel_rfl) (by kernel_rfl) (by kernel_rfl) (by rfl) (by kernel_rfl) (List.Sublist.cons _ (List.Sublist.refl _)) (gives_call (vl := [.agg (pc ((x).b)), .agg (pc ((y).b))]) (by kernel_rfl) (by rfl) (fun w h => v_sub _ _ w (hG.keep h.below))) ?_
  refine flow_take (i := 10) (.agg (c2 (⟨((x).a) - ((y).a), ((x).b) - ((y).b)⟩ : F2))) (by rfl) (by kernel_rfl) (by kernel_rfl) (by kernel_rfl) (by rfl) (by kernel_rfl) (List.Sublist.cons _ (List.Sublist.refl _)) (gb_fp2 [(0, (pc (((x).a) - ((y).a)))), (1, (pc (((x).b) - ((y).b))))] ⟨congrArg some (pc_size _).symm, congrArg some (pc_size _).symm, trivial⟩ (by rfl) (c2 (⟨((x).a) - ((y).a), ((x).b) - ((y).b)⟩ : F2)) (by rfl)) ?_
  refine flow_one 11 (by kernel_rfl) ?_
  refine F_store (t := 30) 0 g3 (c2 (0 : F2)) (c2 (⟨((x).a) - ((y).a), ((x).b) - ((y).b)⟩ : F2)) (by rfl) (by rfl) (by rfl) (by rfl) (by rfl) (hi_2 _) ((c2_size _).trans (c2_size _).symm) (c2_one _) (.inr (List.Sublist.cons _ (List.Sublist.refl _))) ?_
  simp only [List.set_cons_zero, List.set_cons_succ]
  refine flow_done (by kernel_rfl) ?_
  intro w2 hw2
  refine wp_ret ?_
  change bodyPost _ _ _ Exit.ret _ _
  refine (ret_cell (by rfl) (by rfl) (by rfl) (hw2.blk 0 (by rfl)) Tryd.underlying30 (by rfl) (hi_2 _) ⟨?_, hw2.below⟩)
  exact rfl
set_option maxRecDepth 100000 in
set_option maxHeartbeats 4000000 in
theorem q_neg (x : F2) (v : World) (hG : Glo v) : Rets 29 #[.agg (c2 (x))] v (.agg (c2 (-x))) := by
  refine calls_fr1 Tryd.func29 rfl (by rfl : _ = 10) (by rfl) ?_
  have hw := Hbl.nil v
  refine seq_plain hw [0, 1] (by rfl) ?_
  refine L_box (.agg (c2 (x))) (by rfl) (by rfl) (by rfl) (c2 (x)) (by rfl) ?_; intro g1
  refine L_alloc _ (by rfl) (by rfl) z_2 (c2 (0 : F2)) rfl ?_; intro g2
  refine L_end ?_
  intro w1 hw1
  refine seq_flow (by kernel_rfl) hw1 [] [(g1, 30, (c2 (x)))] 8 (by rfl) ?_
  refine flow_take (i := 0) (.pointer (some ⟨g1, 0, none⟩)) (by rfl) (by kernel_rfl) (by kernel_rfl) (by kernel_rfl) (by rfl) (by kernel_rfl) (List.Sublist.cons _ (List.Sublist.refl _)) (gives_value _ fun _ => by kernel_rfl) ?_
  refine flow_take (i := 1) (.agg (pc ((x).a))) (by rfl) (by kernel_rfl) (by kernel_rfl) (by kernel_rfl) (by rfl) (by kernel_rfl) (List.Sublist.cons _ (List.Sublist.refl _)) (gives_load g1 0 30 (c2 (x)) (pc ((x).a)) _ (by rfl) (fun _ h => h.blk 0 (by rfl)) (sl_2a (x) _ _ (Sl.refl _)) Tryd.underlying28 (by rfl) (hi_1 _)) ?_
  refine flow_take (i := 2) (.agg (pc (-((x).a)))) (by rfl) (by kernel_rfl) (by kernel_rfl) (by kernel_rfl) (by rfl) (by kernel_rfl) (List.Sublist.cons _ (List.Sublist.refl _)) (gives_call (vl := [.agg (pc ((x).a))]) (by kernel_rfl) (by rfl) (fun w h => v_neg _ w (hG.keep h.below))) ?_
  refine flow_take (i := 3) (.pointer (some ⟨g1, 6, none⟩)) (by rfl) (by kernel_rfl) (by kernel_rfl) (by kernel_rfl) (by rfl) (by kernel_rfl) (List.Sublist.cons _ (List.Sublist.refl _)) (gives_value _ fun _ => by kernel_rfl) ?_
  refine flow_take (i := 4) (.agg (pc ((x).b))) (by rfl) (by kernel_rfl) (by kernel_rfl) (by kernel_rfl) (by rfl) (by kernel_rfl) (List.Sublist.cons _ (List.Sublist.refl _)) (gives_load g1 6 30 (c2 (x)) (pc ((x).b)) _ (by rfl) (fun _ h => h.blk 0 (by rfl)) (sl_2b (x) _ _ 6 (Sl.refl _) (by rfl)) Tryd.underlying28 (by rfl) (hi_1 _)) ?_
  refine flow_take (i := 5) (.agg (pc (-((x).b)))) (by rfl) (by kernel_rfl) (by kernel_rfl) (by kernel_rfl) (by rfl) (by kernel_rfl) (List.Sublist.cons _ (List.Sublist.refl _)) (gives_call (vl := [.agg (pc ((x).b))]) (by kernel_rfl) (by rfl) (fun w h => v_neg _ w (hG.keep h.below))) ?_
  refine flow_take (i := 6) (.agg (c2 (⟨-((x).a), -((x).b)⟩ : F2))) (by rfl) (by kernel_rfl) (by kernel_rfl) (by kernel_rfl) (by rfl) (by kernel_rfl) (List.Sublist.cons _ (List.Sublist.refl _)) (gb_fp2 [(0, (pc (-((x).a)))), (1, (pc (-((x).b))))] ⟨congrArg some (pc_size _).symm, congrArg some (pc_size _).symm, trivial⟩ (by rfl) (c2 (⟨-((x).a), -((x).b)⟩ : F2)) (by rfl)) ?_
  refine flow_one 7 (by kernel_rfl) ?_
  refine F_store (t := 30) 0 g2 (c2 (0 : F2)) (c2 (⟨-((x).a), -((x).b)⟩ : F2)) (by rfl) (by rfl) (by rfl) (by rfl) (by rfl) (hi_2 _) ((c2_size _).trans (c2_size _).symm) (c2_one _) (.inr (List.Sublist.cons _ (List.Sublist.refl _))) ?_
  simp only [List.set_cons_zero, List.set_cons_succ]
  refine flow_done (by kernel_rfl) ?_
  intro w2 hw2
  refine wp_ret ?_
  change bodyPost _ _ _ Exit.ret _ _
  refine (ret_cell (by rfl) (by rfl) (by rfl) (hw2.blk 0 (by rfl)) Tryd.underlying30 (by rfl) (hi_2 _) ⟨?_, hw2.below⟩)
  exact rfl
set_option maxRecDepth 100000 in
set_option maxHeartbeats 4000000 in
theorem q_conj (x : F2) (v : World) (hG : Glo v) : Rets 31 #[.agg (c2 (x))] v (.agg (c2 x.conj)) := by
  refine calls_fr1 Tryd.func31 rfl (by rfl : _ = 9) (by rfl) ?_
  have hw := Hbl.nil v
  refine seq_plain hw [0, 1] (by rfl) ?_
  refine L_box (.agg (c2 (x))) (by rfl) (by rfl) (by rfl) (c2 (x)) (by rfl) ?_; intro g1
  refine L_alloc _ (by rfl) (by rfl) z_2 (c2 (0 : F2)) rfl ?_; intro g2
  refine L_end ?_
  intro w1 hw1
  refine seq_flow (by kernel_rfl) hw1 [] [(g1, 30, (c2 (x)))] 7 (by rfl) ?_
  refine flow_take (i := 0) (.pointer (some ⟨g1, 0, none⟩)) (by rfl) (by kernel_rfl) (by kernel_rfl) (by kernel_rfl) (by rfl) (by kernel_rfl) (List.Sublist.cons _ (List.Sublist.refl _)) (gives_value _ fun _ => by kernel_rfl) ?_
  refine flow_take (i := 1) (.agg (pc ((x).a))) (by rfl) (by kernel_rfl) (by kernel_rfl) (by kernel_rfl) (by rfl) (by kernel_rfl) (List.Sublist.cons _ (List.Sublist.refl _)) (gives_load g1 0 30 (c2 (x)) (pc ((x).a)) _ (by rfl) (fun _ h => h.blk 0 (by rfl)) (sl_2a (x) _ _ (Sl.refl _)) Tryd.underlying28 (by rfl) (hi_1 _)) ?_
  refine flow_take (i := 2) (.pointer (some ⟨g1, 6, none⟩)) (by rfl) (by kernel_rfl) (by kernel_rfl) (by kernel_rfl) (by rfl) (by kernel_rfl) (List.Sublist.cons _ (List.Sublist.refl _)) (gives_value _ fun _ => by kernel_rfl) ?_
  refine flow_take (i := 3) (.agg (pc ((x).b))) (by rfl) (by kernel_rfl) (by kernel_rfl) (by kernel_rfl) (by rfl) (by kernel_rfl) (List.Sublist.cons _ (List.Sublist.refl _)) (gives_load g1 6 30 (c2 (x)) (pc ((x).b)) _ (by rfl) (fun _ h => h.blk 0 (by rfl)) (sl_2b (x) _ _ 6 (Sl.refl _) (by rfl)) Tryd.underlying28 (by rfl) (hi_1 _)) ?_
  refine flow_take (i := 4) (.agg (pc (-((x).b)))) (by rfl) (by kernel_rfl) (by kernel_rfl) (by kernel_rfl) (by rfl) (by kernel_rfl) (List.Sublist.cons _ (List.Sublist.refl _)) (gives_call (vl := [.agg (pc ((x).b))]) (by kernel_rfl) (by rfl) (fun w h => v_neg _ w (hG.keep h.below))) ?_
  refine flow_take (i := 5) (.agg (c2 (⟨(x).a, -((x).b)⟩ : F2))) (by rfl) (by kernel_rfl) (by kernel_rfl) (by kernel_rfl) (by rfl) (by kernel_rfl) (List.Sublist.cons _ (List.Sublist.refl _)) (gb_fp2 [(0, (pc ((x).a))), (1, (pc (-((x).b))))] ⟨congrArg some (pc_size _).symm, congrArg some (pc_size _).symm, trivial⟩ (by rfl) (c2 (⟨(x).a, -((x).b)⟩ : F2)) (by rfl)) ?_
  refine flow_one 6 (by kernel_rfl) ?_
  refine F_store (t := 30) 0 g2 (c2 (0 : F2)) (c2 (⟨(x).a, -((x).b)⟩ : F2)) (by rfl) (by rfl) (by rfl) (by rfl) (by rfl) (hi_2 _) ((c2_size _).trans (c2_size _).symm) (c2_one _) (.inr (List.Sublist.cons _ (List.Sublist.refl _))) ?_
  simp only [List.set_cons_zero, List.set_cons_succ]
  refine flow_done (by kernel_rfl) ?_
  intro w2 hw2
  refine wp_ret ?_
  change bodyPost _ _ _ Exit.ret _ _
  refine (ret_cell (by rfl) (by rfl) (by rfl) (hw2.blk 0 (by rfl)) Tryd.underlying30 (by rfl) (hi_2 _) ⟨?_, hw2.below⟩)
  exact rfl
set_option maxRecDepth 100000 in
set_option maxHeartbeats 4000000 in
theorem q_double (x : F2) (v : World) (hG : Glo v) : Rets 30 #[.agg (c2 (x))] v (.agg (c2 (x + x))) := by
  refine calls_fr1 Tryd.func30 rfl (by rfl : _ = 6) (by rfl) ?_
  have hw := Hbl.nil v
  refine seq_plain hw [0, 1] (by rfl) ?_
  refine L_box (.agg (c2 (x))) (by rfl) (by rfl) (by rfl) (c2 (x)) (by rfl) ?_; intro g1
  refine L_alloc _ (by rfl) (by rfl) z_2 (c2 (0 : F2)) rfl ?_; intro g2
  refine L_end ?_
  intro w1 hw1
  refine seq_plain hw1 [0, 1, 2, 3] (by rfl) ?_
  refine L_val (.agg (c2 (x))) (by rfl) (by rfl) (gives_load g1 0 30 (c2 (x)) (c2 (x)) _ (by rfl) (fun _ h => h.blk 1 (by rfl)) (Sl.refl _) Tryd.underlying30 (by rfl) (hi_2 _)) ?_
  refine L_val (.agg (c2 (x))) (by rfl) (by rfl) (gives_load g1 0 30 (c2 (x)) (c2 (x)) _ (by rfl) (fun _ h => h.blk 1 (by rfl)) (Sl.refl _) Tryd.underlying30 (by rfl) (hi_2 _)) ?_
  refine L_val (.agg (c2 ((x) + (x)))) (by rfl) (by rfl) (gives_call (vl := [.agg (c2 (x)), .agg (c2 (x))]) (by kernel_rfl) (by rfl) (fun w h => q_add _ _ w (hG.keep h.below))) ?_
  refine L_store (t := 30) 0 g2 (c2 (0 : F2)) (c2 ((x) + (x))) (by rfl) (by rfl) (by rfl) (by rfl) (by rfl) (hi_2 _) ((c2_size _).trans (c2_size _).symm) (c2_one _) ?_
  simp only [List.set_cons_zero, List.set_cons_succ]
  refine L_end ?_
  intro w2 hw2
  refine wp_ret ?_
  change bodyPost _ _ _ Exit.ret _ _
  refine (ret_cell (by rfl) (by rfl) (by rfl) (hw2.blk 0 (by rfl)) Tryd.underlying30 (by rfl) (hi_2 _) ⟨?_, hw2.below⟩)
  exact rfl
set_option maxRecDepth 100000 in
set_option maxHeartbeats 4000000 in
theorem q_mul (x y : F2) (v : World) (hG : Glo v) : Rets 26 #[.agg (c2 (x)), .agg (c2 (y))] v (.agg (c2 (x * y))) := by
  refine calls_fr2 Tryd.func26 rfl (by rfl : _ = 38) (by rfl) ?_
  have hw := Hbl.nil v
  refine seq_plain hw [0, 1, 2] (by rfl) ?_
  refine L_box (.agg (c2 (x))) (by rfl) (by rfl) (by rfl) (c2 (x)) (by rfl) ?_; intro g1
  refine L_box (.agg (c2 (y))) (by rfl) (by rfl) (by rfl) (c2 (y)) (by rfl) ?_; intro g2
  refine L_alloc _ (by rfl) (by rfl) z_2 (c2 (0 : F2)) rfl ?_; intro g3
  refine L_end ?_
  intro w1 hw1
  refine seq_flow_to (fun a w => ∃ g_5 g_6, a = fr 38 [(5, .pointer (some ⟨g_5, 0, none⟩)), (6, .pointer (some ⟨g_6, 0, none⟩)), (17, .agg (pc (((x).b) * ((y).b)))), (16, .agg (pc ((y).b))), (15, .pointer (some ⟨g2, 6, none⟩)), (14, .agg (pc ((x).b))), (13, .pointer (some ⟨g1, 6, none⟩)), (12, .agg (pc (((x).a) * ((y).a)))), (11, .agg (pc ((y).a))), (10, .pointer (some ⟨g2, 0, none⟩)), (9, .agg (pc ((x).a))), (8, .pointer (some ⟨g1, 0, none⟩)), (4, .pointer (some ⟨g3, 0, none⟩)), (3, .pointer (some ⟨g2, 0, none⟩)), (2, .pointer (some ⟨g1, 0, none⟩)), (1, .agg (c2 (y))), (0, .agg (c2 (x)))] ∧ Hbl v [(g_5, 28, (pc (((x).a) * ((y).a)))), (g_6, 28, (pc (((x).b) * ((y).b)))), (g3, 30, (c2 (0 : F2))), (g2, 30, (c2 (y))), (g1, 30, (c2 (x)))] w) (by kernel_rfl) hw1 [] [(g3, 30, (c2 (0 : F2))), (g2, 30, (c2 (y))), (g1, 30, (c2 (x)))] 14 (by rfl) ?_ ?_
  ·
    refine flow_take (i := 0) (.pointer (some ⟨g1, 0, none⟩)) (by rfl) (by kernel_rfl) (by kernel_rfl) (by kernel_rfl) (by rfl) (by kernel_rfl) (List.Sublist.refl _) (gives_value _ fun _ => by kernel_rfl) ?_
    refine flow_take (i := 1) (.agg (pc ((x).a))) (by rfl) (by kernel_rfl) (by kernel_rfl) (by kernel_rfl) (by rfl) (by kernel_rfl) (List.Sublist.refl _) (gives_load g1 0 30 (c2 (x)) (pc ((x).a)) _ (by rfl) (fun _ h => h.blk 2 (by rfl)) (sl_2a (x) _ _ (Sl.refl _)) Tryd.underlying28 (by rfl) (hi_1 _)) ?_
    refine flow_take (i := 2) (.pointer (some ⟨g2, 0, none⟩)) (by rfl) (by kernel_rfl) (by kernel_rfl) (by kernel_rfl) (by rfl) (by kernel_rfl) (List.Sublist.refl _) (gives_value _ fun _ => by kernel_rfl) ?_
    refine flow_take (i := 3) (.agg (pc ((y).a))) (by rfl) (by kernel_rfl) (by kernel_rfl) (by kernel_rfl) (by rfl) (by kernel_rfl) (List.Sublist.refl _) (gives_load g2 0 30 (c2 (y)) (pc ((y).a)) _ (by rfl) (fun _ h => h.blk 1 (by rfl)) (sl_2a (y) _ _ (Sl.refl _)) Tryd.underlying28 (by rfl) (hi_1 _)) ?_
    refine flow_take (i := 4) (.agg (pc (((x).a) * ((y).a)))) (by rfl) (by kernel_rfl) (by kernel_rfl) (by kernel_rfl) (by rfl) (by kernel_rfl) (List.Sublist.refl _) (gives_call (vl := [.agg (pc ((x).a)), .agg (pc ((y).a))]) (by kernel_rfl) (by rfl) (fun w h => v_mul _ _ w (hG.keep h.below))) ?_
    refine flow_take (i := 5) (.pointer (some ⟨g1, 6, none⟩)) (by rfl) (by kernel_rfl) (by kernel_rfl) (by kernel_rfl) (by rfl) (by kernel_rfl) (List.Sublist.refl _) (gives_value _ fun _ => by kernel_rfl) ?_
    refine flow_take (i := 6) (.agg (pc ((x).b))) (by rfl) (by kernel_rfl) (by kernel_rfl) (by kernel_rfl) (by rfl) (by kernel_rfl) (List.Sublist.refl _) (gives_load g1 6 30 (c2 (x)) (pc ((x).b)) _ (by rfl) (fun _ h => h.blk 2 (by rfl)) (sl_2b (x) _ _ 6 (Sl.refl _) (by rfl)) Tryd.underlying28 (by rfl) (hi_1 _)) ?_
    refine flow_take (i := 7) (.pointer (some ⟨g2, 6, none⟩)) (by rfl) (by kernel_rfl) (by kernel_rfl) (by kernel_rfl) (by rfl) (by kernel_rfl) (List.Sublist.refl _) (gives_value _ fun _ => by kernel_rfl) ?_
    refine flow_take (i := 8) (.agg (pc ((y).b))) (by rfl) (by kernel_rfl) (by kernel_rfl) (by kernel_rfl) (by rfl) (by kernel_rfl) (List.Sublist.refl _) (gives_load g2 6 30 (c2 (y)) (pc ((y).b)) _ (by rfl) (fun _ h => h.blk 1 (by rfl)) (sl_2b (y) _ _ 6 (Sl.refl _) (by rfl)) Tryd.underlying28 (by rfl) (hi_1 _)) ?_
    refine flow_take (i := 9) (.agg (pc (((x).b) * ((y).b)))) (by rfl) (by kernel_rfl) (by kernel_rfl) (by kernel_rfl) (by rfl) (by kernel_rfl) (List.Sublist.refl _) (gives_call (vl := [.agg (pc ((x).b)), .agg (pc ((y).b))]) (by kernel_rfl) (by rfl) (fun w h => v_mul _ _ w (hG.keep h.below))) ?_
    refine flow_two 10 11 (by kernel_rfl) ?_ ?_
    ·
      refine F_alloc _ (by rfl) (by rfl) z_1 (pc (0 : Fp)) rfl (List.Sublist.refl _) ?_; intro g_5
      refine flow_one 11 (by kernel_rfl) ?_
      refine F_alloc _ (by rfl) (by rfl) z_1 (pc (0 : Fp)) rfl (List.Sublist.cons _ (List.Sublist.refl _)) ?_; intro g_6
      refine flow_one 12 (by kernel_rfl) ?_
      refine F_store (t := 28) 1 g_5 (pc (0 : Fp)) (pc (((x).a) * ((y).a))) (by rfl) (by rfl) (by rfl) (by rfl) (by rfl) (hi_1 _) ((pc_size _).trans (pc_size _).symm) (pc_one _) (.inr (List.Sublist.cons _ (List.Sublist.cons _ (List.Sublist.refl _)))) ?_
      simp only [List.set_cons_zero, List.set_cons_succ]
      refine flow_one 13 (by kernel_rfl) ?_
      refine F_store (t := 28) 0 g_6 (pc (0 : Fp)) (pc (((x).b) * ((y).b))) (by rfl) (by rfl) (by rfl) (by rfl) (by rfl) (hi_1 _) ((pc_size _).trans (pc_size _).symm) (pc_one _) (.inr (List.Sublist.cons _ (List.Sublist.cons _ (List.Sublist.refl _)))) ?_
      simp only [List.set_cons_zero, List.set_cons_succ]
      refine flow_done (by kernel_rfl) ?_
      intro wz hz
      exact ⟨g_5, g_6, ((fr_comm _ _ _ _ (by decide))), hz.perm (List.Perm.swap _ _ _)⟩
    ·
      refine F_alloc _ (by rfl) (by rfl) z_1 (pc (0 : Fp)) rfl (List.Sublist.refl _) ?_; intro g_6
      refine flow_one 10 (by kernel_rfl) ?_
      refine F_alloc _ (by rfl) (by rfl) z_1 (pc (0 : Fp)) rfl (List.Sublist.cons _ (List.Sublist.refl _)) ?_; intro g_5
      refine flow_one 12 (by kernel_rfl) ?_
      refine F_store (t := 28) 0 g_5 (pc (0 : Fp)) (pc (((x).a) * ((y).a))) (by rfl) (by rfl) (by rfl) (by rfl) (by rfl) (hi_1 _) ((pc_size _).trans (pc_size _).symm) (pc_one _) (.inr (List.Sublist.cons _ (List.Sublist.cons _ (List.Sublist.refl _)))) ?_
      simp only [List.set_cons_zero, List.set_cons_succ]
      refine flow_one 13 (by kernel_rfl) ?_
      refine F_store (t := 28) 1 g_6 (pc (0 : Fp)) (pc (((x).b) * ((y).b))) (by rfl) (by rfl) (by rfl) (by rfl) (by rfl) (hi_1 _) ((pc_size _).trans (pc_size _).symm) (pc_one _) (.inr (List.Sublist.cons _ (List.Sublist.cons _ (List.Sublist.refl _)))) ?_
      simp only [List.set_cons_zero, List.set_cons_succ]
      refine flow_done (by kernel_rfl) ?_
      intro wz hz
      exact ⟨g_5, g_6, rfl, hz.perm (List.Perm.refl _)⟩
  ·
    rintro a0 w2 ⟨g4, g5, rfl, hw2⟩
    refine seq_flow (by kernel_rfl) hw2 [] [(g4, 28, (pc (((x).a) * ((y).a)))), (g5, 28, (pc (((x).b) * ((y).b)))), (g3, 30, (c2 (0 : F2))), (g2, 30, (c2 (y))), (g1, 30, (c2 (x)))] 13 (by rfl) ?_
    refine flow_take (i := 0) (.pointer (some ⟨g1, 0, none⟩)) (by rfl) (by kernel_rfl) (by kernel_rfl) (by kernel_rfl) (by rfl) (by kernel_rfl) (List.Sublist.refl _) (gives_value _ fun _ => by kernel_rfl) ?_
    refine flow_take (i := 1) (.agg (pc ((x).a))) (by rfl) (by kernel_rfl) (by kernel_rfl) (by kernel_rfl) (by rfl) (by kernel_rfl) (List.Sublist.refl _) (gives_load g1 0 30 (c2 (x)) (pc ((x).a)) _ (by rfl) (fun _ h => h.blk 4 (by rfl)) (sl_2a (x) _ _ (Sl.refl _)) Tryd.underlying28 (by rfl) (hi_1 _)) ?_
    refine flow_take (i := 2) (.pointer (some ⟨g1, 6, none⟩)) (by rfl) (by kernel_rfl) (by kernel_rfl) (by kernel_rfl) (by rfl) (by kernel_rfl) (List.Sublist.refl _) (gives_value _ fun _ => by kernel_rfl) ?_
    refine flow_take (i := 3) (.agg (pc ((x).b))) (by rfl) (by kernel_rfl) (by kernel_rfl) (by kernel_rfl) (by rfl) (by kernel_rfl) (List.Sublist.refl _) (gives_load g1 6 30 (c2 (x)) (pc ((x).b)) _ (by rfl) (fun _ h => h.blk 4 (by rfl)) (sl_2b (x) _ _ 6 (Sl.refl _) (by rfl)) Tryd.underlying28 (by rfl) (hi_1 _)) ?_
    refine flow_take (i := 4) (.agg (pc (((x).a) + ((x).b)))) (by rfl) (by kernel_rfl) (by kernel_rfl) (by kernel_rfl) (by rfl) (by kernel_rfl) (List.Sublist.refl _) (gives_call (vl := [.agg (pc ((x).a)), .agg (pc ((x).b))]) (by kernel_rfl) (by rfl) (fun w h => v_add _ _ w (hG.keep h.below))) ?_
    refine flow_take (i := 5) (.pointer (some ⟨g2, 0, none⟩)) (by rfl) (by kernel_rfl) (by kernel_rfl) (by kernel_rfl) (by rfl) (by kernel_rfl) (List.Sublist.refl _) (gives_value _ fun _ => by kernel_rfl) ?_
    refine flow_take (i := 6) (.agg (pc ((y).a))) (by rfl) (by kernel_rfl) (by kernel_rfl) (by kernel_rfl) (by rfl) (by kernel_rfl) (List.Sublist.refl _) (gives_load g2 0 30 (c2 (y)) (pc ((y).a)) _ (by rfl) (fun _ h => h.blk 3 (by rfl)) (sl_2a (y) _ _ (Sl.refl _)) Tryd.underlying28 (by rfl) (hi_1 _)) ?_
    refine flow_take (i := 7) (.pointer (some ⟨g2, 6, none⟩)) (by rfl) (by kernel_rfl) (by kernel_rfl) (by kernel_rfl) (by rfl) (by kernel_rfl) (List.Sublist.refl _) (gives_value _ fun _ => by kernel_rfl) ?_
    refine flow_take (i := 8) (.agg (pc ((y).b))) (by rfl) (by kernel_rfl) (by kernel_rfl) (by kernel_rfl) (by rfl) (by kernel_rfl) (List.Sublist.refl _) (gives_load g2 6 30 (c2 (y)) (pc ((y).b)) _ (by rfl) (fun _ h => h.blk 3 (by rfl)) (sl_2b (y) _ _ 6 (Sl.refl _) (by rfl)) Tryd.underlying28 (by rfl) (hi_1 _)) ?_
    refine flow_take (i := 9) (.agg (pc (((y).a) + ((y).b)))) (by rfl) (by kernel_rfl) (by kernel_rfl) (by kernel_rfl) (by rfl) (by kernel_rfl) (List.Sublist.refl _) (gives_call (vl := [.agg (pc ((y).a)), .agg (pc ((y).b))]) (by kernel_rfl) (by rfl) (fun w h => v_add _ _ w (hG.keep h.below))) ?_
    refine flow_take (i := 10) (.agg (pc ((((x).a) + ((x).b)) * (((y).a) + ((y).b))))) (by rfl) (by kernel_rfl) (by kernel_rfl) (by kernel_rfl) (by rfl) (by kernel_rfl) (List.Sublist.refl _) (gives_call (vl := [.agg (pc (((x).a) + ((x).b))), .agg (pc (((y).a) + ((y).b)))]) (by kernel_rfl) (by rfl) (fun w h => v_mul _ _ w (hG.keep h.below))) ?_
    refine flow_one 11 (by kernel_rfl) ?_
    refine F_alloc _ (by rfl) (by rfl) z_1 (pc (0 : Fp)) rfl (List.Sublist.refl _) ?_; intro g6
    refine flow_one 12 (by kernel_rfl) ?_
    refine F_store (t := 28) 0 g6 (pc (0 : Fp)) (pc ((((x).a) + ((x).b)) * (((y).a) + ((y).b)))) (by rfl) (by rfl) (by rfl) (by rfl) (by rfl) (hi_1 _) ((pc_size _).trans (pc_size _).symm) (pc_one _) (.inr (List.Sublist.cons _ (List.Sublist.refl _))) ?_
    simp only [List.set_cons_zero, List.set_cons_succ]
    refine flow_done (by kernel_rfl) ?_
    intro w3 hw3
    refine seq_flow (by kernel_rfl) hw3 [] [(g6, 28, (pc ((((x).a) + ((x).b)) * (((y).a) + ((y).b))))), (g4, 28, (pc (((x).a) * ((y).a)))), (g5, 28, (pc (((x).b) * ((y).b)))), (g2, 30, (c2 (y))), (g1, 30, (c2 (x)))] 10 (by rfl) ?_
    refine flow_take (i := 0) (.agg (pc (((x).a) * ((y).a)))) (by rfl) (by kernel_rfl) (by kernel_rfl) (by kernel_rfl) (by rfl) (by kernel_rfl) (List.Sublist.cons_cons _ (List.Sublist.cons_cons _ (List.Sublist.cons_cons _ (List.Sublist.cons _ (List.Sublist.refl _))))) (gives_load g4 0 28 (pc (((x).a) * ((y).a))) (pc (((x).a) * ((y).a))) _ (by rfl) (fun _ h => h.blk 1 (by rfl)) (Sl.refl _) Tryd.underlying28 (by rfl) (hi_1 _)) ?_
    refine flow_take (i := 1) (.agg (pc (((x).b) * ((y).b)))) (by rfl) (by kernel_rfl) (by kernel_rfl) (by kernel_rfl) (by rfl) (by kernel_rfl) (List.Sublist.cons_cons _ (List.Sublist.cons_cons _ (List.Sublist.cons_cons _ (List.Sublist.cons _ (List.Sublist.refl _))))) (gives_load g5 0 28 (pc (((x).b) * ((y).b))) (pc (((x).b) * ((y).b))) _ (by rfl) (fun _ h => h.blk 2 (by rfl)) (Sl.refl _) Tryd.underlying28 (by rfl) (hi_1 _)) ?_
    refine flow_take (i := 2) (.agg (pc ((((x).a) * ((y).a)) - (((x).b) * ((y).b))))) (by rfl) (by kernel_rfl) (by kernel_rfl) (by kernel_rfl) (by rfl) (by kernel_rfl) (List.Sublist.cons_cons _ (List.Sublist.cons_cons _ (List.Sublist.cons_cons _ (List.Sublist.cons _ (List.Sublist.refl _))))) (gives_call (vl := [.agg (pc (((x).a) * ((y).a))), .agg (pc (((x).b) * ((y).b)))]) (by kernel_rfl) (by rfl) (fun w h => v_sub _ _ w (hG.keep h.below))) ?_
    refine flow_take (i := 3) (.agg (pc ((((x).a) + ((x).b)) * (((y).a) + ((y).b))))) (by rfl) (by kernel_rfl) (by kernel_rfl) (by kernel_rfl) (by rfl) (by kernel_rfl) (List.Sublist.cons_cons _ (List.Sublist.cons_cons _ (List.Sublist.cons_cons _ (List.Sublist.cons _ (List.Sublist.refl _))))) (gives_load g6 0 28 (pc ((((x).a) + ((x).b)) * (((y).a) + ((y).b)))) (pc ((((x).a) + ((x).b)) * (((y).a) + ((y).b)))) _ (by rfl) (fun _ h => h.blk 0 (by rfl)) (Sl.refl _) Tryd.underlying28 (by rfl) (hi_1 _)) ?_
    refine flow_take (i := 4) (.agg (pc (((x).a) * ((y).a)))) (by rfl) (by kernel_rfl) (by kernel_rfl) (by kernel_rfl) (by rfl) (by kernel_rfl) (List.Sublist.cons_cons _ (List.Sublist.cons_cons _ (List.Sublist.cons_cons _ (List.Sublist.cons _ (List.Sublist.refl _))))) (gives_load g4 0 28 (pc (((x).a) * ((y).a))) (pc (((x).a) * ((y).a))) _ (by rfl) (fun _ h => h.blk 1 (by rfl)) (Sl.refl _) Tryd.underlying28 (by rfl) (hi_1 _)) ?_
    refine flow_take (i := 5) (.agg (pc (((((x).a) + ((x).b)) * (((y).a) + ((y).b))) - (((x).a) * ((y).a))))) (by rfl) (by kernel_rfl) (by kernel_rfl) (by kernel_rfl) (by rfl) (by kernel_rfl) (List.Sublist.cons_cons _ (List.Sublist.cons_cons _ (List.Sublist.cons_cons _ (List.Sublist.cons _ (List.Sublist.refl _))))) (gives_call (vl := [.agg (pc ((((x).a) + ((x).b)) * (((y).a) + ((y).b)))), .agg (pc (((x).a) * ((y).a)))]) (by kernel_rfl) (by rfl) (fun w h => v_sub _ _ w (hG.keep h.below))) ?_
    refine flow_take (i := 6) (.agg (pc (((x).b) * ((y).b)))) (by rfl) (by kernel_rfl) (by kernel_rfl) (by kernel_rfl) (by rfl) (by kernel_rfl) (List.Sublist.cons_cons _ (List.Sublist.cons_cons _ (List.Sublist.cons_cons _ (List.Sublist.cons _ (List.Sublist.refl _))))) (gives_load g5 0 28 (pc (((x).b) * ((y).b))) (pc (((x).b) * ((y).b))) _ (by rfl) (fun _ h => h.blk 2 (by rfl)) (Sl.refl _) Tryd.underlying28 (by rfl) (hi_1 _)) ?_
    refine flow_take (i := 7) (.agg (pc ((((((x).a) + ((x).b)) * (((y).a) + ((y).b))) - (((x).a) * ((y).a))) - (((x).b) * ((y).b))))) (by rfl) (by kernel_rfl) (by kernel_rfl) (by kernel_rfl) (by rfl) (by kernel_rfl) (List.Sublist.cons_cons _ (List.Sublist.cons_cons _ (List.Sublist.cons_cons _ (List.Sublist.cons _ (List.Sublist.refl _))))) (gives_call (vl := [.agg (pc (((((x).a) + ((x).b)) * (((y).a) + ((y).b))) - (((x).a) * ((y).a)))), .agg (pc (((x).b) * ((y).b)))]) (by kernel_rfl) (by rfl) (fun w h => v_sub _ _ w (hG.keep h.below))) ?_
    refine flow_take (i := 8) (.agg (c2 (⟨(((x).a) * ((y).a)) - (((x).b) * ((y).b)), (((((x).a) + ((x).b)) * (((y).a) + ((y).b))) - (((x).a) * ((y).a))) - (((x).b) * ((y).b))⟩ : F2))) (by rfl) (by kernel_rfl) (by kernel_rfl) (by kernel_rfl) (by rfl) (by kernel_rfl) (List.Sublist.cons_cons _ (List.Sublist.cons_cons _ (List.Sublist.cons_cons _ (List.Sublist.cons _ (List.Sublist.refl _))))) (gb_fp2 [(0, (pc ((((x).a) * ((y).a)) - (((x).b) * ((y).b))))), (1, (pc ((((((x).a) + ((x).b)) * (((y).a) + ((y).b))) - (((x).a) * ((y).a))) - (((x).b) * ((y).b)))))] ⟨congrArg some (pc_size _).symm, congrArg some (pc_size _).symm, trivial⟩ (by rfl) (c2 (⟨(((x).a) * ((y).a)) - (((x).b) * ((y).b)), (((((x).a) + ((x).b)) * (((y).a) + ((y).b))) - (((x).a) * ((y).a))) - (((x).b) * ((y).b))⟩ : F2)) (by rfl)) ?_
    refine flow_one 9 (by kernel_rfl) ?_
    refine F_store (t := 30) 3 g3 (c2 (0 : F2)) (c2 (⟨(((x).a) * ((y).a)) - (((x).b) * ((y).b)), (((((x).a) + ((x).b)) * (((y).a) + ((y).b))) - (((x).a) * ((y).a))) - (((x).b) * ((y).b))⟩ : F2)) (by rfl) (by rfl) (by rfl) (by rfl) (by rfl) (hi_2 _) ((c2_size _).trans (c2_size _).symm) (c2_one _) (.inr (List.Sublist.cons_cons _ (List.Sublist.cons_cons _ (List.Sublist.cons_cons _ (List.Sublist.cons _ (List.Sublist.refl _)))))) ?_
    simp only [List.set_cons_zero, List.set_cons_succ]
    refine flow_done (by kernel_rfl) ?_
    intro w4 hw4
    refine wp_ret ?_
    change bodyPost _ _ _ Exit.ret _ _
    refine (ret_cell (by rfl) (by rfl) (by rfl) (hw4.blk 3 (by rfl)) Tryd.underlying30 (by rfl) (hi_2 _) ⟨?_, hw4.below⟩)
    refine congrArg (fun z : F2 => Ending.returned (.agg (c2 z))) ?_
    apply F2.same <;> simp only [F2.mul_a, F2.mul_b] <;> grind
set_option maxRecDepth 100000 in
set_option maxHeartbeats 4000000 in
theorem q_square (x : F2) (v : World) (hG : Glo v) : Rets 28 #[.agg (c2 (x))] v (.agg (c2 (x * x))) := by
  refine calls_fr1 Tryd.func28 rfl (by rfl : _ = 24) (by rfl) ?_
  have hw := Hbl.nil v
  refine seq_plain hw [0, 1] (by rfl) ?_
  refine L_box (.agg (c2 (x))) (by rfl) (by rfl) (by rfl) (c2 (x)) (by rfl) ?_; intro g1
  refine L_alloc _ (by rfl) (by rfl) z_2 (c2 (0 : F2)) rfl ?_; intro g2
  refine L_end ?_
  intro w1 hw1
  refine seq_plain hw1 [0, 1, 2, 3, 4, 5, 6] (by rfl) ?_
  refine L_val (.pointer (some ⟨g1, 0, none⟩)) (by rfl) (by rfl) (gives_value _ fun _ => by kernel_rfl) ?_
  refine L_val (.agg (pc ((x).a))) (by rfl) (by rfl) (gives_load g1 0 30 (c2 (x)) (pc ((x).a)) _ (by rfl) (fun _ h => h.blk 1 (by rfl)) (sl_2a (x) _ _ (Sl.refl _)) Tryd.underlying28 (by rfl) (hi_1 _)) ?_
  refine L_val (.pointer (some ⟨g1, 6, none⟩)) (by rfl) (by rfl) (gives_value _ fun _ => by kernel_rfl) ?_
  refine L_val (.agg (pc ((x).b))) (by rfl) (by rfl) (gives_load g1 6 30 (c2 (x)) (pc ((x).b)) _ (by rfl) (fun _ h => h.blk 1 (by rfl)) (sl_2b (x) _ _ 6 (Sl.refl _) (by rfl)) Tryd.underlying28 (by rfl) (hi_1 _)) ?_
  refine L_val (.agg (pc (((x).a) * ((x).b)))) (by rfl) (by rfl) (gives_call (vl := [.agg (pc ((x).a)), .agg (pc ((x).b))]) (by kernel_rfl) (by rfl) (fun w h => v_mul _ _ w (hG.keep h.below))) ?_
  refine L_alloc _ (by rfl) (by rfl) z_1 (pc (0 : Fp)) rfl ?_; intro g3
  refine L_store (t := 28) 0 g3 (pc (0 : Fp)) (pc (((x).a) * ((x).b))) (by rfl) (by rfl) (by rfl) (by rfl) (by rfl) (hi_1 _) ((pc_size _).trans (pc_size _).symm) (pc_one _) ?_
  simp only [List.set_cons_zero, List.set_cons_succ]
  refine L_end ?_
  intro w2 hw2
  refine seq_flow (by kernel_rfl) hw2 [] [(g3, 28, (pc (((x).a) * ((x).b)))), (g1, 30, (c2 (x)))] 16 (by rfl) ?_
  refine flow_take (i := 0) (.pointer (some ⟨g1, 0, none⟩)) (by rfl) (by kernel_rfl) (by kernel_rfl) (by kernel_rfl) (by rfl) (by kernel_rfl) (List.Sublist.cons_cons _ (List.Sublist.cons _ (List.Sublist.refl _))) (gives_value _ fun _ => by kernel_rfl) ?_
  refine flow_take (i := 1) (.agg (pc ((x).a))) (by rfl) (by kernel_rfl) (by kernel_rfl) (by kernel_rfl) (by rfl) (by kernel_rfl) (List.Sublist.cons_cons _ (List.Sublist.cons _ (List.Sublist.refl _))) (gives_load g1 0 30 (c2 (x)) (pc ((x).a)) _ (by rfl) (fun _ h => h.blk 1 (by rfl)) (sl_2a (x) _ _ (Sl.refl _)) Tryd.underlying28 (by rfl) (hi_1 _)) ?_
  refine flow_take (i := 2) (.pointer (some ⟨g1, 6, none⟩)) (by rfl) (by kernel_rfl) (by kernel_rfl) (by kernel_rfl) (by rfl) (by kernel_rfl) (List.Sublist.cons_cons _ (List.Sublist.cons _ (List.Sublist.refl _))) (gives_value _ fun _ => by kernel_rfl) ?_
  refine flow_take (i := 3) (.agg (pc ((x).b))) (by rfl) (by kernel_rfl) (by kernel_rfl) (by kernel_rfl) (by rfl) (by kernel_rfl) (List.Sublist.cons_cons _ (List.Sublist.cons _ (List.Sublist.refl _))) (gives_load g1 6 30 (c2 (x)) (pc ((x).b)) _ (by rfl) (fun _ h => h.blk 1 (by rfl)) (sl_2b (x) _ _ 6 (Sl.refl _) (by rfl)) Tryd.underlying28 (by rfl) (hi_1 _)) ?_
  refine flow_take (i := 4) (.agg (pc (((x).a) + ((x).b)))) (by rfl) (by kernel_rfl) (by kernel_rfl) (by kernel_rfl) (by rfl) (by kernel_rfl) (List.Sublist.cons_cons _ (List.Sublist.cons _ (List.Sublist.refl _))) (gives_call (vl := [.agg (pc ((x).a)), .agg (pc ((x).b))]) (by kernel_rfl) (by rfl) (fun w h => v_add _ _ w (hG.keep h.below))) ?_
  refine flow_take (i := 5) (.pointer (some ⟨g1, 0, none⟩)) (by rfl) (by kernel_rfl) (by kernel_rfl) (by kernel_rfl) (by rfl) (by kernel_rfl) (List.Sublist.cons_cons _ (List.Sublist.cons _ (List.Sublist.refl _))) (gives_value _ fun _ => by kernel_rfl) ?_
  refine flow_take (i := 6) (.agg (pc ((x).a))) (by rfl) (by kernel_rfl) (by kernel_rfl) (by kernel_rfl) (by rfl) (by kernel_rfl) (List.Sublist.cons_cons _ (List.Sublist.cons _ (List.Sublist.refl _))) (gives_load g1 0 30 (c2 (x)) (pc ((x).a)) _ (by rfl) (fun _ h => h.blk 1 (by rfl)) (sl_2a (x) _ _ (Sl.refl _)) Tryd.underlying28 (by rfl) (hi_1 _)) ?_
  refine flow_take (i := 7) (.pointer (some ⟨g1, 6, none⟩)) (by rfl) (by kernel_rfl) (by kernel_rfl) (by kernel_rfl) (by rfl) (by kernel_rfl) (List.Sublist.cons_cons _ (List.Sublist.cons _ (List.Sublist.refl _))) (gives_value _ fun _ => by kernel_rfl) ?_
  refine flow_take (i := 8) (.agg (pc ((x).b))) (by rfl) (by kernel_rfl) (by kernel_rfl) (by kernel_rfl) (by rfl) (by kernel_rfl) (List.Sublist.cons_cons _ (List.Sublist.cons _ (List.Sublist.refl _))) (gives_load g1 6 30 (c2 (x)) (pc ((x).b)) _ (by rfl) (fun _ h => h.blk 1 (by rfl)) (sl_2b (x) _ _ 6 (Sl.refl _) (by rfl)) Tryd.underlying28 (by rfl) (hi_1 _)) ?_
  refine flow_take (i := 9) (.agg (pc (((x).a) - ((x).b)))) (by rfl) (by kernel_rfl) (by kernel_rfl) (by kernel_rfl) (by rfl) (by kernel_rfl) (List.Sublist.cons_cons _ (List.Sublist.cons _ (List.Sublist.refl _))) (gives_call (vl := [.agg (pc ((x).a)), .agg (pc ((x).b))]) (by kernel_rfl) (by rfl) (fun w h => v_sub _ _ w (hG.keep h.below))) ?_
  refine flow_take (i := 10) (.agg (pc ((((x).a) + ((x).b)) * (((x).a) - ((x).b))))) (by rfl) (by kernel_rfl) (by kernel_rfl) (by kernel_rfl) (by rfl) (by kernel_rfl) (List.Sublist.cons_cons _ (List.Sublist.cons _ (List.Sublist.refl _))) (gives_call (vl := [.agg (pc (((x).a) + ((x).b))), .agg (pc (((x).a) - ((x).b)))]) (by kernel_rfl) (by rfl) (fun w h => v_mul _ _ w (hG.keep h.below))) ?_
  refine flow_take (i := 11) (.agg (pc (((x).a) * ((x).b)))) (by rfl) (by kernel_rfl) (by kernel_rfl) (by kernel_rfl) (by rfl) (by kernel_rfl) (List.Sublist.cons_cons _ (List.Sublist.cons _ (List.Sublist.refl _))) (gives_load g3 0 28 (pc (((x).a) * ((x).b))) (pc (((x).a) * ((x).b))) _ (by rfl) (fun _ h => h.blk 0 (by rfl)) (Sl.refl _) Tryd.underlying28 (by rfl) (hi_1 _)) ?_
  refine flow_take (i := 12) (.agg (pc (((x).a) * ((x).b)))) (by rfl) (by kernel_rfl) (by kernel_rfl) (by kernel_rfl) (by rfl) (by kernel_rfl) (List.Sublist.cons_cons _ (List.Sublist.cons _ (List.Sublist.refl _))) (gives_load g3 0 28 (pc (((x).a) * ((x).b))) (pc (((x).a) * ((x).b))) _ (by rfl) (fun _ h => h.blk 0 (by rfl)) (Sl.refl _) Tryd.underlying28 (by rfl) (hi_1 _)) ?_
  refine flow_take (i := 13) (.agg (pc ((((x).a) * ((x).b)) + (((x).a) * ((x).b))))) (by rfl) (by kernel_rfl) (by kernel_rfl) (by kernel_rfl) (by rfl) (by kernel_rfl) (List.Sublist.cons_cons _ (List.Sublist.cons _ (List.Sublist.refl _))) (gives_call (vl := [.agg (pc (((x).a) * ((x).b))), .agg (pc (((x).a) * ((x).b)))]) (by kernel_rfl) (by rfl) (fun w h => v_add _ _ w (hG.keep h.below))) ?_
  refine flow_take (i := 14) (.agg (c2 (⟨(((x).a) + ((x).b)) * (((x).a) - ((x).b)), (((x).a) * ((x).b)) + (((x).a) * ((x).b))⟩ : F2))) (by rfl) (by kernel_rfl) (by kernel_rfl) (by kernel_rfl) (by rfl) (by kernel_rfl) (List.Sublist.cons_cons _ (List.Sublist.cons _ (List.Sublist.refl _))) (gb_fp2 [(0, (pc ((((x).a) + ((x).b)) * (((x).a) - ((x).b))))), (1, (pc ((((x).a) * ((x).b)) + (((x).a) * ((x).b)))))] ⟨congrArg some (pc_size _).symm, congrArg some (pc_size _).symm, trivial⟩ (by rfl) (c2 (⟨(((x).a) + ((x).b)) * (((x).a) - ((x).b)), (((x).a) * ((x).b)) + (((x).a) * ((x).b))⟩ : F2)) (by rfl)) ?_
  refine flow_one 15 (by kernel_rfl) ?_
  refine F_store (t := 30) 1 g2 (c2 (0 : F2)) (c2 (⟨(((x).a) + ((x).b)) * (((x).a) - ((x).b)), (((x).a) * ((x).b)) + (((x).a) * ((x).b))⟩ : F2)) (by rfl) (by rfl) (by rfl) (by rfl) (by rfl) (hi_2 _) ((c2_size _).trans (c2_size _).symm) (c2_one _) (.inr (List.Sublist.cons_cons _ (List.Sublist.cons _ (List.Sublist.refl _)))) ?_
  simp only [List.set_cons_zero, List.set_cons_succ]
  refine flow_done (by kernel_rfl) ?_
  intro w3 hw3
  refine wp_ret ?_
  change bodyPost _ _ _ Exit.ret _ _
  refine (ret_cell (by rfl) (by rfl) (by rfl) (hw3.blk 1 (by rfl)) Tryd.underlying30 (by rfl) (hi_2 _) ⟨?_, hw3.below⟩)
  refine congrArg (fun z : F2 => Ending.returned (.agg (c2 z))) ?_
  apply F2.same <;> simp only [F2.mul_a, F2.mul_b] <;> grind
/-- x times a number of the field beneath. -/
def F2.scale (x : F2) (k : Fp) : F2 := ⟨x.a * k, x.b * k⟩
set_option maxRecDepth 100000 in
set_option maxHeartbeats 4000000 in
theorem q_scale (x : F2) (k : Fp) (v : World) (hG : Glo v) : Rets 35 #[.agg (c2 (x)), .agg (pc (k))] v (.agg (c2 (x.scale k))) := by
  refine calls_fr2 Tryd.func35 rfl (by rfl : _ = 14) (by rfl) ?_
  have hw := Hbl.nil v
  refine seq_plain hw [0, 1, 2] (by rfl) ?_
  refine L_box (.agg (c2 (x))) (by rfl) (by rfl) (by rfl) (c2 (x)) (by rfl) ?_; intro g1
  refine L_box (.agg (pc (k))) (by rfl) (by rfl) (by rfl) (pc (k)) (by rfl) ?_; intro g2
  refine L_alloc _ (by rfl) (by rfl) z_2 (c2 (0 : F2)) rfl ?_; intro g3
  refine L_end ?_
  intro w1 hw1
  refine seq_flow (by kernel_rfl) hw1 [] [(g2, 28, (pc (k))), (g1, 30, (c2 (x)))] 10 (by rfl) ?_
  refine flow_take (i := 0) (.pointer (some ⟨g1, 0, none⟩)) (by rfl) (by kernel_rfl) (by kernel_rfl) (by kernel_rfl) (by rfl) (by kernel_rfl) (List.Sublist.cons _ (List.Sublist.refl _)) (gives_value _ fun _ => by kernel_rfl) ?_
  refine flow_take (i := 1) (.agg (pc ((x).a))) (by rfl) (by kernel_rfl) (by kernel_rfl) (by kernel_rfl) (by rfl) (by kernel_rfl) (List.Sublist.cons _ (List.Sublist.refl _)) (gives_load g1 0 30 (c2 (x)) (pc ((x).a)) _ (by rfl) (fun _ h => h.blk 1 (by rfl)) (sl_2a (x) _ _ (Sl.refl _)) Tryd.underlying28 (by rfl) (hi_1 _)) ?_
  refine flow_take (i := 2) (.agg (pc (k))) (by rfl) (by kernel_rfl) (by kernel_rfl) (by kernel_rfl) (by rfl) (by kernel_rfl) (List.Sublist.cons _ (List.Sublist.refl _)) (gives_load g2 0 28 (pc (k)) (pc (k)) _ (by rfl) (fun _ h => h.blk 0 (by rfl)) (Sl.refl _) Tryd.underlying28 (by rfl) (hi_1 _)) ?_
  refine flow_take (i := 3) (.agg (pc (((x).a) * (k)))) (by rfl) (by kernel_rfl) (by kernel_rfl) (by kernel_rfl) (by rfl) (by kernel_rfl) (List.Sublist.cons _ (List.Sublist.refl _)) (gives_call (vl := [.agg (pc ((x).a)), .agg (pc (k))]) (by kernel_rfl) (by rfl) (fun w h => v_mul _ _ w (hG.keep h.below))) ?_
  refine flow_take (i := 4) (.pointer (some ⟨g1, 6, none⟩)) (by rfl) (by kernel_rfl) (by kernel_rfl) (by kernel_rfl) (by rfl) (by kernel_rfl) (List.Sublist.cons _ (List.Sublist.refl _)) (gives_value _ fun _ => by kernel_rfl) ?_
  refine flow_take (i := 5) (.agg (pc ((x).b))) (by rfl) (by kernel_rfl) (by kernel_rfl) (by kernel_rfl) (by rfl) (by kernel_rfl) (List.Sublist.cons _ (List.Sublist.refl _)) (gives_load g1 6 30 (c2 (x)) (pc ((x).b)) _ (by rfl) (fun _ h => h.blk 1 (by rfl)) (sl_2b (x) _ _ 6 (Sl.refl _) (by rfl)) Tryd.underlying28 (by rfl) (hi_1 _)) ?_
  refine flow_take (i := 6) (.agg (pc (k))) (by rfl) (by kernel_rfl) (by kernel_rfl) (by kernel_rfl) (by rfl) (by kernel_rfl) (List.Sublist.cons _ (List.Sublist.refl _)) (gives_load g2 0 28 (pc (k)) (pc (k)) _ (by rfl) (fun _ h => h.blk 0 (by rfl)) (Sl.refl _) Tryd.underlying28 (by rfl) (hi_1 _)) ?_
  refine flow_take (i := 7) (.agg (pc (((x).b) * (k)))) (by rfl) (by kernel_rfl) (by kernel_rfl) (by kernel_rfl) (by rfl) (by kernel_rfl) (List.Sublist.cons _ (List.Sublist.refl _)) (gives_call (vl := [.agg (pc ((x).b)), .agg (pc (k))]) (by kernel_rfl) (by rfl) (fun w h => v_mul _ _ w (hG.keep h.below))) ?_
  refine flow_take (i := 8) (.agg (c2 (⟨((x).a) * (k), ((x).b) * (k)⟩ : F2))) (by rfl) (by kernel_rfl) (by kernel_rfl) (by kernel_rfl) (by rfl) (by kernel_rfl) (List.Sublist.cons _ (List.Sublist.refl _)) (gb_fp2 [(0, (pc (((x).a) * (k)))), (1, (pc (((x).b) * (k))))] ⟨congrArg some (pc_size _).symm, congrArg some (pc_size _).symm, trivial⟩ (by rfl) (c2 (⟨((x).a) * (k), ((x).b) * (k)⟩ : F2)) (by rfl)) ?_
  refine flow_one 9 (by kernel_rfl) ?_
  refine F_store (t := 30) 0 g3 (c2 (0 : F2)) (c2 (⟨((x).a) * (k), ((x).b) * (k)⟩ : F2)) (by rfl) (by rfl) (by rfl) (by rfl) (by rfl) (hi_2 _) ((c2_size _).trans (c2_size _).symm) (c2_one _) (.inr (List.Sublist.cons _ (List.Sublist.refl _))) ?_
  simp only [List.set_cons_zero, List.set_cons_succ]
  refine flow_done (by kernel_rfl) ?_
  intro w2 hw2
  refine wp_ret ?_
  change bodyPost _ _ _ Exit.ret _ _
  refine (ret_cell (by rfl) (by rfl) (by rfl) (hw2.blk 0 (by rfl)) Tryd.underlying30 (by rfl) (hi_2 _) ⟨?_, hw2.below⟩)
  exact rfl
set_option maxRecDepth 100000 in
set_option maxHeartbeats 4000000 in
theorem q_norm (x : F2) (v : World) (hG : Glo v) : Rets 32 #[.agg (c2 (x))] v (.agg (pc x.norm)) := by
  refine calls_fr1 Tryd.func32 rfl (by rfl : _ = 10) (by rfl) ?_
  have hw := Hbl.nil v
  refine seq_plain hw [0, 1] (by rfl) ?_
  refine L_box (.agg (c2 (x))) (by rfl) (by rfl) (by rfl) (c2 (x)) (by rfl) ?_; intro g1
  refine L_alloc _ (by rfl) (by rfl) z_1 (pc (0 : Fp)) rfl ?_; intro g2
  refine L_end ?_
  intro w1 hw1
  refine seq_flow (by kernel_rfl) hw1 [] [(g1, 30, (c2 (x)))] 8 (by rfl) ?_
  refine flow_take (i := 0) (.pointer (some ⟨g1, 0, none⟩)) (by rfl) (by kernel_rfl) (by kernel_rfl) (by kernel_rfl) (by rfl) (by kernel_rfl) (List.Sublist.cons _ (List.Sublist.refl _)) (gives_value _ fun _ => by kernel_rfl) ?_
  refine flow_take (i := 1) (.agg (pc ((x).a))) (by rfl) (by kernel_rfl) (by kernel_rfl) (by kernel_rfl) (by rfl) (by kernel_rfl) (List.Sublist.cons _ (List.Sublist.refl _)) (gives_load g1 0 30 (c2 (x)) (pc ((x).a)) _ (by rfl) (fun _ h => h.blk 0 (by rfl)) (sl_2a (x) _ _ (Sl.refl _)) Tryd.underlying28 (by rfl) (hi_1 _)) ?_
  refine flow_take (i := 2) (.agg (pc (((x).a) * ((x).a)))) (by rfl) (by kernel_rfl) (by kernel_rfl) (by kernel_rfl) (by rfl) (by kernel_rfl) (List.Sublist.cons _ (List.Sublist.refl _)) (gives_call (vl := [.agg (pc ((x).a))]) (by kernel_rfl) (by rfl) (fun w h => v_square _ w (hG.keep h.below))) ?_
  refine flow_take (i := 3) (.pointer (some ⟨g1, 6, none⟩)) (by rfl) (by kernel_rfl) (by kernel_rfl) (by kernel_rfl) (by rfl) (by kernel_rfl) (List.Sublist.cons _ (List.Sublist.refl _)) (gives_value _ fun _ => by kernel_rfl) ?_
  refine flow_take (i := 4) (.agg (pc ((x).b))) (by rfl) (by kernel_rfl) (by kernel_rfl) (by kernel_rfl) (by rfl) (by kernel_rfl) (List.Sublist.cons _ (List.Sublist.refl _)) (gives_load g1 6 30 (c2 (x)) (pc ((x).b)) _ (by rfl) (fun _ h => h.blk 0 (by rfl)) (sl_2b (x) _ _ 6 (Sl.refl _) (by rfl)) Tryd.underlying28 (by rfl) (hi_1 _)) ?_
  refine flow_take (i := 5) (.agg (pc (((x).b) * ((x).b)))) (by rfl) (by kernel_rfl) (by kernel_rfl) (by kernel_rfl) (by rfl) (by kernel_rfl) (List.Sublist.cons _ (List.Sublist.refl _)) (gives_call (vl := [.agg (pc ((x).b))]) (by kernel_rfl) (by rfl) (fun w h => v_square _ w (hG.keep h.below))) ?_
  refine flow_take (i := 6) (.agg (pc ((((x).a) * ((x).a)) + (((x).b) * ((x).b))))) (by rfl) (by kernel_rfl) (by kernel_rfl) (by kernel_rfl) (by rfl) (by kernel_rfl) (List.Sublist.cons _ (List.Sublist.refl _)) (gives_call (vl := [.agg (pc (((x).a) * ((x).a))), .agg (pc (((x).b) * ((x).b)))]) (by kernel_rfl) (by rfl) (fun w h => v_add _ _ w (hG.keep h.below))) ?_
  refine flow_one 7 (by kernel_rfl) ?_
  refine F_store (t := 28) 0 g2 (pc (0 : Fp)) (pc ((((x).a) * ((x).a)) + (((x).b) * ((x).b)))) (by rfl) (by rfl) (by rfl) (by rfl) (by rfl) (hi_1 _) ((pc_size _).trans (pc_size _).symm) (pc_one _) (.inr (List.Sublist.cons _ (List.Sublist.refl _))) ?_
  simp only [List.set_cons_zero, List.set_cons_succ]
  refine flow_done (by kernel_rfl) ?_
  intro w2 hw2
  refine wp_ret ?_
  change bodyPost _ _ _ Exit.ret _ _
  refine (ret_cell (by rfl) (by rfl) (by rfl) (hw2.blk 0 (by rfl)) Tryd.underlying28 (by rfl) (hi_1 _) ⟨?_, hw2.below⟩)
  exact rfl
/-- 1/x; of 0 it is 0. -/
def F2.inv (x : F2) : F2 := x.conj.scale x.norm.inv
set_option maxRecDepth 100000 in
set_option maxHeartbeats 4000000 in
theorem q_inv (x : F2) (v : World) (hG : Glo v) : Rets 44 #[.agg (c2 (x))] v (.agg (c2 x.inv)) := by
  refine calls_fr1 Tryd.func44 rfl (by rfl : _ = 9) (by rfl) ?_
  have hw := Hbl.nil v
  refine seq_plain hw [0, 1] (by rfl) ?_
  refine L_box (.agg (c2 (x))) (by rfl) (by rfl) (by rfl) (c2 (x)) (by rfl) ?_; intro g1
  refine L_alloc _ (by rfl) (by rfl) z_2 (c2 (0 : F2)) rfl ?_; intro g2
  refine L_end ?_
  intro w1 hw1
  refine seq_flow (by kernel_rfl) hw1 [] [(g1, 30, (c2 (x)))] 7 (by rfl) ?_
  refine flow_take (i := 0) (.agg (c2 (x))) (by rfl) (by kernel_rfl) (by kernel_rfl) (by kernel_rfl) (by rfl) (by kernel_rfl) (List.Sublist.cons _ (List.Sublist.refl _)) (gives_load g1 0 30 (c2 (x)) (c2 (x)) _ (by rfl) (fun _ h => h.blk 0 (by rfl)) (Sl.refl _) Tryd.underlying30 (by rfl) (hi_2 _)) ?_
  refine flow_take (i := 1) (.agg (c2 (F2.conj (x)))) (by rfl) (by kernel_rfl) (by kernel_rfl) (by kernel_rfl) (by rfl) (by kernel_rfl) (List.Sublist.cons _ (List.Sublist.refl _)) (gives_call (vl := [.agg (c2 (x))]) (by kernel_rfl) (by rfl) (fun w h => q_conj _ w (hG.keep h.below))) ?_
  refine flow_take (i := 2) (.agg (c2 (x))) (by rfl) (by kernel_rfl) (by kernel_rfl) (by kernel_rfl) (by rfl) (by kernel_rfl) (List.Sublist.cons _ (List.Sublist.refl _)) (gives_load g1 0 30 (c2 (x)) (c2 (x)) _ (by rfl) (fun _ h => h.blk 0 (by rfl)) (Sl.refl _) Tryd.underlying30 (by rfl) (hi_2 _)) ?_
  refine flow_take (i := 3) (.agg (pc (F2.norm (x)))) (by rfl) (by kernel_rfl) (by kernel_rfl) (by kernel_rfl) (by rfl) (by kernel_rfl) (List.Sublist.cons _ (List.Sublist.refl _)) (gives_call (vl := [.agg (c2 (x))]) (by kernel_rfl) (by rfl) (fun w h => q_norm _ w (hG.keep h.below))) ?_
  refine flow_take (i := 4) (.agg (pc (Fp.inv (F2.norm (x))))) (by rfl) (by kernel_rfl) (by kernel_rfl) (by kernel_rfl) (by rfl) (by kernel_rfl) (List.Sublist.cons _ (List.Sublist.refl _)) (gives_call (vl := [.agg (pc (F2.norm (x)))]) (by kernel_rfl) (by rfl) (fun w h => v_inv _ w (hG.keep h.below))) ?_
  refine flow_take (i := 5) (.agg (c2 (F2.scale (F2.conj (x)) (Fp.inv (F2.norm (x)))))) (by rfl) (by kernel_rfl) (by kernel_rfl) (by kernel_rfl) (by rfl) (by kernel_rfl) (List.Sublist.cons _ (List.Sublist.refl _)) (gives_call (vl := [.agg (c2 (F2.conj (x))), .agg (pc (Fp.inv (F2.norm (x))))]) (by kernel_rfl) (by rfl) (fun w h => q_scale _ _ w (hG.keep h.below))) ?_
  refine flow_one 6 (by kernel_rfl) ?_
  refine F_store (t := 30) 0 g2 (c2 (0 : F2)) (c2 (F2.scale (F2.conj (x)) (Fp.inv (F2.norm (x))))) (by rfl) (by rfl) (by rfl) (by rfl) (by rfl) (hi_2 _) ((c2_size _).trans (c2_size _).symm) (c2_one _) (.inr (List.Sublist.cons _ (List.Sublist.refl _))) ?_
  simp only [List.set_cons_zero, List.set_cons_succ]
  refine flow_done (by kernel_rfl) ?_
  intro w2 hw2
  refine wp_ret ?_
  change bodyPost _ _ _ Exit.ret _ _
  refine (ret_cell (by rfl) (by rfl) (by rfl) (hw2.blk 0 (by rfl)) Tryd.underlying30 (by rfl) (hi_2 _) ⟨?_, hw2.below⟩)
  exact rfl
set_option maxRecDepth 100000 in
set_option maxHeartbeats 4000000 in
theorem q_of (k : Fp) (v : World) (hG : Glo v) : Rets 36 #[.agg (pc (k))] v (.agg (c2 (F2.of k))) := by
  refine calls_fr1 Tryd.func36 rfl (by rfl : _ = 5) (by rfl) ?_
  have hw := Hbl.nil v
  refine seq_plain hw [0, 1] (by rfl) ?_
  refine L_box (.agg (pc (k))) (by rfl) (by rfl) (by rfl) (pc (k)) (by rfl) ?_; intro g1
  refine L_alloc _ (by rfl) (by rfl) z_2 (c2 (0 : F2)) rfl ?_; intro g2
  refine L_end ?_
  intro w1 hw1
  refine seq_plain hw1 [0, 1, 2] (by rfl) ?_
  refine L_val (.agg (pc (k))) (by rfl) (by rfl) (gives_load g1 0 28 (pc (k)) (pc (k)) _ (by rfl) (fun _ h => h.blk 1 (by rfl)) (Sl.refl _) Tryd.underlying28 (by rfl) (hi_1 _)) ?_
  refine L_val (.agg (c2 (⟨k, (0 : Fp)⟩ : F2))) (by rfl) (by rfl) (gb_fp2 [(0, (pc (k)))] ⟨congrArg some (pc_size _).symm, trivial⟩ (by rfl) (c2 (⟨k, (0 : Fp)⟩ : F2)) (by rfl)) ?_
  refine L_store (t := 30) 0 g2 (c2 (0 : F2)) (c2 (⟨k, (0 : Fp)⟩ : F2)) (by rfl) (by rfl) (by rfl) (by rfl) (by rfl) (hi_2 _) ((c2_size _).trans (c2_size _).symm) (c2_one _) ?_
  simp only [List.set_cons_zero, List.set_cons_succ]
  refine L_end ?_
  intro w2 hw2
  refine wp_ret ?_
  change bodyPost _ _ _ Exit.ret _ _
  refine (ret_cell (by rfl) (by rfl) (by rfl) (hw2.blk 0 (by rfl)) Tryd.underlying30 (by rfl) (hi_2 _) ⟨?_, hw2.below⟩)
  exact rfl
/-- Small numbers. -/
def F2.sm (a b : Int) : F2 := ⟨Fp.n a, Fp.n b⟩
set_option maxRecDepth 100000 in
set_option maxHeartbeats 4000000 in
theorem q_small (m n : Int) (v : World) (hG : Glo v) (hm0 : 0 ≤ m) (hm : m < Wd) (hn0 : 0 ≤ n) (hn : n < Wd) : Rets 45 #[.int .u64 m, .int .u64 n] v (.agg (c2 (F2.sm m n))) := by
  refine calls_fr2 Tryd.func45 rfl (by rfl : _ = 10) (by rfl) ?_
  have hw := Hbl.nil v
  refine seq_plain hw [0] (by rfl) ?_
  refine L_alloc _ (by rfl) (by rfl) z_2 (c2 (0 : F2)) rfl ?_; intro g1
  refine L_end ?_
  intro w1 hw1
  refine seq_plain hw1 [0, 1, 2, 3, 4, 5] (by rfl) ?_
  refine L_val (.int .u64 m) (by rfl) (by rfl) (gives_value _ fun _ => by rfl) ?_
  refine L_val (.agg (pc (Fp.n m))) (by rfl) (by rfl) (gives_call (vl := [.int .u64 m]) (by kernel_rfl) (by rfl) (fun w h => v_of _ w (hG.keep h.below) hm0 hm)) ?_
  refine L_val (.int .u64 n) (by rfl) (by rfl) (gives_value _ fun _ => by rfl) ?_
  refine L_val (.agg (pc (Fp.n n))) (by rfl) (by rfl) (gives_call (vl := [.int .u64 n]) (by kernel_rfl) (by rfl) (fun w h => v_of _ w (hG.keep h.below) hn0 hn)) ?_
  refine L_val (.agg (c2 (⟨Fp.n m, Fp.n n⟩ : F2))) (by rfl) (by rfl) (gb_fp2 [(0, (pc (Fp.n m))), (1, (pc (Fp.n n)))] ⟨congrArg some (pc_size _).symm, congrArg some (pc_size _).symm, trivial⟩ (by rfl) (c2 (⟨Fp.n m, Fp.n n⟩ : F2)) (by rfl)) ?_
  refine L_store (t := 30) 0 g1 (c2 (0 : F2)) (c2 (⟨Fp.n m, Fp.n n⟩ : F2)) (by rfl) (by rfl) (by rfl) (by rfl) (by rfl) (hi_2 _) ((c2_size _).trans (c2_size _).symm) (c2_one _) ?_
  simp only [List.set_cons_zero, List.set_cons_succ]
  refine L_end ?_
  intro w2 hw2
  refine wp_ret ?_
  change bodyPost _ _ _ Exit.ret _ _
  refine (ret_cell (by rfl) (by rfl) (by rfl) (hw2.blk 0 (by rfl)) Tryd.underlying30 (by rfl) (hi_2 _) ⟨?_, hw2.below⟩)
  exact rfl
set_option maxRecDepth 100000 in
set_option maxHeartbeats 4000000 in
theorem q_zero (x : F2) (v : World) (hG : Glo v) : Rets 13 #[.agg (c2 (x))] v (.bool (decide (x = 0))) := by
  refine calls_fr1 Tryd.func13 rfl (by rfl : _ = 6) (by rfl) ?_
  have hw := Hbl.nil v
  refine seq_plain hw [0, 1] (by rfl) ?_
  refine L_box (.agg (c2 (x))) (by rfl) (by rfl) (by rfl) (c2 (x)) (by rfl) ?_; intro g1
  refine L_val (.bool false) (by rfl) (by rfl) (gives_value _ fun _ => by rfl) ?_
  refine L_end ?_
  intro w1 hw1
  refine seq_plain hw1 [0, 1, 2, 3] (by rfl) ?_
  refine L_val (.agg (c2 (x))) (by rfl) (by rfl) (gives_load g1 0 30 (c2 (x)) (c2 (x)) _ (by rfl) (fun _ h => h.blk 0 (by rfl)) (Sl.refl _) Tryd.underlying30 (by rfl) (hi_2 _)) ?_
  refine L_val (.agg (c2 (0 : F2))) (by rfl) (by rfl) (gb_fp2 [] trivial (by rfl) (c2 (0 : F2)) (by rfl)) ?_
  refine L_val (.bool (decide ((x) = (0 : F2)))) (by rfl) (by rfl) (gives_eql (c2 (x)) (c2 (0 : F2)) (decide ((x) = (0 : F2))) (by rfl) (by rfl) (by kernel_rfl) (fun w => eq_2 (x) (0 : F2) 9996 w)) ?_
  refine L_val (.bool (decide ((x) = (0 : F2)))) (by rfl) (by rfl) (gives_value _ fun _ => by rfl) ?_
  refine L_end ?_
  intro w2 hw2
  refine wp_ret ?_
  change bodyPost _ _ _ Exit.ret _ _
  refine (ret_tmp (by rfl) (by rfl) (by rfl) ⟨?_, hw2.below⟩)
  exact rfl
end Go.Proofs.YthfdohhglnhonaaDoor

/-! ## Fm -/
namespace Go.Proofs.YthfdohhglnhonaaDoor
set_option linter.unusedSimpArgs false
set_option linter.unusedVariables false
open Go.RowKit
theorem F2.sm_a (a b : Int) : (F2.sm a b).a = Fp.n a := rfl
theorem F2.sm_b (a b : Int) : (F2.sm a b).b = Fp.n b := rfl
theorem ep_pn : Pn = Ep + 2 := by decide +kernel
theorem Fp.mul_cancel {x y z : Fp} (hx : x ≠ 0) (h : x * y = x * z) : y = z := by
  have h1 : x * (y - z) = 0 := by grind
  rcases Fp.prime h1 with h2 | h2
  · exact absurd h2 hx
  · grind
theorem pw_two_more (x : Fp) (n m : Nat) (h : m = n + 2) : pw x m = pw x n * x * x := by subst h; rfl
theorem Fp.inv_mul {x : Fp} (hx : x ≠ 0) : x * x.inv = 1 := by
  have h := (Fp.fermat x).symm.trans (pw_two_more x Ep Pn ep_pn)
  refine Fp.mul_cancel hx ?_
  show x * (x * pw x Ep) = x * 1
  generalize pw x Ep = y at h
  rw [Fp.cr.mul_one]
  refine Eq.trans ?_ h.symm
  grind
theorem Fp.inv_zero : (0 : Fp).inv = 0 := by
  unfold Fp.inv
  exact zero_pw Fp.cr Ep (by unfold Ep; omega)
/-- Is a square. -/
def Fp.sq (x : Fp) : Prop := x.rt * x.rt = x
theorem Fp.rt_n (k : Int) : (Fp.n k).sq ↔ k ^ Qp * k ^ Qp % Mp = k % Mp := by
  rw [← Fp.n_inj, Fp.n_mul, Fp.n_pow]
  rfl
theorem Fp.n_eq_zero {k : Int} : Fp.n k = 0 ↔ k % Mp = 0 := by
  rw [← Fp.n_zero, Fp.n_inj]
  simp
theorem Fp.exists_n (x : Fp) : ∃ k : Int, x = Fp.n k := ⟨x.val, (Fp.n_of x).symm⟩
theorem Fp.sq_sq (x : Fp) : (x * x).sq := by
  obtain ⟨k, rfl⟩ := Fp.exists_n x
  rw [← Fp.n_mul, Fp.rt_n]
  exact square_sq k
theorem Fp.sq_zero : (0 : Fp).sq := by
  have := Fp.sq_sq 0
  rwa [Fp.mz] at this
theorem Fp.sq_neg {x : Fp} (hx : x ≠ 0) : (-x).sq ↔ ¬ x.sq := by
  obtain ⟨k, rfl⟩ := Fp.exists_n x
  rw [← Fp.n_neg, Fp.rt_n, Fp.rt_n]
  exact neg_sq k (fun h => hx (Fp.n_eq_zero.2 h))
theorem Fp.sq_mul {x y : Fp} (hx : x ≠ 0) (hy : y ≠ 0) : (x * y).sq ↔ (x.sq ↔ y.sq) := by
  obtain ⟨k, rfl⟩ := Fp.exists_n x
  obtain ⟨m, rfl⟩ := Fp.exists_n y
  rw [← Fp.n_mul, Fp.rt_n, Fp.rt_n, Fp.rt_n]
  exact mul_sq k m (fun h => hx (Fp.n_eq_zero.2 h)) (fun h => hy (Fp.n_eq_zero.2 h))
theorem Fp.rt_sq (x : Fp) : (x * x).rt = x ∨ (x * x).rt = -x := by
  obtain ⟨k, rfl⟩ := Fp.exists_n x
  have h := root_square k
  rw [← Fp.n_inj, ← Fp.n_inj, Fp.n_pow, Fp.n_mul, Fp.n_neg] at h
  exact h
theorem F2.norm_zero (x : F2) : x.norm = 0 ↔ x = 0 := by
  constructor
  · intro h
    have hb : x.b = 0 := by
      refine Classical.byContradiction fun hb => ?_
      have h1 : x.b * x.b ≠ 0 := fun e => by rcases Fp.prime e with e | e <;> exact hb e
      have h2 : x.a * x.a = -(x.b * x.b) := by unfold F2.norm at h; grind
      have h3 := Fp.sq_sq x.a
      rw [h2] at h3
      exact (Fp.sq_neg h1).1 h3 (Fp.sq_sq _)
    have ha : x.a = 0 := by
      have h1 : x.a * x.a = 0 := by
        unfold F2.norm at h
        rw [hb, Fp.mz, Fp.cr.add_zero] at h
        exact h
      rcases Fp.prime h1 with e | e <;> exact e
    exact F2.same ha hb
  · rintro rfl
    show (0 : Fp) * 0 + 0 * 0 = 0
    rw [Fp.mz, Fp.za]
theorem F2.mul_inv {x : F2} (hx : x ≠ 0) : x * x.inv = 1 := by
  have hn : x.norm ≠ 0 := fun h => hx ((F2.norm_zero x).1 h)
  have h := Fp.inv_mul hn
  obtain ⟨k, hk⟩ : ∃ k, k = x.norm.inv := ⟨_, rfl⟩
  unfold F2.inv
  rw [← hk] at h ⊢
  unfold F2.norm at h
  apply F2.same <;> simp only [F2.mul_a, F2.mul_b, F2.scale, F2.conj_a, F2.conj_b, F2.one_a, F2.one_b] <;> grind
theorem F2.inv_zero : (0 : F2).inv = 0 := by
  have h : (0 : F2).norm = 0 := (F2.norm_zero 0).2 rfl
  unfold F2.inv
  rw [h, Fp.inv_zero]
  apply F2.same <;> simp only [F2.scale, F2.conj_a, F2.conj_b, F2.zero_a, F2.zero_b, Fp.mz]
theorem F2.mul_zero_iff {x y : F2} : x * y = 0 ↔ x = 0 ∨ y = 0 := by
  constructor
  · intro h
    refine Classical.byContradiction fun hh => ?_
    have hx : x ≠ 0 := fun e => hh (.inl e)
    have hy : y ≠ 0 := fun e => hh (.inr e)
    have h1 := F2.mul_inv hx
    have h2 : y = 0 := by
      rw [← F2.cr.mul_one y, ← h1, F2.cr.mul_lc, ← F2.cr.mul_assoc, h, F2.cr.zero_mul]
    exact hy h2
  · rintro (rfl | rfl)
    · exact F2.cr.zero_mul _
    · exact F2.cr.mul_zero _
end Go.Proofs.YthfdohhglnhonaaDoor

/-! ## Fb -/
namespace Go.Proofs.YthfdohhglnhonaaDoor
set_option linter.unusedSimpArgs false
set_option linter.unusedVariables false
open Go.RowKit
theorem eq_1_t {x y : Fp} {d : Nat} (w : World) (h : x = y) : (Op.equalIn (d + 1 + 1 + 1) 28 (.agg (pc x)) (.agg (pc y))).run Tryd.prog w = .ok true w := by rw [eq_1, decide_eq_true h]
theorem eq_1_f {x y : Fp} {d : Nat} (w : World) (h : x ≠ y) : (Op.equalIn (d + 1 + 1 + 1) 28 (.agg (pc x)) (.agg (pc y))).run Tryd.prog w = .ok false w := by rw [eq_1, decide_eq_false h]
theorem eq_2_t {x y : F2} {d : Nat} (w : World) (h : x = y) : (Op.equalIn (d + 1 + 1 + 1 + 1) 30 (.agg (c2 x)) (.agg (c2 y))).run Tryd.prog w = .ok true w := by rw [eq_2, decide_eq_true h]
theorem eq_2_f {x y : F2} {d : Nat} (w : World) (h : x ≠ y) : (Op.equalIn (d + 1 + 1 + 1 + 1) 30 (.agg (c2 x)) (.agg (c2 y))).run Tryd.prog w = .ok false w := by rw [eq_2, decide_eq_false h]
section
variable {P : Program} {S : World → Prop}
theorem gives_eqlb {l : List (Nat × Value)} {dst : Option Tmp} {t ct ty : TypeId} {x y : Operand} {pos : String} {after : Array Edge} {gd : Option (Nat × Bool)} (a b : Bool) (hx : rho l x = .bool a) (hy : rho l y = .bool b)
    (ht : P.underlying t = some .bool) (h : a = b) : Gives P S (.bool true) (execOp (rho l) ⟨dst, .binOp .eql t x y ct, ty, pos, after, gd⟩) := gives_value _ fun w => by
  subst h
  have h' : (Op.equal t (.bool a) (.bool a)).run P w = .ok true w := by
    unfold Op.equal
    rw [show Op.maxDepth = 9999 + 1 from rfl, run_equalIn_bool w 9999 t a a ht]
    simp
  simp [execOp, hx, hy, eqGuard, binOp, h']
theorem gives_neqb {l : List (Nat × Value)} {dst : Option Tmp} {t ct ty : TypeId} {x y : Operand} {pos : String} {after : Array Edge} {gd : Option (Nat × Bool)} (a b : Bool) (hx : rho l x = .bool a) (hy : rho l y = .bool b)
    (ht : P.underlying t = some .bool) (r : Bool) (h : (a != b) = r) : Gives P S (.bool r) (execOp (rho l) ⟨dst, .binOp .neq t x y ct, ty, pos, after, gd⟩) := gives_value _ fun w => by
  have h' : (Op.equal t (.bool a) (.bool b)).run P w = .ok (a == b) w := by
    unfold Op.equal
    rw [show Op.maxDepth = 9999 + 1 from rfl, run_equalIn_bool w 9999 t a b ht]
  subst h
  simp [execOp, hx, hy, eqGuard, binOp, h']
  cases a <;> cases b <;> rfl
end
set_option maxRecDepth 100000 in
set_option maxHeartbeats 1000000 in
theorem long_no (A0 : Option Addr) (L0 c0 : Nat) (A1 : Option Addr) (L1 c1 : Nat) (A2 : Option Addr) (L2 c2 : Nat) (A3 : Option Addr) (L3 c3 : Nat) (w : World) (h0 : L0 ≤ 64) (h1 : L1 ≤ 64) (h2 : L2 ≤ 64) (h3 : L3 ≤ 64) :
    Rets 19 #[.slice A0 L0 c0, .slice A1 L1 c1, .slice A2 L2 c2, .slice A3 L3 c3] w (.bool false) := by
  unfold Rets
  have j0 : ¬ ((64 : Int) < L0) := by omega
  have j1 : ¬ ((64 : Int) < L1) := by omega
  have j2 : ¬ ((64 : Int) < L2) := by omega
  have j3 : ¬ ((64 : Int) < L3) := by omega
  clear h0 h1 h2 h3
  go_enter Tryd.func19, Tryd.ntmps19
  go_wp2_with fail
  go_ret
  exact ⟨rfl, Below.refl _ _⟩
set_option maxRecDepth 100000 in
set_option maxHeartbeats 1000000 in
theorem long_yes (A0 : Option Addr) (L0 c0 : Nat) (A1 : Option Addr) (L1 c1 : Nat) (A2 : Option Addr) (L2 c2 : Nat) (A3 : Option Addr) (L3 c3 : Nat) (w : World) (h : 64 < L0 ∨ 64 < L1 ∨ 64 < L2 ∨ 64 < L3) :
    Rets 19 #[.slice A0 L0 c0, .slice A1 L1 c1, .slice A2 L2 c2, .slice A3 L3 c3] w (.bool true) := by
  unfold Rets
  by_cases k0 : 64 < L0
  · have j0 : (64 : Int) < L0 := by omega
    clear h k0
    go_enter Tryd.func19, Tryd.ntmps19
    go_wp2_with fail
    go_ret
    exact ⟨rfl, Below.refl _ _⟩
  · have j0 : ¬ ((64 : Int) < L0) := by omega
    by_cases k1 : 64 < L1
    · have j1 : (64 : Int) < L1 := by omega
      clear h k0 k1
      go_enter Tryd.func19, Tryd.ntmps19
      go_wp2_with fail
      go_ret
      exact ⟨rfl, Below.refl _ _⟩
    · have j1 : ¬ ((64 : Int) < L1) := by omega
      by_cases k2 : 64 < L2
      · have j2 : (64 : Int) < L2 := by omega
        clear h k0 k1 k2
        go_enter Tryd.func19, Tryd.ntmps19
        go_wp2_with fail
        go_ret
        exact ⟨rfl, Below.refl _ _⟩
      · have j2 : ¬ ((64 : Int) < L2) := by omega
        have j3 : (64 : Int) < L3 := by omega
        clear h k0 k1 k2
        go_enter Tryd.func19, Tryd.ntmps19
        go_wp2_with fail
        go_ret
        exact ⟨rfl, Below.refl _ _⟩
attribute [local irreducible] wpL wpF fr Code.wp bodyPost
-- HEAD
theorem q_head_e0 {k0 : F2} (hk0 : k0 = F2.sm 1 0) : (k0) ≠ (0 : F2) := by
  subst hk0
  decide +kernel
theorem q_head_e1 {k0 : F2} (hk0 : k0 = F2.sm 1 0) {k1 : F2} (hk1 : k1 = F2.sm 0 1) : ((k1) * (k1)) = (-(k0)) := by
  subst hk0 hk1
  decide +kernel
theorem q_head_e2 {k2 : F2} (hk2 : k2 = F2.sm 1 2) {k3 : F2} (hk3 : k3 = F2.sm 3 1) {k4 : F2} (hk4 : k4 = F2.sm 1 7) : ((k2) * (k3)) = (k4) := by
  subst hk2 hk3 hk4
  decide +kernel
theorem q_head_e3 {k5 : F2} (hk5 : k5 = F2.sm 3 4) {k6 : Fp} (hk6 : k6 = Fp.n 25) : (F2.norm (k5)) = (k6) := by
  subst hk5 hk6
  decide +kernel
set_option maxRecDepth 100000 in
set_option maxHeartbeats 4000000 in
theorem q_head  (v : World) (hG : Glo v) : Rets 9 #[] v (.bool true) := by
  obtain ⟨k0, hk0⟩ : ∃ k : F2, k = F2.sm 1 0 := ⟨_, rfl⟩
  obtain ⟨k1, hk1⟩ : ∃ k : F2, k = F2.sm 0 1 := ⟨_, rfl⟩
  obtain ⟨k2, hk2⟩ : ∃ k : F2, k = F2.sm 1 2 := ⟨_, rfl⟩
  obtain ⟨k3, hk3⟩ : ∃ k : F2, k = F2.sm 3 1 := ⟨_, rfl⟩
  obtain ⟨k4, hk4⟩ : ∃ k : F2, k = F2.sm 1 7 := ⟨_, rfl⟩
  obtain ⟨k5, hk5⟩ : ∃ k : F2, k = F2.sm 3 4 := ⟨_, rfl⟩
  obtain ⟨k6, hk6⟩ : ∃ k : Fp, k = Fp.n 25 := ⟨_, rfl⟩
  refine calls_fr0 Tryd.func9 rfl (by rfl : _ = 24) ?_
  have hw := Hbl.nil v
  refine seq_plain hw [0] (by rfl) ?_
  refine L_val (.bool false) (by rfl) (by rfl) (gives_value _ fun _ => by rfl) ?_
  refine L_end ?_
  intro w1 hw1
  refine seq_plain hw1 [0, 1, 2, 3, 4, 5, 6, 7, 8, 9, 10, 11, 12, 13, 14, 15, 16, 17, 18, 19, 20, 21, 22, 23] (by rfl) ?_
  refine L_val (.agg (c2 (k0))) (by rfl) (by rfl) (gives_call (vl := [.int .u64 1, .int .u64 0]) (by kernel_rfl) (by rfl) (fun w h => by rw [hk0]; exact q_small _ _ w (hG.keep h.below) (by omega) (by simp only [Wd]; omega) (by omega) (by simp only [Wd]; omega))) ?_
  refine L_val (.agg (c2 (0 : F2))) (by rfl) (by rfl) (gb_fp2 [] trivial (by rfl) (c2 (0 : F2)) (by rfl)) ?_
  refine L_val (.bool true) (by rfl) (by rfl) (gives_neq (c2 (k0)) (c2 (0 : F2)) false (by rfl) (by rfl) (by kernel_rfl) (fun w => eq_2_f (d := 9996) w (q_head_e0 hk0))) ?_
  refine L_val (.bool true) (by rfl) (by rfl) (gives_value _ fun _ => by rfl) ?_
  refine L_val_g (dj := 4) (.agg (c2 (k1))) (by rfl) (by rfl) (by rfl) (by rfl) (by rfl) (gives_call (vl := [.int .u64 0, .int .u64 1]) (by kernel_rfl) (by rfl) (fun w h => by rw [hk1]; exact q_small _ _ w (hG.keep h.below) (by omega) (by simp only [Wd]; omega) (by omega) (by simp only [Wd]; omega))) ?_
  refine L_val_g (dj := 4) (.agg (c2 ((k1) * (k1)))) (by rfl) (by rfl) (by rfl) (by rfl) (by rfl) (gives_call (vl := [.agg (c2 (k1))]) (by kernel_rfl) (by rfl) (fun w h => q_square _ w (hG.keep h.below))) ?_
  refine L_val_g (dj := 4) (.agg (c2 (k0))) (by rfl) (by rfl) (by rfl) (by rfl) (by rfl) (gives_call (vl := [.int .u64 1, .int .u64 0]) (by kernel_rfl) (by rfl) (fun w h => by rw [hk0]; exact q_small _ _ w (hG.keep h.below) (by omega) (by simp only [Wd]; omega) (by omega) (by simp only [Wd]; omega))) ?_
  refine L_val_g (dj := 4) (.agg (c2 (-(k0)))) (by rfl) (by rfl) (by rfl) (by rfl) (by rfl) (gives_call (vl := [.agg (c2 (k0))]) (by kernel_rfl) (by rfl) (fun w h => q_neg _ w (hG.keep h.below))) ?_
  refine L_val_g (dj := 4) (.bool true) (by rfl) (by rfl) (by rfl) (by rfl) (by rfl) (gives_eql (c2 ((k1) * (k1))) (c2 (-(k0))) true (by rfl) (by rfl) (by kernel_rfl) (fun w => eq_2_t (d := 9996) w (q_head_e1 hk0 hk1))) ?_
  refine L_val (.bool true) (by rfl) (by rfl) (gives_value _ fun _ => by rfl) ?_
  refine L_val (.bool true) (by rfl) (by rfl) (gives_value _ fun _ => by rfl) ?_
  refine L_val_g (dj := 11) (.agg (c2 (k2))) (by rfl) (by rfl) (by rfl) (by rfl) (by rfl) (gives_call (vl := [.int .u64 1, .int .u64 2]) (by kernel_rfl) (by rfl) (fun w h => by rw [hk2]; exact q_small _ _ w (hG.keep h.below) (by omega) (by simp only [Wd]; omega) (by omega) (by simp only [Wd]; omega))) ?_
  refine L_val_g (dj := 11) (.agg (c2 (k3))) (by rfl) (by rfl) (by rfl) (by rfl) (by rfl) (gives_call (vl := [.int .u64 3, .int .u64 1]) (by kernel_rfl) (by rfl) (fun w h => by rw [hk3]; exact q_small _ _ w (hG.keep h.below) (by omega) (by simp only [Wd]; omega) (by omega) (by simp only [Wd]; omega))) ?_
  refine L_val_g (dj := 11) (.agg (c2 ((k2) * (k3)))) (by rfl) (by rfl) (by rfl) (by rfl) (by rfl) (gives_call (vl := [.agg (c2 (k2)), .agg (c2 (k3))]) (by kernel_rfl) (by rfl) (fun w h => q_mul _ _ w (hG.keep h.below))) ?_
  refine L_val_g (dj := 11) (.agg (c2 (k4))) (by rfl) (by rfl) (by rfl) (by rfl) (by rfl) (gives_call (vl := [.int .u64 1, .int .u64 7]) (by kernel_rfl) (by rfl) (fun w h => by rw [hk4]; exact q_small _ _ w (hG.keep h.below) (by omega) (by simp only [Wd]; omega) (by omega) (by simp only [Wd]; omega))) ?_
  refine L_val_g (dj := 11) (.bool true) (by rfl) (by rfl) (by rfl) (by rfl) (by rfl) (gives_eql (c2 ((k2) * (k3))) (c2 (k4)) true (by rfl) (by rfl) (by kernel_rfl) (fun w => eq_2_t (d := 9996) w (q_head_e2 hk2 hk3 hk4))) ?_
  refine L_val (.bool true) (by rfl) (by rfl) (gives_value _ fun _ => by rfl) ?_
  refine L_val (.bool true) (by rfl) (by rfl) (gives_value _ fun _ => by rfl) ?_
  refine L_val_g (dj := 18) (.agg (c2 (k5))) (by rfl) (by rfl) (by rfl) (by rfl) (by rfl) (gives_call (vl := [.int .u64 3, .int .u64 4]) (by kernel_rfl) (by rfl) (fun w h => by rw [hk5]; exact q_small _ _ w (hG.keep h.below) (by omega) (by simp only [Wd]; omega) (by omega) (by simp only [Wd]; omega))) ?_
  refine L_val_g (dj := 18) (.agg (pc (F2.norm (k5)))) (by rfl) (by rfl) (by rfl) (by rfl) (by rfl) (gives_call (vl := [.agg (c2 (k5))]) (by kernel_rfl) (by rfl) (fun w h => q_norm _ w (hG.keep h.below))) ?_
  refine L_val_g (dj := 18) (.agg (pc (k6))) (by rfl) (by rfl) (by rfl) (by rfl) (by rfl) (gives_call (vl := [.int .u64 25]) (by kernel_rfl) (by rfl) (fun w h => by rw [hk6]; exact v_of 25 w (hG.keep h.below) (by omega) (by simp only [Wd]; omega))) ?_
  refine L_val_g (dj := 18) (.bool true) (by rfl) (by rfl) (by rfl) (by rfl) (by rfl) (gives_eql (pc (F2.norm (k5))) (pc (k6)) true (by rfl) (by rfl) (by kernel_rfl) (fun w => eq_1_t (d := 9997) w (q_head_e3 hk5 hk6))) ?_
  refine L_val (.bool true) (by rfl) (by rfl) (gives_value _ fun _ => by rfl) ?_
  refine L_val (.bool true) (by rfl) (by rfl) (gives_value _ fun _ => by rfl) ?_
  refine L_end ?_
  intro w2 hw2
  refine wp_ret ?_
  change bodyPost _ _ _ Exit.ret _ _
  refine (ret_tmp (by rfl) (by rfl) (by rfl) ⟨?_, hw2.below⟩)
  exact rfl
end Go.Proofs.YthfdohhglnhonaaDoor

/-! ## Fr2 -/
namespace Go.Proofs.YthfdohhglnhonaaDoor
set_option linter.unusedSimpArgs false
set_option linter.unusedVariables false
open Go.RowKit
section
variable {P : Program} {S : World → Prop} {l : List (Nat × Value)} {dst : Option Nat} {x y : Operand} {t ty : TypeId} {pos : String} {after : Array Edge} {gd : Option (Nat × Bool)}
/-- x[:j] and x[j:] of a slice of one-cell elements. -/
theorem gives_low {e : TypeId} {k : IntKind} (b o m c j : Nat) (i : Int) (hx : rho l x = .slice (some ⟨b, o, none⟩) m c) (hy : rho l y = .int k i) (ht : P.underlying t = some (.slice e)) (hs : (P.info? e).map (·.size) = some 1) (h0 : i = (j : Int)) (h1 : j ≤ c) :
    Gives P S (.slice (some ⟨b, o, none⟩) j c) (execOp (rho l) ⟨dst, .slice t x none (some y) none, ty, pos, after, gd⟩) := gives_value _ fun w => by
  subst h0
  obtain ⟨ie, he, hz⟩ := Option.map_eq_some_iff.1 hs
  simp [execOp, hx, hy, Instr.sliceAt, Instr.slice, Instr.sliceBounds, Instr.sliceBound, run_underlying ht, asIntOf, sizeOf, typeInfo, he, hz, h1, add_plain]
theorem gives_high {e : TypeId} {k : IntKind} (b o m c j : Nat) (i : Int) (hx : rho l x = .slice (some ⟨b, o, none⟩) m c) (hy : rho l y = .int k i) (ht : P.underlying t = some (.slice e)) (hs : (P.info? e).map (·.size) = some 1) (h0 : i = (j : Int)) (h1 : j ≤ m) (h2 : m ≤ c) (h3 : j < c) :
    Gives P S (.slice (some ⟨b, o + j, none⟩) (m - j) (c - j)) (execOp (rho l) ⟨dst, .slice t x (some y) none none, ty, pos, after, gd⟩) := gives_value _ fun w => by
  subst h0
  obtain ⟨ie, he, hz⟩ := Option.map_eq_some_iff.1 hs
  have h4 : ¬ c = j := by omega
  simp [execOp, hx, hy, Instr.sliceAt, Instr.slice, Instr.sliceBounds, Instr.sliceBound, run_underlying ht, asIntOf, sizeOf, typeInfo, he, hz, h1, h2, h4, add_plain]
end
theorem front48 {w : World} {b o : Nat} {bs : List Int} (h : Reads w w.heap.size (some ⟨b, o, none⟩) 96 (bs.map (Value.int .u8))) : Reads w w.heap.size (some ⟨b, o, none⟩) 48 ((bs.take 48).map (Value.int .u8)) := by
  have := h.front (k := 48) (by omega)
  rwa [← List.map_take] at this
theorem back48 {w : World} {b o : Nat} {bs : List Int} (h : Reads w w.heap.size (some ⟨b, o, none⟩) 96 (bs.map (Value.int .u8))) : Reads w w.heap.size (some ⟨b, o + 48, none⟩) 48 ((bs.drop 48).map (Value.int .u8)) := by
  have e := reads_part h 48 48 (by omega) (by omega)
  have hl : bs.length = 96 := by simpa using h.1
  rw [← List.map_drop, ← List.map_take, List.take_of_length_le (by simp; omega)] at e
  exact e
attribute [local irreducible] wpL wpF fr Code.wp bodyPost
set_option maxRecDepth 100000 in
set_option maxHeartbeats 4000000 in
theorem q_read_len (A0 : Option Addr) (L0 C0 : Nat) (v : World) (hL : L0 ≠ 96) : Rets 11 #[.slice A0 L0 C0] v (.tuple #[.agg (c2 0), .int .i64 10]) := by
  refine calls_fr1 Tryd.func11 rfl (by rfl : _ = 34) (by rfl) ?_
  have hw := Hbl.nil v
  refine seq_plain hw [0, 1] (by rfl) ?_
  refine L_alloc _ (by rfl) (by rfl) z_2 (c2 (0 : F2)) rfl ?_; intro g1
  refine L_val (.int .i64 0) (by rfl) (by rfl) (gives_value _ fun _ => by rfl) ?_
  refine L_end ?_
  intro w1 hw1
  refine wp_seq ?_
  refine seq_plain hw1 [0, 1, 2] (by rfl) ?_
  refine L_val (.slice A0 L0 C0) (by rfl) (by rfl) (gives_value _ fun _ => by rfl) ?_
  refine L_val (.int .i64 (L0 : Int)) (by rfl) (by rfl) (gives_len _ L0 C0 und_u8s (by rfl)) ?_
  refine L_val (.bool true) (by rfl) (by rfl) (gives_ine (k := .i64) ((L0 : Int)) (96) true (by rfl) (by rfl) (decide_eq_true (by omega))) ?_
  refine L_end ?_
  intro w2 hw2
  refine wp_cond_true (fr_at _ _ (by rfl) _) ?_
  refine seq_plain hw2 [0, 1, 2] (by rfl) ?_
  refine L_val (.agg (c2 (0 : F2))) (by rfl) (by rfl) (gb_fp2 [] trivial (by rfl) (c2 (0 : F2)) (by rfl)) ?_
  refine L_store (t := 30) 0 g1 (c2 (0 : F2)) (c2 (0 : F2)) (by rfl) (by rfl) (by rfl) (by rfl) (by rfl) (hi_2 _) ((c2_size _).trans (c2_size _).symm) (c2_one _) ?_
  simp only [List.set_cons_zero, List.set_cons_succ]
  refine L_val (.int .i64 10) (by rfl) (by rfl) (gives_value _ fun _ => by rfl) ?_
  refine L_end ?_
  intro w3 hw3
  refine wp_ret ?_
  change bodyPost _ _ _ Exit.ret _ _
  refine (ret_cell_tmp (by rfl) (by rfl) (by rfl) (by rfl) (hw3.blk 0 (by rfl)) Tryd.underlying30 (by rfl) (hi_2 _) ⟨?_, hw3.below⟩)
  rfl
set_option maxRecDepth 100000 in
set_option maxHeartbeats 4000000 in
theorem q_read_b (b o C0 : Nat) (bs0 : List Int) (v : World) (hG : Glo v) (hr0 : Reads v v.heap.size (some ⟨b, o, none⟩) 96 (bs0.map (Value.int .u8))) (ho0 : Oct bs0) (hc : 96 ≤ C0) (hb : Mp ≤ num (bs0.take 48)) : Rets 11 #[.slice (some ⟨b, o, none⟩) 96 C0] v (.tuple #[.agg (c2 0), .int .i64 12]) := by
  refine calls_fr1 Tryd.func11 rfl (by rfl : _ = 34) (by rfl) ?_
  have hw := Hbl.nil v
  refine seq_plain hw [0, 1] (by rfl) ?_
  refine L_alloc _ (by rfl) (by rfl) z_2 (c2 (0 : F2)) rfl ?_; intro g1
  refine L_val (.int .i64 0) (by rfl) (by rfl) (gives_value _ fun _ => by rfl) ?_
  refine L_end ?_
  intro w1 hw1
  refine wp_seq ?_
  refine seq_plain hw1 [0, 1, 2] (by rfl) ?_
  refine L_val (.slice (some ⟨b, o, none⟩) 96 C0) (by rfl) (by rfl) (gives_value _ fun _ => by rfl) ?_
  refine L_val (.int .i64 (96 : Int)) (by rfl) (by rfl) (gives_len _ 96 C0 und_u8s (by rfl)) ?_
  refine L_val (.bool false) (by rfl) (by rfl) (gives_ine (k := .i64) ((96 : Int)) (96) false (by rfl) (by rfl) (decide_eq_false (by omega))) ?_
  refine L_end ?_
  intro w2 hw2
  refine wp_cond_false (fr_at _ _ (by rfl) _) ?_
  refine wp_skip ?_
  change Code.wp _ _ _ _ _
  refine seq_plain hw2 [0, 1, 2, 3, 4, 5, 6, 7, 8] (by rfl) ?_
  refine L_val (.slice (some ⟨b, o, none⟩) 96 C0) (by rfl) (by rfl) (gives_value _ fun _ => by rfl) ?_
  refine L_val (.slice (some ⟨b, o, none⟩) 48 C0) (by rfl) (by rfl) (gives_low b o 96 C0 48 48 (by rfl) (by rfl) und_u8s u8_sz rfl (by omega)) ?_
  refine L_val (.tuple #[.agg (pc (0 : Fp)), .int .i64 12]) (by rfl) (by rfl) (gives_call (vl := [.slice (some ⟨b, o, none⟩) 48 C0]) (by kernel_rfl) (by rfl) (fun w h => v_read_field _ _ (bs0.take 48) w (hG.keep h.below) (front48 ((hr0.below h.below).more h.below.size)) (ho0.take 48) (by omega) hb)) ?_
  refine L_val (.tuple #[.agg (pc (0 : Fp)), .int .i64 12]) (by rfl) (by rfl) (gives_value _ fun _ => by rfl) ?_
  refine L_val (.agg (pc (0 : Fp))) (by rfl) (by rfl) (gives_value _ fun _ => by kernel_rfl) ?_
  refine L_val (.int .i64 12) (by rfl) (by rfl) (gives_value _ fun _ => by kernel_rfl) ?_
  refine L_alloc _ (by rfl) (by rfl) z_1 (pc (0 : Fp)) rfl ?_; intro g2
  refine L_store (t := 28) 0 g2 (pc (0 : Fp)) (pc (0 : Fp)) (by rfl) (by rfl) (by rfl) (by rfl) (by rfl) (hi_1 _) ((pc_size _).trans (pc_size _).symm) (pc_one _) ?_
  simp only [List.set_cons_zero, List.set_cons_succ]
  refine L_val (.int .i64 12) (by rfl) (by rfl) (gives_value _ fun _ => by rfl) ?_
  refine L_end ?_
  intro w3 hw3
  refine wp_seq ?_
  refine seq_plain hw3 [0, 1] (by rfl) ?_
  refine L_val (.int .i64 12) (by rfl) (by rfl) (gives_value _ fun _ => by rfl) ?_
  refine L_val (.bool true) (by rfl) (by rfl) (gives_ine (k := .i64) (12) (0) true (by rfl) (by rfl) (decide_eq_true (by omega))) ?_
  refine L_end ?_
  intro w4 hw4
  refine wp_cond_true (fr_at _ _ (by rfl) _) ?_
  refine seq_plain hw4 [0, 1, 2, 3] (by rfl) ?_
  refine L_val (.agg (c2 (0 : F2))) (by rfl) (by rfl) (gb_fp2 [] trivial (by rfl) (c2 (0 : F2)) (by rfl)) ?_
  refine L_val (.int .i64 12) (by rfl) (by rfl) (gives_value _ fun _ => by rfl) ?_
  refine L_store (t := 30) 1 g1 (c2 (0 : F2)) (c2 (0 : F2)) (by rfl) (by rfl) (by rfl) (by rfl) (by rfl) (hi_2 _) ((c2_size _).trans (c2_size _).symm) (c2_one _) ?_
  simp only [List.set_cons_zero, List.set_cons_succ]
  refine L_val (.int .i64 12) (by rfl) (by rfl) (gives_value _ fun _ => by rfl) ?_
  refine L_end ?_
  intro w5 hw5
  refine wp_ret ?_
  change bodyPost _ _ _ Exit.ret _ _
  refine (ret_cell_tmp (by rfl) (by rfl) (by rfl) (by rfl) (hw5.blk 1 (by rfl)) Tryd.underlying30 (by rfl) (hi_2 _) ⟨?_, hw5.below⟩)
  rfl
set_option maxRecDepth 100000 in
set_option maxHeartbeats 4000000 in
theorem q_read_a (b o C0 : Nat) (bs0 : List Int) (v : World) (hG : Glo v) (hr0 : Reads v v.heap.size (some ⟨b, o, none⟩) 96 (bs0.map (Value.int .u8))) (ho0 : Oct bs0) (hc : 96 ≤ C0) (hb : num (bs0.take 48) < Mp) (ha : Mp ≤ num (bs0.drop 48)) : Rets 11 #[.slice (some ⟨b, o, none⟩) 96 C0] v (.tuple #[.agg (c2 0), .int .i64 12]) := by
  refine calls_fr1 Tryd.func11 rfl (by rfl : _ = 34) (by rfl) ?_
  have hw := Hbl.nil v
  refine seq_plain hw [0, 1] (by rfl) ?_
  refine L_alloc _ (by rfl) (by rfl) z_2 (c2 (0 : F2)) rfl ?_; intro g1
  refine L_val (.int .i64 0) (by rfl) (by rfl) (gives_value _ fun _ => by rfl) ?_
  refine L_end ?_
  intro w1 hw1
  refine wp_seq ?_
  refine seq_plain hw1 [0, 1, 2] (by rfl) ?_
  refine L_val (.slice (some ⟨b, o, none⟩) 96 C0) (by rfl) (by rfl) (gives_value _ fun _ => by rfl) ?_
  refine L_val (.int .i64 (96 : Int)) (by rfl) (by rfl) (gives_len _ 96 C0 und_u8s (by rfl)) ?_
  refine L_val (.bool false) (by rfl) (by rfl) (gives_ine (k := .i64) ((96 : Int)) (96) false (by rfl) (by rfl) (decide_eq_false (by omega))) ?_
  refine L_end ?_
  intro w2 hw2
  refine wp_cond_false (fr_at _ _ (by rfl) _) ?_
  refine wp_skip ?_
  change Code.wp _ _ _ _ _
  refine seq_plain hw2 [0, 1, 2, 3, 4, 5, 6, 7, 8] (by rfl) ?_
  refine L_val (.slice (some ⟨b, o, none⟩) 96 C0) (by rfl) (by rfl) (gives_value _ fun _ => by rfl) ?_
  refine L_val (.slice (some ⟨b, o, none⟩) 48 C0) (by rfl) (by rfl) (gives_low b o 96 C0 48 48 (by rfl) (by rfl) und_u8s u8_sz rfl (by omega)) ?_
  refine L_val (.tuple #[.agg (pc (Fp.n (num (bs0.take 48)))), .int .i64 0]) (by rfl) (by rfl) (gives_call (vl := [.slice (some ⟨b, o, none⟩) 48 C0]) (by kernel_rfl) (by rfl) (fun w h => v_read_ok _ _ (bs0.take 48) w (hG.keep h.below) (front48 ((hr0.below h.below).more h.below.size)) (ho0.take 48) (by omega) hb)) ?_
  refine L_val (.tuple #[.agg (pc (Fp.n (num (bs0.take 48)))), .int .i64 0]) (by rfl) (by rfl) (gives_value _ fun _ => by rfl) ?_
  refine L_val (.agg (pc (Fp.n (num (bs0.take 48))))) (by rfl) (by rfl) (gives_value _ fun _ => by kernel_rfl) ?_
  refine L_val (.int .i64 0) (by rfl) (by rfl) (gives_value _ fun _ => by kernel_rfl) ?_
  refine L_alloc _ (by rfl) (by rfl) z_1 (pc (0 : Fp)) rfl ?_; intro g2
  refine L_store (t := 28) 0 g2 (pc (0 : Fp)) (pc (Fp.n (num (bs0.take 48)))) (by rfl) (by rfl) (by rfl) (by rfl) (by rfl) (hi_1 _) ((pc_size _).trans (pc_size _).symm) (pc_one _) ?_
  simp only [List.set_cons_zero, List.set_cons_succ]
  refine L_val (.int .i64 0) (by rfl) (by rfl) (gives_value _ fun _ => by rfl) ?_
  refine L_end ?_
  intro w3 hw3
  refine wp_seq ?_
  refine seq_plain hw3 [0, 1] (by rfl) ?_
  refine L_val (.int .i64 0) (by rfl) (by rfl) (gives_value _ fun _ => by rfl) ?_
  refine L_val (.bool false) (by rfl) (by rfl) (gives_ine (k := .i64) (0) (0) false (by rfl) (by rfl) (decide_eq_false (by omega))) ?_
  refine L_end ?_
  intro w4 hw4
  refine wp_cond_false (fr_at _ _ (by rfl) _) ?_
  refine wp_skip ?_
  change Code.wp _ _ _ _ _
  refine seq_plain hw4 [0, 1, 2, 3, 4, 5, 6, 7, 8] (by rfl) ?_
  refine L_val (.slice (some ⟨b, o, none⟩) 96 C0) (by rfl) (by rfl) (gives_value _ fun _ => by rfl) ?_
  refine L_val (.slice (some ⟨b, o + 48, none⟩) (96 - 48) (C0 - 48)) (by rfl) (by rfl) (gives_high b o 96 C0 48 48 (by rfl) (by rfl) und_u8s u8_sz rfl (by omega) (by omega) (by omega)) ?_
  refine L_val (.tuple #[.agg (pc (0 : Fp)), .int .i64 12]) (by rfl) (by rfl) (gives_call (vl := [.slice (some ⟨b, o + 48, none⟩) (96 - 48) (C0 - 48)]) (by kernel_rfl) (by rfl) (fun w h => v_read_field _ _ (bs0.drop 48) w (hG.keep h.below) (back48 ((hr0.below h.below).more h.below.size)) (ho0.drop 48) (by omega) ha)) ?_
  refine L_val (.tuple #[.agg (pc (0 : Fp)), .int .i64 12]) (by rfl) (by rfl) (gives_value _ fun _ => by rfl) ?_
  refine L_val (.agg (pc (0 : Fp))) (by rfl) (by rfl) (gives_value _ fun _ => by kernel_rfl) ?_
  refine L_val (.int .i64 12) (by rfl) (by rfl) (gives_value _ fun _ => by kernel_rfl) ?_
  refine L_alloc _ (by rfl) (by rfl) z_1 (pc (0 : Fp)) rfl ?_; intro g3
  refine L_store (t := 28) 0 g3 (pc (0 : Fp)) (pc (0 : Fp)) (by rfl) (by rfl) (by rfl) (by rfl) (by rfl) (hi_1 _) ((pc_size _).trans (pc_size _).symm) (pc_one _) ?_
  simp only [List.set_cons_zero, List.set_cons_succ]
  refine L_val (.int .i64 12) (by rfl) (by rfl) (gives_value _ fun _ => by rfl) ?_
  refine L_end ?_
  intro w5 hw5
  refine wp_seq ?_
  refine seq_plain hw5 [0, 1] (by rfl) ?_
  refine L_val (.int .i64 12) (by rfl) (by rfl) (gives_value _ fun _ => by rfl) ?_
  refine L_val (.bool true) (by rfl) (by rfl) (gives_ine (k := .i64) (12) (0) true (by rfl) (by rfl) (decide_eq_true (by omega))) ?_
  refine L_end ?_
  intro w6 hw6
  refine wp_cond_true (fr_at _ _ (by rfl) _) ?_
  refine seq_plain hw6 [0, 1, 2, 3] (by rfl) ?_
  refine L_val (.agg (c2 (0 : F2))) (by rfl) (by rfl) (gb_fp2 [] trivial (by rfl) (c2 (0 : F2)) (by rfl)) ?_
  refine L_val (.int .i64 12) (by rfl) (by rfl) (gives_value _ fun _ => by rfl) ?_
  refine L_store (t := 30) 2 g1 (c2 (0 : F2)) (c2 (0 : F2)) (by rfl) (by rfl) (by rfl) (by rfl) (by rfl) (hi_2 _) ((c2_size _).trans (c2_size _).symm) (c2_one _) ?_
  simp only [List.set_cons_zero, List.set_cons_succ]
  refine L_val (.int .i64 12) (by rfl) (by rfl) (gives_value _ fun _ => by rfl) ?_
  refine L_end ?_
  intro w7 hw7
  refine wp_ret ?_
  change bodyPost _ _ _ Exit.ret _ _
  refine (ret_cell_tmp (by rfl) (by rfl) (by rfl) (by rfl) (hw7.blk 2 (by rfl)) Tryd.underlying30 (by rfl) (hi_2 _) ⟨?_, hw7.below⟩)
  rfl
set_option maxRecDepth 100000 in
set_option maxHeartbeats 4000000 in
theorem q_read_ok (b o C0 : Nat) (bs0 : List Int) (v : World) (hG : Glo v) (hr0 : Reads v v.heap.size (some ⟨b, o, none⟩) 96 (bs0.map (Value.int .u8))) (ho0 : Oct bs0) (hc : 96 ≤ C0) (hb : num (bs0.take 48) < Mp) (ha : num (bs0.drop 48) < Mp) : Rets 11 #[.slice (some ⟨b, o, none⟩) 96 C0] v (.tuple #[.agg (c2 (⟨Fp.n (num (bs0.drop 48)), Fp.n (num (bs0.take 48))⟩ : F2)), .int .i64 0]) := by
  refine calls_fr1 Tryd.func11 rfl (by rfl : _ = 34) (by rfl) ?_
  have hw := Hbl.nil v
  refine seq_plain hw [0, 1] (by rfl) ?_
  refine L_alloc _ (by rfl) (by rfl) z_2 (c2 (0 : F2)) rfl ?_; intro g1
  refine L_val (.int .i64 0) (by rfl) (by rfl) (gives_value _ fun _ => by rfl) ?_
  refine L_end ?_
  intro w1 hw1
  refine wp_seq ?_
  refine seq_plain hw1 [0, 1, 2] (by rfl) ?_
  refine L_val (.slice (some ⟨b, o, none⟩) 96 C0) (by rfl) (by rfl) (gives_value _ fun _ => by rfl) ?_
  refine L_val (.int .i64 (96 : Int)) (by rfl) (by rfl) (gives_len _ 96 C0 und_u8s (by rfl)) ?_
  refine L_val (.bool false) (by rfl) (by rfl) (gives_ine (k := .i64) ((96 : Int)) (96) false (by rfl) (by rfl) (decide_eq_false (by omega))) ?_
  refine L_end ?_
  intro w2 hw2
  refine wp_cond_false (fr_at _ _ (by rfl) _) ?_
  refine wp_skip ?_
  change Code.wp _ _ _ _ _
  refine seq_plain hw2 [0, 1, 2, 3, 4, 5, 6, 7, 8] (by rfl) ?_
  refine L_val (.slice (some ⟨b, o, none⟩) 96 C0) (by rfl) (by rfl) (gives_value _ fun _ => by rfl) ?_
  refine L_val (.slice (some ⟨b, o, none⟩) 48 C0) (by rfl) (by rfl) (gives_low b o 96 C0 48 48 (by rfl) (by rfl) und_u8s u8_sz rfl (by omega)) ?_
  refine L_val (.tuple #[.agg (pc (Fp.n (num (bs0.take 48)))), .int .i64 0]) (by rfl) (by rfl) (gives_call (vl := [.slice (some ⟨b, o, none⟩) 48 C0]) (by kernel_rfl) (by rfl) (fun w h => v_read_ok _ _ (bs0.take 48) w (hG.keep h.below) (front48 ((hr0.below h.below).more h.below.size)) (ho0.take 48) (by omega) hb)) ?_
  refine L_val (.tuple #[.agg (pc (Fp.n (num (bs0.take 48)))), .int .i64 0]) (by rfl) (by rfl) (gives_value _ fun _ => by rfl) ?_
  refine L_val (.agg (pc (Fp.n (num (bs0.take 48))))) (by rfl) (by rfl) (gives_value _ fun _ => by kernel_rfl) ?_
  refine L_val (.int .i64 0) (by rfl) (by rfl) (gives_value _ fun _ => by kernel_rfl) ?_
  refine L_alloc _ (by rfl) (by rfl) z_1 (pc (0 : Fp)) rfl ?_; intro g2
  refine L_store (t := 28) 0 g2 (pc (0 : Fp)) (pc (Fp.n (num (bs0.take 48)))) (by rfl) (by rfl) (by rfl) (by rfl) (by rfl) (hi_1 _) ((pc_size _).trans (pc_size _).symm) (pc_one _) ?_
  simp only [List.set_cons_zero, List.set_cons_succ]
  refine L_val (.int .i64 0) (by rfl) (by rfl) (gives_value _ fun _ => by rfl) ?_
  refine L_end ?_
  intro w3 hw3
  refine wp_seq ?_
  refine seq_plain hw3 [0, 1] (by rfl) ?_
  refine L_val (.int .i64 0) (by rfl) (by rfl) (gives_value _ fun _ => by rfl) ?_
  refine L_val (.bool false) (by rfl) (by rfl) (gives_ine (k := .i64) (0) (0) false (by rfl) (by rfl) (decide_eq_false (by omega))) ?_
  refine L_end ?_
  intro w4 hw4
  refine wp_cond_false (fr_at _ _ (by rfl) _) ?_
  refine wp_skip ?_
  change Code.wp _ _ _ _ _
  refine seq_plain hw4 [0, 1, 2, 3, 4, 5, 6, 7, 8] (by rfl) ?_
  refine L_val (.slice (some ⟨b, o, none⟩) 96 C0) (by rfl) (by rfl) (gives_value _ fun _ => by rfl) ?_
  refine L_val (.slice (some ⟨b, o + 48, none⟩) (96 - 48) (C0 - 48)) (by rfl) (by rfl) (gives_high b o 96 C0 48 48 (by rfl) (by rfl) und_u8s u8_sz rfl (by omega) (by omega) (by omega)) ?_
  refine L_val (.tuple #[.agg (pc (Fp.n (num (bs0.drop 48)))), .int .i64 0]) (by rfl) (by rfl) (gives_call (vl := [.slice (some ⟨b, o + 48, none⟩) (96 - 48) (C0 - 48)]) (by kernel_rfl) (by rfl) (fun w h => v_read_ok _ _ (bs0.drop 48) w (hG.keep h.below) (back48 ((hr0.below h.below).more h.below.size)) (ho0.drop 48) (by omega) ha)) ?_
  refine L_val (.tuple #[.agg (pc (Fp.n (num (bs0.drop 48)))), .int .i64 0]) (by rfl) (by rfl) (gives_value _ fun _ => by rfl) ?_
  refine L_val (.agg (pc (Fp.n (num (bs0.drop 48))))) (by rfl) (by rfl) (gives_value _ fun _ => by kernel_rfl) ?_
  refine L_val (.int .i64 0) (by rfl) (by rfl) (gives_value _ fun _ => by kernel_rfl) ?_
  refine L_alloc _ (by rfl) (by rfl) z_1 (pc (0 : Fp)) rfl ?_; intro g3
  refine L_store (t := 28) 0 g3 (pc (0 : Fp)) (pc (Fp.n (num (bs0.drop 48)))) (by rfl) (by rfl) (by rfl) (by rfl) (by rfl) (hi_1 _) ((pc_size _).trans (pc_size _).symm) (pc_one _) ?_
  simp only [List.set_cons_zero, List.set_cons_succ]
  refine L_val (.int .i64 0) (by rfl) (by rfl) (gives_value _ fun _ => by rfl) ?_
  refine L_end ?_
  intro w5 hw5
  refine wp_seq ?_
  refine seq_plain hw5 [0, 1] (by rfl) ?_
  refine L_val (.int .i64 0) (by rfl) (by rfl) (gives_value _ fun _ => by rfl) ?_
  refine L_val (.bool false) (by rfl) (by rfl) (gives_ine (k := .i64) (0) (0) false (by rfl) (by rfl) (decide_eq_false (by omega))) ?_
  refine L_end ?_
  intro w6 hw6
  refine wp_cond_false (fr_at _ _ (by rfl) _) ?_
  refine wp_skip ?_
  change Code.wp _ _ _ _ _
  refine seq_plain hw6 [0, 1, 2, 3, 4] (by rfl) ?_
  refine L_val (.agg (pc (Fp.n (num (bs0.drop 48))))) (by rfl) (by rfl) (gives_load g3 0 28 (pc (Fp.n (num (bs0.drop 48)))) (pc (Fp.n (num (bs0.drop 48)))) _ (by rfl) (fun _ h => h.blk 0 (by rfl)) (Sl.refl _) Tryd.underlying28 (by rfl) (hi_1 _)) ?_
  refine L_val (.agg (pc (Fp.n (num (bs0.take 48))))) (by rfl) (by rfl) (gives_load g2 0 28 (pc (Fp.n (num (bs0.take 48)))) (pc (Fp.n (num (bs0.take 48)))) _ (by rfl) (fun _ h => h.blk 1 (by rfl)) (Sl.refl _) Tryd.underlying28 (by rfl) (hi_1 _)) ?_
  refine L_val (.agg (c2 (⟨Fp.n (num (bs0.drop 48)), Fp.n (num (bs0.take 48))⟩ : F2))) (by rfl) (by rfl) (gb_fp2 [(0, (pc (Fp.n (num (bs0.drop 48))))), (1, (pc (Fp.n (num (bs0.take 48)))))] ⟨congrArg some (pc_size _).symm, congrArg some (pc_size _).symm, trivial⟩ (by rfl) (c2 (⟨Fp.n (num (bs0.drop 48)), Fp.n (num (bs0.take 48))⟩ : F2)) (by rfl)) ?_
  refine L_store (t := 30) 2 g1 (c2 (0 : F2)) (c2 (⟨Fp.n (num (bs0.drop 48)), Fp.n (num (bs0.take 48))⟩ : F2)) (by rfl) (by rfl) (by rfl) (by rfl) (by rfl) (hi_2 _) ((c2_size _).trans (c2_size _).symm) (c2_one _) ?_
  simp only [List.set_cons_zero, List.set_cons_succ]
  refine L_val (.int .i64 0) (by rfl) (by rfl) (gives_value _ fun _ => by rfl) ?_
  refine L_end ?_
  intro w7 hw7
  refine wp_ret ?_
  change bodyPost _ _ _ Exit.ret _ _
  refine (ret_cell_tmp (by rfl) (by rfl) (by rfl) (by rfl) (hw7.blk 2 (by rfl)) Tryd.underlying30 (by rfl) (hi_2 _) ⟨?_, hw7.below⟩)
  rfl
end Go.Proofs.YthfdohhglnhonaaDoor

/-! ## Fc2 -/
namespace Go.Proofs.YthfdohhglnhonaaDoor
set_option linter.unusedSimpArgs false
set_option linter.unusedVariables false
open Go.RowKit
section
variable {P : Program} {S : World → Prop} {l : List (Nat × Value)} {dst : Option Nat} {x y : Operand} {t ty : TypeId} {pos : String} {after : Array Edge} {gd : Option (Nat × Bool)}
theorem gives_arr_low {e : TypeId} {k : IntKind} (g m j : Nat) (hx : rho l x = .pointer (some ⟨g, 0, none⟩)) (hy : rho l y = .int k (j : Int)) (ht : P.underlying t = some (.array m e)) (hs : (P.info? e).map (·.size) = some 1) (h1 : j ≤ m) (h0 : 0 < m) :
    Gives P S (.slice (some ⟨g, 0, none⟩) j m) (execOp (rho l) ⟨dst, .slice t x none (some y) none, ty, pos, after, gd⟩) := gives_value _ fun w => by
  obtain ⟨ie, he, hz⟩ := Option.map_eq_some_iff.1 hs
  have h2 : ¬ m = 0 := by omega
  simp [execOp, hx, hy, Instr.sliceAt, Instr.slice, Instr.sureAddr, Instr.sliceBounds, Instr.sliceBound, run_underlying ht, asIntOf, sizeOf, typeInfo, he, hz, add_plain, h1, h2]
theorem gives_arr_high {e : TypeId} {k : IntKind} (g m j : Nat) (hx : rho l x = .pointer (some ⟨g, 0, none⟩)) (hy : rho l y = .int k (j : Int)) (ht : P.underlying t = some (.array m e)) (hs : (P.info? e).map (·.size) = some 1) (h1 : j < m) :
    Gives P S (.slice (some ⟨g, j, none⟩) (m - j) (m - j)) (execOp (rho l) ⟨dst, .slice t x (some y) none none, ty, pos, after, gd⟩) := gives_value _ fun w => by
  obtain ⟨ie, he, hz⟩ := Option.map_eq_some_iff.1 hs
  have h2 : ¬ m = j := by omega
  have h3 : j ≤ m := by omega
  simp [execOp, hx, hy, Instr.sliceAt, Instr.slice, Instr.sureAddr, Instr.sliceBounds, Instr.sliceBound, run_underlying ht, asIntOf, sizeOf, typeInfo, he, hz, add_plain, h2, h3]
end
section
variable {P : Program} {ops : Array Oper} {late : List Nat} {R : Act → World → Prop} {v : World} {L L0 : List (Nat × TypeId × Array Value)} {n : Nat} {sl : List (Nat × Value)}
theorem F_copy {i d fuel : Nat} {listed : Array Bool} {x y : Operand} {dT sT ty : TypeId} {pos : String} {after : Array Edge} {e t t2 : TypeId} (kd ks g g2 off m dc sc : Nat) (cur src new : Array Value)
    (hi : ops[i]? = some ⟨some d, .call { callee := .builtin .copy, args := #[x, y], argTypes := #[dT, sT] }, ty, pos, after, none⟩) (hl : inFr n sl = true) (hu : P.underlying dT = some (.slice e)) (hsz : (P.info? e).map (·.size) = some 1)
    (hx : rho sl x = .slice (some ⟨g, off, none⟩) m dc) (hy : rho sl y = .slice (some ⟨g2, 0, none⟩) m sc) (hk : L[kd]? = some (g, t, cur)) (hk2 : L[ks]? = some (g2, t2, src)) (hm : src.size = m) (h1 : src.all (·.oneCell') = true) (hfit : off + m ≤ cur.size)
    (hnew : (splice cur.toList off src.toList).toArray = new) (hs : L0.Sublist (L.set kd (g, t, new)))
    (h : wpF P .any ops late R (Hbl v L0) fuel (listed.setIfInBounds i true) (fr n ((d, .int .i64 (m : Int)) :: sl)) (Hbl v (L.set kd (g, t, new)))) :
    ∀ w, Hbl v L w → wpOp P ops (Nrm R) i (fun a' w' => ∃ S', (i ∈ late ∨ Ext (Hbl v L0) S') ∧ S' w' ∧ wpF P .any ops late R (Hbl v L0) fuel (listed.setIfInBounds i true) a' S') (fr n sl) w := fun w hS => by
  have hB := hS.blk kd hk
  have hB2 := hS.blk ks hk2
  subst hm hnew
  have hrun := run_copy_row (P := P) w dT sT ty e g off src.size dc ⟨g2, 0, none⟩ src.size sc cur t src.toList hu hsz hB (by simp) (fun j u hu => by
    rw [add_plain, Nat.zero_add, hB2.cell]
    simpa using hu) (by simpa using hfit) (fun u hu => (Array.all_eq_true_iff_forall_mem.1 h1) u (by simpa using hu))
  refine wpOp_run (w' := w.setRow g (splice cur.toList off src.toList).toArray) hi rfl (.inl (by
    rw [fr_eval n sl hl]
    simp [execOp, resolve, invoke, builtin, hx, hy, hrun, splice, goInt])) ⟨_, .inr (Ext.of_sub hs), hS.store kd hk _ (setRow_heap w g _ _ t _ hB) (setRow_only _), h⟩
end
/-- Ninety-six bytes of a number of the field above: B first. -/
def b96c (x : F2) : Array Value := ag8 (lo (x.b.val : Int) 48 ++ lo (x.a.val : Int) 48)
theorem b96c_size (x : F2) : (b96c x).size = 96 := by rw [b96c, ag8_size, List.length_append, lo_len, lo_len]
theorem b96c_one (x : F2) : (b96c x).all (·.oneCell') = true := ag8_one _
theorem hi_b96 (x : F2) : (Tryd.prog.info? 39).map (·.size) = some (b96c x).size := by rw [b96c_size]; kernel_rfl
theorem z_b96 : (Tryd.prog.info? 39).map (·.zero) = some (some (.agg (b96c 0))) := by kernel_rfl
theorem und_b96 : Tryd.prog.underlying 39 = some (.array 96 5) := by kernel_rfl
theorem spl_low (x : F2) : (splice (b96c 0).toList 0 (b48c (x.b.val : Int)).toList).toArray = b96c ⟨0, x.b⟩ := by
  have e : (b96c 0).toList.drop 48 = (lo 0 48).map (Value.int .u8) := by kernel_rfl
  have h1 : (b48c (x.b.val : Int)).toList.length = 48 := by rw [Array.length_toList, b48c_size]
  simp only [splice, List.take_zero, List.nil_append, h1, Nat.zero_add]
  rw [e]
  simp [b48c, b96c, ag8]
theorem spl_high (x : F2) : (splice (b96c ⟨0, x.b⟩).toList 48 (b48c (x.a.val : Int)).toList).toArray = b96c x := by
  have h1 : (b48c (x.a.val : Int)).toList.length = 48 := by rw [Array.length_toList, b48c_size]
  have h2 : (b96c ⟨0, x.b⟩).toList.length = 96 := by rw [Array.length_toList, b96c_size]
  simp only [splice, h1]
  rw [List.drop_eq_nil_of_le (by omega), List.append_nil]
  simp [b48c, b96c, ag8, List.take_append, lo_len]
attribute [local irreducible] wpL wpF fr Code.wp bodyPost
set_option maxRecDepth 100000 in
set_option maxHeartbeats 4000000 in
theorem q_bytes (x : F2) (v : World) (hG : Glo v) : Rets 17 #[.agg (c2 (x))] v (.agg (b96c x)) := by
  refine calls_fr1 Tryd.func17 rfl (by rfl : _ = 19) (by rfl) ?_
  have hw := Hbl.nil v
  refine seq_plain hw [0, 1] (by rfl) ?_
  refine L_box (.agg (c2 (x))) (by rfl) (by rfl) (by rfl) (c2 (x)) (by rfl) ?_; intro g1
  refine L_alloc _ (by rfl) (by rfl) z_b96 (b96c (0 : F2)) rfl ?_; intro g2
  refine L_end ?_
  intro w1 hw1
  refine seq_plain hw1 [0] (by rfl) ?_
  refine L_alloc _ (by rfl) (by rfl) z_b96 (b96c (0 : F2)) rfl ?_; intro g3
  refine L_end ?_
  intro w2 hw2
  refine seq_flow_to (fun a w => ∃ g_4 g_5, a = fr 19 [(4, .pointer (some ⟨g_4, 0, none⟩)), (5, .pointer (some ⟨g_5, 0, none⟩)), (11, .agg (b48c (((x).a).val : Int))), (10, .agg (pc ((x).a))), (9, .pointer (some ⟨g1, 0, none⟩)), (8, .agg (b48c (((x).b).val : Int))), (7, .agg (pc ((x).b))), (6, .pointer (some ⟨g1, 6, none⟩)), (3, .pointer (some ⟨g3, 0, none⟩)), (2, .pointer (some ⟨g2, 0, none⟩)), (1, .pointer (some ⟨g1, 0, none⟩)), (0, .agg (c2 (x)))] ∧ Hbl v [(g_4, 41, (b48c (((x).b).val : Int))), (g_5, 41, (b48c (((x).a).val : Int))), (g3, 39, (b96c (0 : F2))), (g2, 39, (b96c (0 : F2))), (g1, 30, (c2 (x)))] w) (by kernel_rfl) hw2 [] [(g3, 39, (b96c (0 : F2))), (g2, 39, (b96c (0 : F2))), (g1, 30, (c2 (x)))] 10 (by rfl) ?_ ?_
  ·
    refine flow_take (i := 0) (.pointer (some ⟨g1, 6, none⟩)) (by rfl) (by kernel_rfl) (by kernel_rfl) (by kernel_rfl) (by rfl) (by kernel_rfl) (List.Sublist.refl _) (gives_value _ fun _ => by kernel_rfl) ?_
    refine flow_take (i := 1) (.agg (pc ((x).b))) (by rfl) (by kernel_rfl) (by kernel_rfl) (by kernel_rfl) (by rfl) (by kernel_rfl) (List.Sublist.refl _) (gives_load g1 6 30 (c2 (x)) (pc ((x).b)) _ (by rfl) (fun _ h => h.blk 2 (by rfl)) (sl_2b (x) _ _ 6 (Sl.refl _) (by rfl)) Tryd.underlying28 (by rfl) (hi_1 _)) ?_
    refine flow_take (i := 2) (.agg (b48c (((x).b).val : Int))) (by rfl) (by kernel_rfl) (by kernel_rfl) (by kernel_rfl) (by rfl) (by kernel_rfl) (List.Sublist.refl _) (gives_call (vl := [.agg (pc ((x).b))]) (by kernel_rfl) (by rfl) (fun w h => v_bytes _ w (hG.keep h.below))) ?_
    refine flow_take (i := 3) (.pointer (some ⟨g1, 0, none⟩)) (by rfl) (by kernel_rfl) (by kernel_rfl) (by kernel_rfl) (by rfl) (by kernel_rfl) (List.Sublist.refl _) (gives_value _ fun _ => by kernel_rfl) ?_
    refine flow_take (i := 4) (.agg (pc ((x).a))) (by rfl) (by kernel_rfl) (by kernel_rfl) (by kernel_rfl) (by rfl) (by kernel_rfl) (List.Sublist.refl _) (gives_load g1 0 30 (c2 (x)) (pc ((x).a)) _ (by rfl) (fun _ h => h.blk 2 (by rfl)) (sl_2a (x) _ _ (Sl.refl _)) Tryd.underlying28 (by rfl) (hi_1 _)) ?_
    refine flow_take (i := 5) (.agg (b48c (((x).a).val : Int))) (by rfl) (by kernel_rfl) (by kernel_rfl) (by kernel_rfl) (by rfl) (by kernel_rfl) (List.Sublist.refl _) (gives_call (vl := [.agg (pc ((x).a))]) (by kernel_rfl) (by rfl) (fun w h => v_bytes _ w (hG.keep h.below))) ?_
    refine flow_two 6 7 (by kernel_rfl) ?_ ?_
    ·
      refine F_alloc _ (by rfl) (by rfl) z_b48 (b48c (0 : Int)) rfl (List.Sublist.refl _) ?_; intro g_4
      refine flow_one 7 (by kernel_rfl) ?_
      refine F_alloc _ (by rfl) (by rfl) z_b48 (b48c (0 : Int)) rfl (List.Sublist.cons _ (List.Sublist.refl _)) ?_; intro g_5
      refine flow_one 8 (by kernel_rfl) ?_
      refine F_store (t := 41) 1 g_4 (b48c (0 : Int)) (b48c (((x).b).val : Int)) (by rfl) (by rfl) (by rfl) (by rfl) (by rfl) (hi_b48 _) ((b48c_size _).trans (b48c_size _).symm) (b48c_one _) (.inr (List.Sublist.cons _ (List.Sublist.cons _ (List.Sublist.refl _)))) ?_
      simp only [List.set_cons_zero, List.set_cons_succ]
      refine flow_one 9 (by kernel_rfl) ?_
      refine F_store (t := 41) 0 g_5 (b48c (0 : Int)) (b48c (((x).a).val : Int)) (by rfl) (by rfl) (by rfl) (by rfl) (by rfl) (hi_b48 _) ((b48c_size _).trans (b48c_size _).symm) (b48c_one _) (.inr (List.Sublist.cons _ (List.Sublist.cons _ (List.Sublist.refl _)))) ?_
      simp only [List.set_cons_zero, List.set_cons_succ]
      refine flow_done (by kernel_rfl) ?_
      intro wz hz
      exact ⟨g_4, g_5, ((fr_comm _ _ _ _ (by decide))), hz.perm (List.Perm.swap _ _ _)⟩
    ·
      refine F_alloc _ (by rfl) (by rfl) z_b48 (b48c (0 : Int)) rfl (List.Sublist.refl _) ?_; intro g_5
      refine flow_one 6 (by kernel_rfl) ?_
      refine F_alloc _ (by rfl) (by rfl) z_b48 (b48c (0 : Int)) rfl (List.Sublist.cons _ (List.Sublist.refl _)) ?_; intro g_4
      refine flow_one 8 (by kernel_rfl) ?_
      refine F_store (t := 41) 0 g_4 (b48c (0 : Int)) (b48c (((x).b).val : Int)) (by rfl) (by rfl) (by rfl) (by rfl) (by rfl) (hi_b48 _) ((b48c_size _).trans (b48c_size _).symm) (b48c_one _) (.inr (List.Sublist.cons _ (List.Sublist.cons _ (List.Sublist.refl _)))) ?_
      simp only [List.set_cons_zero, List.set_cons_succ]
      refine flow_one 9 (by kernel_rfl) ?_
      refine F_store (t := 41) 1 g_5 (b48c (0 : Int)) (b48c (((x).a).val : Int)) (by rfl) (by rfl) (by rfl) (by rfl) (by rfl) (hi_b48 _) ((b48c_size _).trans (b48c_size _).symm) (b48c_one _) (.inr (List.Sublist.cons _ (List.Sublist.cons _ (List.Sublist.refl _)))) ?_
      simp only [List.set_cons_zero, List.set_cons_succ]
      refine flow_done (by kernel_rfl) ?_
      intro wz hz
      exact ⟨g_4, g_5, rfl, hz.perm (List.Perm.refl _)⟩
  ·
    rintro a0 w3 ⟨g4, g5, rfl, hw3⟩
    refine seq_flow (by kernel_rfl) hw3 [] [(g4, 41, (b48c (((x).b).val : Int))), (g5, 41, (b48c (((x).a).val : Int))), (g2, 39, (b96c (0 : F2))), (g1, 30, (c2 (x)))] 3 (by rfl) ?_
    refine flow_take (i := 0) (.slice (some ⟨g3, 0, none⟩) 48 96) (by rfl) (by kernel_rfl) (by kernel_rfl) (by kernel_rfl) (by rfl) (by kernel_rfl) (List.Sublist.cons_cons _ (List.Sublist.cons_cons _ (List.Sublist.cons _ (List.Sublist.refl _)))) (gives_arr_low g3 96 48 (by rfl) (by rfl) und_b96 u8_sz (by omega) (by omega)) ?_
    refine flow_take (i := 1) (.slice (some ⟨g4, 0, none⟩) 48 48) (by rfl) (by kernel_rfl) (by kernel_rfl) (by kernel_rfl) (by rfl) (by kernel_rfl) (List.Sublist.cons_cons _ (List.Sublist.cons_cons _ (List.Sublist.cons _ (List.Sublist.refl _)))) (gives_slice_arr g4 48 1 (by rfl) und_b48 u8_sz) ?_
    refine flow_one 2 (by kernel_rfl) ?_
    refine F_copy 2 0 g3 g4 0 48 96 48 (b96c (0 : F2)) (b48c (((x).b).val : Int)) (b96c (⟨0, x.b⟩ : F2)) (by rfl) (by rfl) und_u8s u8_sz (by rfl) (by rfl) (by rfl) (by rfl) (b48c_size _) (b48c_one _) (by rw [b96c_size]; omega) (spl_low x) (List.Sublist.cons_cons _ (List.Sublist.cons_cons _ (List.Sublist.cons _ (List.Sublist.refl _)))) ?_
    simp only [List.set_cons_zero, List.set_cons_succ]
    refine flow_done (by kernel_rfl) ?_
    intro w4 hw4
    refine seq_flow (by kernel_rfl) hw4 [] [(g4, 41, (b48c (((x).b).val : Int))), (g5, 41, (b48c (((x).a).val : Int))), (g2, 39, (b96c (0 : F2))), (g1, 30, (c2 (x)))] 3 (by rfl) ?_
    refine flow_take (i := 0) (.slice (some ⟨g3, 48, none⟩) (96 - 48) (96 - 48)) (by rfl) (by kernel_rfl) (by kernel_rfl) (by kernel_rfl) (by rfl) (by kernel_rfl) (List.Sublist.cons_cons _ (List.Sublist.cons_cons _ (List.Sublist.cons _ (List.Sublist.refl _)))) (gives_arr_high g3 96 48 (by rfl) (by rfl) und_b96 u8_sz (by omega)) ?_
    refine flow_take (i := 1) (.slice (some ⟨g5, 0, none⟩) 48 48) (by rfl) (by kernel_rfl) (by kernel_rfl) (by kernel_rfl) (by rfl) (by kernel_rfl) (List.Sublist.cons_cons _ (List.Sublist.cons_cons _ (List.Sublist.cons _ (List.Sublist.refl _)))) (gives_slice_arr g5 48 1 (by rfl) und_b48 u8_sz) ?_
    refine flow_one 2 (by kernel_rfl) ?_
    refine F_copy 2 1 g3 g5 48 48 (96 - 48) 48 (b96c (⟨0, x.b⟩ : F2)) (b48c (((x).a).val : Int)) (b96c (x)) (by rfl) (by rfl) und_u8s u8_sz (by rfl) (by rfl) (by rfl) (by rfl) (b48c_size _) (b48c_one _) (by rw [b96c_size]; omega) (spl_high x) (List.Sublist.cons_cons _ (List.Sublist.cons_cons _ (List.Sublist.cons _ (List.Sublist.refl _)))) ?_
    simp only [List.set_cons_zero, List.set_cons_succ]
    refine flow_done (by kernel_rfl) ?_
    intro w5 hw5
    refine seq_plain hw5 [0, 1] (by rfl) ?_
    refine L_val (.agg (b96c (x))) (by rfl) (by rfl) (gives_load g3 0 39 (b96c (x)) (b96c (x)) _ (by rfl) (fun _ h => h.blk 2 (by rfl)) (Sl.refl _) Tryd.underlying39 (by rfl) (hi_b96 _)) ?_
    refine L_store (t := 39) 3 g2 (b96c (0 : F2)) (b96c (x)) (by rfl) (by rfl) (by rfl) (by rfl) (by rfl) (hi_b96 _) ((b96c_size _).trans (b96c_size _).symm) (b96c_one _) ?_
    simp only [List.set_cons_zero, List.set_cons_succ]
    refine L_end ?_
    intro w6 hw6
    refine wp_ret ?_
    change bodyPost _ _ _ Exit.ret _ _
    refine (ret_cell (by rfl) (by rfl) (by rfl) (hw6.blk 3 (by rfl)) Tryd.underlying39 (by rfl) (hi_b96 _) ⟨?_, hw6.below⟩)
    exact rfl
end Go.Proofs.YthfdohhglnhonaaDoor

/-! ## Fq -/
namespace Go.Proofs.YthfdohhglnhonaaDoor
set_option linter.unusedSimpArgs false
set_option linter.unusedVariables false
open Go.RowKit
theorem lo_high (q m : Int) (k j : Nat) (h : j ≤ k) : lo (q * 256 ^ k + m) j = lo m j := by
  induction j with
  | zero => rfl
  | succ j ih =>
    rw [lo, lo, ih (by omega)]
    congr 1
    obtain ⟨i, rfl⟩ : ∃ i, k = j + 1 + i := ⟨k - (j + 1), by omega⟩
    have e : q * 256 ^ (j + 1 + i) = 256 ^ j * (256 * (q * 256 ^ i)) := by rw [Int.pow_add, Int.pow_succ]; grind
    have hp : (0 : Int) < 256 ^ j := Int.pow_pos (by omega)
    rw [e, Int.add_comm, Int.add_mul_ediv_left _ _ (Int.ne_of_gt hp)]
    omega
theorem lo_num (bs : List Int) (ho : Oct bs) : lo (num bs) bs.length = bs := by
  induction bs with
  | nil => rfl
  | cons b l ih =>
    have h1 := ho b (List.mem_cons_self ..)
    have hl : Oct l := fun x hx => ho x (List.mem_cons_of_mem _ hx)
    have h2 := num_lt l hl
    have hp : (0 : Int) < 256 ^ l.length := Int.pow_pos (by omega)
    rw [num_cons, List.length_cons, lo, lo_high _ _ _ _ (Nat.le_refl _), ih hl]
    congr 1
    rw [Int.add_comm, Int.add_mul_ediv_right _ _ (Int.ne_of_gt hp), Int.ediv_eq_zero_of_lt h2.1 h2.2]
    omega
theorem lo_num48 {bs : List Int} (ho : Oct bs) (hl : bs.length = 48) : lo (num bs) 48 = bs := by
  have := lo_num bs ho
  rwa [hl] at this
theorem bytes_low {bs : List Int} (ho : Oct bs) (hl : bs.length = 48) (h : num bs < Mp) : lo ((Fp.n (num bs)).val : Int) 48 = bs := by
  rw [of_val (num_lt bs ho).1 h, lo_num48 ho hl]
theorem bytes_all {bs : List Int} (ho : Oct bs) (hl : bs.length = 96) (hb : num (bs.take 48) < Mp) (ha : num (bs.drop 48) < Mp) : lo ((Fp.n (num (bs.take 48))).val : Int) 48 ++ lo ((Fp.n (num (bs.drop 48))).val : Int) 48 = bs := by
  rw [bytes_low (ho.take 48) (by simp; omega) hb, bytes_low (ho.drop 48) (by simp; omega) ha, List.take_append_drop]
theorem q_zero_z (w : World) (hG : Glo w) : Rets 13 #[.agg (c2 0)] w (.bool true) := by
  have h := q_zero 0 w hG
  rwa [decide_eq_true rfl] at h
theorem all_reads {w : World} {g : Nat} {t : TypeId} {x : F2} (h : Blk w g t (b96c x)) : Reads w w.heap.size (some ⟨g, 0, none⟩) 96 ((lo (x.b.val : Int) 48 ++ lo (x.a.val : Int) 48).map (Value.int .u8)) := copy_reads h (by rw [List.length_append, lo_len, lo_len])
attribute [local irreducible] wpL wpF fr Code.wp bodyPost
set_option maxRecDepth 100000 in
set_option maxHeartbeats 4000000 in
theorem q_reads_len (A0 : Option Addr) (L0 C0 : Nat) (bs0 : List Int) (v : World) (hG : Glo v) (hr0 : Reads v v.heap.size A0 L0 (bs0.map (Value.int .u8))) (ho0 : Oct bs0) (hb0 : L0 ≤ 140737488355328) (hc : L0 ≤ C0) (hcase : L0 ≠ 96) : Rets 3 #[.slice A0 L0 C0] v (.bool true) := by
  have hn0 : bs0.length = L0 := by simpa using hr0.1
  refine calls_fr1 Tryd.func3 rfl (by rfl : _ = 78) (by rfl) ?_
  have hw := Hbl.nil v
  refine seq_plain hw [0] (by rfl) ?_
  refine L_val (.bool false) (by rfl) (by rfl) (gives_value _ fun _ => by rfl) ?_
  refine L_end ?_
  intro w1 hw1
  refine wp_seq ?_
  refine seq_plain hw1 [0, 1] (by rfl) ?_
  refine L_val (.bool true) (by rfl) (by rfl) (gives_call (vl := []) (by kernel_rfl) (by rfl) (fun w h => q_head w (hG.keep h.below))) ?_
  refine L_val (.bool false) (by rfl) (by rfl) (gives_value _ fun _ => by rfl) ?_
  refine L_end ?_
  intro w2 hw2
  refine wp_cond_false (fr_at _ _ (by rfl) _) ?_
  refine wp_skip ?_
  change Code.wp _ _ _ _ _
  refine seq_plain hw2 [0, 1, 2] (by rfl) ?_
  refine L_val (.slice A0 L0 C0) (by rfl) (by rfl) (gives_value _ fun _ => by rfl) ?_
  refine L_fresh 5 (ag8 bs0) (fun g => .slice (some ⟨g, 0, none⟩) L0 L0) (by rfl) (by rfl) (by kernel_rfl) (by rfl) (fun w h => copy_any w _ L0 C0 bs0 ((hr0.below h.below).more h.below.size) (by omega)) ?_; intro g1
  refine L_val (.slice (some ⟨g1, 0, none⟩) L0 L0) (by rfl) (by rfl) (gives_value _ fun _ => by rfl) ?_
  refine L_end ?_
  intro w3 hw3
  refine seq_plain hw3 [0, 1, 2, 3, 4, 5, 6, 7] (by rfl) ?_
  refine L_val (.slice (some ⟨g1, 0, none⟩) L0 L0) (by rfl) (by rfl) (gives_value _ fun _ => by rfl) ?_
  refine L_val (.tuple #[.agg (c2 (0 : F2)), .int .i64 10]) (by rfl) (by rfl) (gives_call (vl := [.slice (some ⟨g1, 0, none⟩) L0 L0]) (by kernel_rfl) (by rfl) (fun w h => q_read_len _ _ _ w (by omega))) ?_
  refine L_val (.tuple #[.agg (c2 (0 : F2)), .int .i64 10]) (by rfl) (by rfl) (gives_value _ fun _ => by rfl) ?_
  refine L_val (.agg (c2 (0 : F2))) (by rfl) (by rfl) (gives_value _ fun _ => by kernel_rfl) ?_
  refine L_val (.int .i64 10) (by rfl) (by rfl) (gives_value _ fun _ => by kernel_rfl) ?_
  refine L_alloc _ (by rfl) (by rfl) z_2 (c2 (0 : F2)) rfl ?_; intro g2
  refine L_store (t := 30) 0 g2 (c2 (0 : F2)) (c2 (0 : F2)) (by rfl) (by rfl) (by rfl) (by rfl) (by rfl) (hi_2 _) ((c2_size _).trans (c2_size _).symm) (c2_one _) ?_
  simp only [List.set_cons_zero, List.set_cons_succ]
  refine L_val (.int .i64 10) (by rfl) (by rfl) (gives_value _ fun _ => by rfl) ?_
  refine L_end ?_
  intro w4 hw4
  refine wp_seq ?_
  refine seq_plain hw4 [0, 1, 2, 3] (by rfl) ?_
  refine L_val (.slice (some ⟨g1, 0, none⟩) L0 L0) (by rfl) (by rfl) (gives_value _ fun _ => by rfl) ?_
  refine L_val (.slice A0 L0 C0) (by rfl) (by rfl) (gives_value _ fun _ => by rfl) ?_
  refine L_val (.bool true) (by rfl) (by rfl) (gives_call (vl := [.slice (some ⟨g1, 0, none⟩) L0 L0, .slice A0 L0 C0]) (by kernel_rfl) (by rfl) (fun w h => n_same w _ _ _ _ _ _ (bs0) (bs0) (copy_reads (h.blk 1 (by rfl)) hn0) ((hr0.below h.below).more h.below.size) (by omega) (by omega) rfl)) ?_
  refine L_val (.bool false) (by rfl) (by rfl) (gives_value _ fun _ => by rfl) ?_
  refine L_end ?_
  intro w5 hw5
  refine wp_cond_false (fr_at _ _ (by rfl) _) ?_
  refine wp_skip ?_
  change Code.wp _ _ _ _ _
  refine wp_seq ?_
  refine seq_plain hw5 [0, 1, 2] (by rfl) ?_
  refine L_val (.slice A0 L0 C0) (by rfl) (by rfl) (gives_value _ fun _ => by rfl) ?_
  refine L_val (.int .i64 (L0 : Int)) (by rfl) (by rfl) (gives_len _ L0 C0 und_u8s (by rfl)) ?_
  refine L_val (.bool true) (by rfl) (by rfl) (gives_ine (k := .i64) ((L0 : Int)) (96) true (by rfl) (by rfl) (decide_eq_true (by omega))) ?_
  refine L_end ?_
  intro w6 hw6
  refine wp_cond_true (fr_at _ _ (by rfl) _) ?_
  refine seq_plain hw6 [0, 1, 2, 3, 4, 5, 6] (by rfl) ?_
  refine L_val (.int .i64 10) (by rfl) (by rfl) (gives_value _ fun _ => by rfl) ?_
  refine L_val (.bool true) (by rfl) (by rfl) (gives_ieq (k := .i64) (10) (10) true (by rfl) (by rfl) (decide_eq_true (by omega))) ?_
  refine L_val (.bool true) (by rfl) (by rfl) (gives_value _ fun _ => by rfl) ?_
  refine L_val_g (dj := 27) (.agg (c2 (0 : F2))) (by rfl) (by rfl) (by rfl) (by rfl) (by rfl) (gives_load g2 0 30 (c2 (0 : F2)) (c2 (0 : F2)) _ (by rfl) (fun _ h => h.blk 0 (by rfl)) (Sl.refl _) Tryd.underlying30 (by rfl) (hi_2 _)) ?_
  refine L_val_g (dj := 27) (.bool true) (by rfl) (by rfl) (by rfl) (by rfl) (by rfl) (gives_call (vl := [.agg (c2 (0 : F2))]) (by kernel_rfl) (by rfl) (fun w h => q_zero_z w (hG.keep h.below))) ?_
  refine L_val (.bool true) (by rfl) (by rfl) (gives_value _ fun _ => by rfl) ?_
  refine L_val (.bool true) (by rfl) (by rfl) (gives_value _ fun _ => by rfl) ?_
  refine L_end ?_
  intro w7 hw7
  refine wp_ret ?_
  change bodyPost _ _ _ Exit.ret _ _
  refine (ret_tmp (by rfl) (by rfl) (by rfl) ⟨rfl, hw7.below⟩)
set_option maxRecDepth 100000 in
set_option maxHeartbeats 4000000 in
theorem q_reads_b (b o C0 : Nat) (bs0 : List Int) (v : World) (hG : Glo v) (hr0 : Reads v v.heap.size (some ⟨b, o, none⟩) 96 (bs0.map (Value.int .u8))) (ho0 : Oct bs0) (hb0 : 96 ≤ 140737488355328) (hc : 96 ≤ C0) (hb : Mp ≤ num (bs0.take 48)) : Rets 3 #[.slice (some ⟨b, o, none⟩) 96 C0] v (.bool true) := by
  have hn0 : bs0.length = 96 := by simpa using hr0.1
  refine calls_fr1 Tryd.func3 rfl (by rfl : _ = 78) (by rfl) ?_
  have hw := Hbl.nil v
  refine seq_plain hw [0] (by rfl) ?_
  refine L_val (.bool false) (by rfl) (by rfl) (gives_value _ fun _ => by rfl) ?_
  refine L_end ?_
  intro w1 hw1
  refine wp_seq ?_
  refine seq_plain hw1 [0, 1] (by rfl) ?_
  refine L_val (.bool true) (by rfl) (by rfl) (gives_call (vl := []) (by kernel_rfl) (by rfl) (fun w h => q_head w (hG.keep h.below))) ?_
  refine L_val (.bool false) (by rfl) (by rfl) (gives_value _ fun _ => by rfl) ?_
  refine L_end ?_
  intro w2 hw2
  refine wp_cond_false (fr_at _ _ (by rfl) _) ?_
  refine wp_skip ?_
  change Code.wp _ _ _ _ _
  refine seq_plain hw2 [0, 1, 2] (by rfl) ?_
  refine L_val (.slice (some ⟨b, o, none⟩) 96 C0) (by rfl) (by rfl) (gives_value _ fun _ => by rfl) ?_
  refine L_fresh 5 (ag8 bs0) (fun g => .slice (some ⟨g, 0, none⟩) 96 96) (by rfl) (by rfl) (by kernel_rfl) (by rfl) (fun w h => copy_any w _ 96 C0 bs0 ((hr0.below h.below).more h.below.size) (by omega)) ?_; intro g1
  refine L_val (.slice (some ⟨g1, 0, none⟩) 96 96) (by rfl) (by rfl) (gives_value _ fun _ => by rfl) ?_
  refine L_end ?_
  intro w3 hw3
  refine seq_plain hw3 [0, 1, 2, 3, 4, 5, 6, 7] (by rfl) ?_
  refine L_val (.slice (some ⟨g1, 0, none⟩) 96 96) (by rfl) (by rfl) (gives_value _ fun _ => by rfl) ?_
  refine L_val (.tuple #[.agg (c2 (0 : F2)), .int .i64 12]) (by rfl) (by rfl) (gives_call (vl := [.slice (some ⟨g1, 0, none⟩) 96 96]) (by kernel_rfl) (by rfl) (fun w h => q_read_b _ 0 _ bs0 w (hG.keep h.below) (copy_reads (h.blk 0 (by rfl)) hn0) ho0 (by omega) hb)) ?_
  refine L_val (.tuple #[.agg (c2 (0 : F2)), .int .i64 12]) (by rfl) (by rfl) (gives_value _ fun _ => by rfl) ?_
  refine L_val (.agg (c2 (0 : F2))) (by rfl) (by rfl) (gives_value _ fun _ => by kernel_rfl) ?_
  refine L_val (.int .i64 12) (by rfl) (by rfl) (gives_value _ fun _ => by kernel_rfl) ?_
  refine L_alloc _ (by rfl) (by rfl) z_2 (c2 (0 : F2)) rfl ?_; intro g2
  refine L_store (t := 30) 0 g2 (c2 (0 : F2)) (c2 (0 : F2)) (by rfl) (by rfl) (by rfl) (by rfl) (by rfl) (hi_2 _) ((c2_size _).trans (c2_size _).symm) (c2_one _) ?_
  simp only [List.set_cons_zero, List.set_cons_succ]
  refine L_val (.int .i64 12) (by rfl) (by rfl) (gives_value _ fun _ => by rfl) ?_
  refine L_end ?_
  intro w4 hw4
  refine wp_seq ?_
  refine seq_plain hw4 [0, 1, 2, 3] (by rfl) ?_
  refine L_val (.slice (some ⟨g1, 0, none⟩) 96 96) (by rfl) (by rfl) (gives_value _ fun _ => by rfl) ?_
  refine L_val (.slice (some ⟨b, o, none⟩) 96 C0) (by rfl) (by rfl) (gives_value _ fun _ => by rfl) ?_
  refine L_val (.bool true) (by rfl) (by rfl) (gives_call (vl := [.slice (some ⟨g1, 0, none⟩) 96 96, .slice (some ⟨b, o, none⟩) 96 C0]) (by kernel_rfl) (by rfl) (fun w h => n_same w _ _ _ _ _ _ (bs0) (bs0) (copy_reads (h.blk 1 (by rfl)) hn0) ((hr0.below h.below).more h.below.size) (by omega) (by omega) rfl)) ?_
  refine L_val (.bool false) (by rfl) (by rfl) (gives_value _ fun _ => by rfl) ?_
  refine L_end ?_
  intro w5 hw5
  refine wp_cond_false (fr_at _ _ (by rfl) _) ?_
  refine wp_skip ?_
  change Code.wp _ _ _ _ _
  refine wp_seq ?_
  refine seq_plain hw5 [0, 1, 2] (by rfl) ?_
  refine L_val (.slice (some ⟨b, o, none⟩) 96 C0) (by rfl) (by rfl) (gives_value _ fun _ => by rfl) ?_
  refine L_val (.int .i64 (96 : Int)) (by rfl) (by rfl) (gives_len _ 96 C0 und_u8s (by rfl)) ?_
  refine L_val (.bool false) (by rfl) (by rfl) (gives_ine (k := .i64) ((96 : Int)) (96) false (by rfl) (by rfl) (decide_eq_false (by omega))) ?_
  refine L_end ?_
  intro w6 hw6
  refine wp_cond_false (fr_at _ _ (by rfl) _) ?_
  refine wp_skip ?_
  change Code.wp _ _ _ _ _
  refine seq_plain hw6 [0, 1] (by rfl) ?_
  refine L_freshW (vl := []) (24) (Mp) (by rfl) (by rfl) (by kernel_rfl) (by rfl) (fun w h => m_04 w) ?_; intro g3 cap_1 cs_1 hwb_1
  refine L_val (.slice (some ⟨g3, 0, none⟩) (24) cap_1) (by rfl) (by rfl) (gives_value _ fun _ => by rfl) ?_
  refine L_end ?_
  intro w7 hw7
  refine wp_seq ?_
  refine seq_plain hw7 [0, 1, 2, 3, 4, 5, 6, 7, 8, 9, 10, 11, 12, 13] (by rfl) ?_
  refine L_val (.slice (some ⟨b, o, none⟩) 96 C0) (by rfl) (by rfl) (gives_value _ fun _ => by rfl) ?_
  refine L_val (.slice (some ⟨b, o, none⟩) 48 C0) (by rfl) (by rfl) (gives_low b o 96 C0 48 48 (by rfl) (by rfl) und_u8s u8_sz rfl (by omega)) ?_
  refine L_freshW (vl := [.slice (some ⟨b, o, none⟩) 48 C0]) ((48 + 1) / 2) (num (bs0.take 48)) (by rfl) (by rfl) (by kernel_rfl) (by rfl) (fun w h => n_number w _ 48 _ (bs0.take 48) (front48 ((hr0.below h.below).more h.below.size)) (ho0.take 48) (by omega)) ?_; intro g4 cap_2 cs_2 hwb_2
  refine L_val (.slice (some ⟨g3, 0, none⟩) (24) cap_1) (by rfl) (by rfl) (gives_value _ fun _ => by rfl) ?_
  refine L_val (.bool false) (by rfl) (by rfl) (gives_call (vl := [.slice (some ⟨g4, 0, none⟩) ((48 + 1) / 2) cap_2, .slice (some ⟨g3, 0, none⟩) (24) cap_1]) (by kernel_rfl) (by rfl) (fun w h => n_less w _ _ _ _ _ _ _ _ (hwb_2.num (h.blk 0 (by rfl)) (num_rng (bs0.take 48) 48 (ho0.take 48) (by simp; omega)) (by omega)) (hwb_1.num (h.blk 1 (by rfl)) ⟨Int.le_of_lt Mp_pos, Mp_24⟩ (by omega)) false (decide_eq_false (by omega)))) ?_
  refine L_val (.bool true) (by rfl) (by rfl) (gives_value _ fun _ => by rfl) ?_
  refine L_val (.bool true) (by rfl) (by rfl) (gives_value _ fun _ => by rfl) ?_
  refine L_skip (dj := 38) (by rfl) (by rfl) (by rfl) (by rfl) (by rfl) ?_
  refine L_skip (dj := 38) (by rfl) (by rfl) (by rfl) (by rfl) (by rfl) ?_
  refine L_skip (dj := 38) (by rfl) (by rfl) (by rfl) (by rfl) (by rfl) ?_
  refine L_skip (dj := 38) (by rfl) (by rfl) (by rfl) (by rfl) (by rfl) ?_
  refine L_skip (dj := 38) (by rfl) (by rfl) (by rfl) (by rfl) (by rfl) ?_
  refine L_skip (dj := 38) (by rfl) (by rfl) (by rfl) (by rfl) (by rfl) ?_
  refine L_val (.bool true) (by rfl) (by rfl) (gives_value _ fun _ => by rfl) ?_
  refine L_end ?_
  intro w8 hw8
  refine wp_cond_true (fr_at _ _ (by rfl) _) ?_
  refine seq_plain hw8 [0, 1, 2, 3, 4, 5, 6] (by rfl) ?_
  refine L_val (.int .i64 12) (by rfl) (by rfl) (gives_value _ fun _ => by rfl) ?_
  refine L_val (.bool true) (by rfl) (by rfl) (gives_ieq (k := .i64) (12) (12) true (by rfl) (by rfl) (decide_eq_true (by omega))) ?_
  refine L_val (.bool true) (by rfl) (by rfl) (gives_value _ fun _ => by rfl) ?_
  refine L_val_g (dj := 48) (.agg (c2 (0 : F2))) (by rfl) (by rfl) (by rfl) (by rfl) (by rfl) (gives_load g2 0 30 (c2 (0 : F2)) (c2 (0 : F2)) _ (by rfl) (fun _ h => h.blk 2 (by rfl)) (Sl.refl _) Tryd.underlying30 (by rfl) (hi_2 _)) ?_
  refine L_val_g (dj := 48) (.bool true) (by rfl) (by rfl) (by rfl) (by rfl) (by rfl) (gives_call (vl := [.agg (c2 (0 : F2))]) (by kernel_rfl) (by rfl) (fun w h => q_zero_z w (hG.keep h.below))) ?_
  refine L_val (.bool true) (by rfl) (by rfl) (gives_value _ fun _ => by rfl) ?_
  refine L_val (.bool true) (by rfl) (by rfl) (gives_value _ fun _ => by rfl) ?_
  refine L_end ?_
  intro w9 hw9
  refine wp_ret ?_
  change bodyPost _ _ _ Exit.ret _ _
  refine (ret_tmp (by rfl) (by rfl) (by rfl) ⟨rfl, hw9.below⟩)
set_option maxRecDepth 100000 in
set_option maxHeartbeats 4000000 in
theorem q_reads_a (b o C0 : Nat) (bs0 : List Int) (v : World) (hG : Glo v) (hr0 : Reads v v.heap.size (some ⟨b, o, none⟩) 96 (bs0.map (Value.int .u8))) (ho0 : Oct bs0) (hb0 : 96 ≤ 140737488355328) (hc : 96 ≤ C0) (hb : num (bs0.take 48) < Mp) (ha : Mp ≤ num (bs0.drop 48)) : Rets 3 #[.slice (some ⟨b, o, none⟩) 96 C0] v (.bool true) := by
  have hn0 : bs0.length = 96 := by simpa using hr0.1
  refine calls_fr1 Tryd.func3 rfl (by rfl : _ = 78) (by rfl) ?_
  have hw := Hbl.nil v
  refine seq_plain hw [0] (by rfl) ?_
  refine L_val (.bool false) (by rfl) (by rfl) (gives_value _ fun _ => by rfl) ?_
  refine L_end ?_
  intro w1 hw1
  refine wp_seq ?_
  refine seq_plain hw1 [0, 1] (by rfl) ?_
  refine L_val (.bool true) (by rfl) (by rfl) (gives_call (vl := []) (by kernel_rfl) (by rfl) (fun w h => q_head w (hG.keep h.below))) ?_
  refine L_val (.bool false) (by rfl) (by rfl) (gives_value _ fun _ => by rfl) ?_
  refine L_end ?_
  intro w2 hw2
  refine wp_cond_false (fr_at _ _ (by rfl) _) ?_
  refine wp_skip ?_
  change Code.wp _ _ _ _ _
  refine seq_plain hw2 [0, 1, 2] (by rfl) ?_
  refine L_val (.slice (some ⟨b, o, none⟩) 96 C0) (by rfl) (by rfl) (gives_value _ fun _ => by rfl) ?_
  refine L_fresh 5 (ag8 bs0) (fun g => .slice (some ⟨g, 0, none⟩) 96 96) (by rfl) (by rfl) (by kernel_rfl) (by rfl) (fun w h => copy_any w _ 96 C0 bs0 ((hr0.below h.below).more h.below.size) (by omega)) ?_; intro g1
  refine L_val (.slice (some ⟨g1, 0, none⟩) 96 96) (by rfl) (by rfl) (gives_value _ fun _ => by rfl) ?_
  refine L_end ?_
  intro w3 hw3
  refine seq_plain hw3 [0, 1, 2, 3, 4, 5, 6, 7] (by rfl) ?_
  refine L_val (.slice (some ⟨g1, 0, none⟩) 96 96) (by rfl) (by rfl) (gives_value _ fun _ => by rfl) ?_
  refine L_val (.tuple #[.agg (c2 (0 : F2)), .int .i64 12]) (by rfl) (by rfl) (gives_call (vl := [.slice (some ⟨g1, 0, none⟩) 96 96]) (by kernel_rfl) (by rfl) (fun w h => q_read_a _ 0 _ bs0 w (hG.keep h.below) (copy_reads (h.blk 0 (by rfl)) hn0) ho0 (by omega) hb ha)) ?_
  refine L_val (.tuple #[.agg (c2 (0 : F2)), .int .i64 12]) (by rfl) (by rfl) (gives_value _ fun _ => by rfl) ?_
  refine L_val (.agg (c2 (0 : F2))) (by rfl) (by rfl) (gives_value _ fun _ => by kernel_rfl) ?_
  refine L_val (.int .i64 12) (by rfl) (by rfl) (gives_value _ fun _ => by kernel_rfl) ?_
  refine L_alloc _ (by rfl) (by rfl) z_2 (c2 (0 : F2)) rfl ?_; intro g2
  refine L_store (t := 30) 0 g2 (c2 (0 : F2)) (c2 (0 : F2)) (by rfl) (by rfl) (by rfl) (by rfl) (by rfl) (hi_2 _) ((c2_size _).trans (c2_size _).symm) (c2_one _) ?_
  simp only [List.set_cons_zero, List.set_cons_succ]
  refine L_val (.int .i64 12) (by rfl) (by rfl) (gives_value _ fun _ => by rfl) ?_
  refine L_end ?_
  intro w4 hw4
  refine wp_seq ?_
  refine seq_plain hw4 [0, 1, 2, 3] (by rfl) ?_
  refine L_val (.slice (some ⟨g1, 0, none⟩) 96 96) (by rfl) (by rfl) (gives_value _ fun _ => by rfl) ?_
  refine L_val (.slice (some ⟨b, o, none⟩) 96 C0) (by rfl) (by rfl) (gives_value _ fun _ => by rfl) ?_
  refine L_val (.bool true) (by rfl) (by rfl) (gives_call (vl := [.slice (some ⟨g1, 0, none⟩) 96 96, .slice (some ⟨b, o, none⟩) 96 C0]) (by kernel_rfl) (by rfl) (fun w h => n_same w _ _ _ _ _ _ (bs0) (bs0) (copy_reads (h.blk 1 (by rfl)) hn0) ((hr0.below h.below).more h.below.size) (by omega) (by omega) rfl)) ?_
  refine L_val (.bool false) (by rfl) (by rfl) (gives_value _ fun _ => by rfl) ?_
  refine L_end ?_
  intro w5 hw5
  refine wp_cond_false (fr_at _ _ (by rfl) _) ?_
  refine wp_skip ?_
  change Code.wp _ _ _ _ _
  refine wp_seq ?_
  refine seq_plain hw5 [0, 1, 2] (by rfl) ?_
  refine L_val (.slice (some ⟨b, o, none⟩) 96 C0) (by rfl) (by rfl) (gives_value _ fun _ => by rfl) ?_
  refine L_val (.int .i64 (96 : Int)) (by rfl) (by rfl) (gives_len _ 96 C0 und_u8s (by rfl)) ?_
  refine L_val (.bool false) (by rfl) (by rfl) (gives_ine (k := .i64) ((96 : Int)) (96) false (by rfl) (by rfl) (decide_eq_false (by omega))) ?_
  refine L_end ?_
  intro w6 hw6
  refine wp_cond_false (fr_at _ _ (by rfl) _) ?_
  refine wp_skip ?_
  change Code.wp _ _ _ _ _
  refine seq_plain hw6 [0, 1] (by rfl) ?_
  refine L_freshW (vl := []) (24) (Mp) (by rfl) (by rfl) (by kernel_rfl) (by rfl) (fun w h => m_04 w) ?_; intro g3 cap_1 cs_1 hwb_1
  refine L_val (.slice (some ⟨g3, 0, none⟩) (24) cap_1) (by rfl) (by rfl) (gives_value _ fun _ => by rfl) ?_
  refine L_end ?_
  intro w7 hw7
  refine wp_seq ?_
  refine seq_plain hw7 [0, 1, 2, 3, 4, 5, 6, 7, 8, 9, 10, 11, 12, 13] (by rfl) ?_
  refine L_val (.slice (some ⟨b, o, none⟩) 96 C0) (by rfl) (by rfl) (gives_value _ fun _ => by rfl) ?_
  refine L_val (.slice (some ⟨b, o, none⟩) 48 C0) (by rfl) (by rfl) (gives_low b o 96 C0 48 48 (by rfl) (by rfl) und_u8s u8_sz rfl (by omega)) ?_
  refine L_freshW (vl := [.slice (some ⟨b, o, none⟩) 48 C0]) ((48 + 1) / 2) (num (bs0.take 48)) (by rfl) (by rfl) (by kernel_rfl) (by rfl) (fun w h => n_number w _ 48 _ (bs0.take 48) (front48 ((hr0.below h.below).more h.below.size)) (ho0.take 48) (by omega)) ?_; intro g4 cap_2 cs_2 hwb_2
  refine L_val (.slice (some ⟨g3, 0, none⟩) (24) cap_1) (by rfl) (by rfl) (gives_value _ fun _ => by rfl) ?_
  refine L_val (.bool true) (by rfl) (by rfl) (gives_call (vl := [.slice (some ⟨g4, 0, none⟩) ((48 + 1) / 2) cap_2, .slice (some ⟨g3, 0, none⟩) (24) cap_1]) (by kernel_rfl) (by rfl) (fun w h => n_less w _ _ _ _ _ _ _ _ (hwb_2.num (h.blk 0 (by rfl)) (num_rng (bs0.take 48) 48 (ho0.take 48) (by simp; omega)) (by omega)) (hwb_1.num (h.blk 1 (by rfl)) ⟨Int.le_of_lt Mp_pos, Mp_24⟩ (by omega)) true (decide_eq_true (by omega)))) ?_
  refine L_val (.bool false) (by rfl) (by rfl) (gives_value _ fun _ => by rfl) ?_
  refine L_val (.bool false) (by rfl) (by rfl) (gives_value _ fun _ => by rfl) ?_
  refine L_val_g (dj := 38) (.slice (some ⟨b, o, none⟩) 96 C0) (by rfl) (by rfl) (by rfl) (by rfl) (by rfl) (gives_value _ fun _ => by rfl) ?_
  refine L_val_g (dj := 38) (.slice (some ⟨b, o + 48, none⟩) (96 - 48) (C0 - 48)) (by rfl) (by rfl) (by rfl) (by rfl) (by rfl) (gives_high b o 96 C0 48 48 (by rfl) (by rfl) und_u8s u8_sz rfl (by omega) (by omega) (by omega)) ?_
  refine L_freshG (vl := [.slice (some ⟨b, o + 48, none⟩) (96 - 48) (C0 - 48)]) ((48 + 1) / 2) (num (bs0.drop 48)) (by rfl) (by rfl) (Want.some (dj := 38) (by rfl) (by rfl) (by rfl) (by rfl)) (by kernel_rfl) (by rfl) (fun w h => n_number w _ 48 _ (bs0.drop 48) (back48 ((hr0.below h.below).more h.below.size)) (ho0.drop 48) (by omega)) ?_; intro g5 cap_3 cs_3 hwb_3
  refine L_val_g (dj := 38) (.slice (some ⟨g3, 0, none⟩) (24) cap_1) (by rfl) (by rfl) (by rfl) (by rfl) (by rfl) (gives_value _ fun _ => by rfl) ?_
  refine L_val_g (dj := 38) (.bool false) (by rfl) (by rfl) (by rfl) (by rfl) (by rfl) (gives_call (vl := [.slice (some ⟨g5, 0, none⟩) ((48 + 1) / 2) cap_3, .slice (some ⟨g3, 0, none⟩) (24) cap_1]) (by kernel_rfl) (by rfl) (fun w h => n_less w _ _ _ _ _ _ _ _ (hwb_3.num (h.blk 0 (by rfl)) (num_rng (bs0.drop 48) 48 (ho0.drop 48) (by simp; omega)) (by omega)) (hwb_1.num (h.blk 2 (by rfl)) ⟨Int.le_of_lt Mp_pos, Mp_24⟩ (by omega)) false (decide_eq_false (by omega)))) ?_
  refine L_val_g (dj := 38) (.bool true) (by rfl) (by rfl) (by rfl) (by rfl) (by rfl) (gives_value _ fun _ => by rfl) ?_
  refine L_val (.bool true) (by rfl) (by rfl) (gives_value _ fun _ => by rfl) ?_
  refine L_end ?_
  intro w8 hw8
  refine wp_cond_true (fr_at _ _ (by rfl) _) ?_
  refine seq_plain hw8 [0, 1, 2, 3, 4, 5, 6] (by rfl) ?_
  refine L_val (.int .i64 12) (by rfl) (by rfl) (gives_value _ fun _ => by rfl) ?_
  refine L_val (.bool true) (by rfl) (by rfl) (gives_ieq (k := .i64) (12) (12) true (by rfl) (by rfl) (decide_eq_true (by omega))) ?_
  refine L_val (.bool true) (by rfl) (by rfl) (gives_value _ fun _ => by rfl) ?_
  refine L_val_g (dj := 48) (.agg (c2 (0 : F2))) (by rfl) (by rfl) (by rfl) (by rfl) (by rfl) (gives_load g2 0 30 (c2 (0 : F2)) (c2 (0 : F2)) _ (by rfl) (fun _ h => h.blk 3 (by rfl)) (Sl.refl _) Tryd.underlying30 (by rfl) (hi_2 _)) ?_
  refine L_val_g (dj := 48) (.bool true) (by rfl) (by rfl) (by rfl) (by rfl) (by rfl) (gives_call (vl := [.agg (c2 (0 : F2))]) (by kernel_rfl) (by rfl) (fun w h => q_zero_z w (hG.keep h.below))) ?_
  refine L_val (.bool true) (by rfl) (by rfl) (gives_value _ fun _ => by rfl) ?_
  refine L_val (.bool true) (by rfl) (by rfl) (gives_value _ fun _ => by rfl) ?_
  refine L_end ?_
  intro w9 hw9
  refine wp_ret ?_
  change bodyPost _ _ _ Exit.ret _ _
  refine (ret_tmp (by rfl) (by rfl) (by rfl) ⟨rfl, hw9.below⟩)
set_option maxRecDepth 100000 in
set_option maxHeartbeats 4000000 in
theorem q_reads_ok (b o C0 : Nat) (bs0 : List Int) (v : World) (hG : Glo v) (hr0 : Reads v v.heap.size (some ⟨b, o, none⟩) 96 (bs0.map (Value.int .u8))) (ho0 : Oct bs0) (hb0 : 96 ≤ 140737488355328) (hc : 96 ≤ C0) (hb : num (bs0.take 48) < Mp) (ha : num (bs0.drop 48) < Mp) : Rets 3 #[.slice (some ⟨b, o, none⟩) 96 C0] v (.bool true) := by
  have hn0 : bs0.length = 96 := by simpa using hr0.1
  refine calls_fr1 Tryd.func3 rfl (by rfl : _ = 78) (by rfl) ?_
  have hw := Hbl.nil v
  refine seq_plain hw [0] (by rfl) ?_
  refine L_val (.bool false) (by rfl) (by rfl) (gives_value _ fun _ => by rfl) ?_
  refine L_end ?_
  intro w1 hw1
  refine wp_seq ?_
  refine seq_plain hw1 [0, 1] (by rfl) ?_
  refine L_val (.bool true) (by rfl) (by rfl) (gives_call (vl := []) (by kernel_rfl) (by rfl) (fun w h => q_head w (hG.keep h.below))) ?_
  refine L_val (.bool false) (by rfl) (by rfl) (gives_value _ fun _ => by rfl) ?_
  refine L_end ?_
  intro w2 hw2
  refine wp_cond_false (fr_at _ _ (by rfl) _) ?_
  refine wp_skip ?_
  change Code.wp _ _ _ _ _
  refine seq_plain hw2 [0, 1, 2] (by rfl) ?_
  refine L_val (.slice (some ⟨b, o, none⟩) 96 C0) (by rfl) (by rfl) (gives_value _ fun _ => by rfl) ?_
  refine L_fresh 5 (ag8 bs0) (fun g => .slice (some ⟨g, 0, none⟩) 96 96) (by rfl) (by rfl) (by kernel_rfl) (by rfl) (fun w h => copy_any w _ 96 C0 bs0 ((hr0.below h.below).more h.below.size) (by omega)) ?_; intro g1
  refine L_val (.slice (some ⟨g1, 0, none⟩) 96 96) (by rfl) (by rfl) (gives_value _ fun _ => by rfl) ?_
  refine L_end ?_
  intro w3 hw3
  refine seq_plain hw3 [0, 1, 2, 3, 4, 5, 6, 7] (by rfl) ?_
  refine L_val (.slice (some ⟨g1, 0, none⟩) 96 96) (by rfl) (by rfl) (gives_value _ fun _ => by rfl) ?_
  refine L_val (.tuple #[.agg (c2 (⟨Fp.n (num (bs0.drop 48)), Fp.n (num (bs0.take 48))⟩ : F2)), .int .i64 0]) (by rfl) (by rfl) (gives_call (vl := [.slice (some ⟨g1, 0, none⟩) 96 96]) (by kernel_rfl) (by rfl) (fun w h => q_read_ok _ 0 _ bs0 w (hG.keep h.below) (copy_reads (h.blk 0 (by rfl)) hn0) ho0 (by omega) hb ha)) ?_
  refine L_val (.tuple #[.agg (c2 (⟨Fp.n (num (bs0.drop 48)), Fp.n (num (bs0.take 48))⟩ : F2)), .int .i64 0]) (by rfl) (by rfl) (gives_value _ fun _ => by rfl) ?_
  refine L_val (.agg (c2 (⟨Fp.n (num (bs0.drop 48)), Fp.n (num (bs0.take 48))⟩ : F2))) (by rfl) (by rfl) (gives_value _ fun _ => by kernel_rfl) ?_
  refine L_val (.int .i64 0) (by rfl) (by rfl) (gives_value _ fun _ => by kernel_rfl) ?_
  refine L_alloc _ (by rfl) (by rfl) z_2 (c2 (0 : F2)) rfl ?_; intro g2
  refine L_store (t := 30) 0 g2 (c2 (0 : F2)) (c2 (⟨Fp.n (num (bs0.drop 48)), Fp.n (num (bs0.take 48))⟩ : F2)) (by rfl) (by rfl) (by rfl) (by rfl) (by rfl) (hi_2 _) ((c2_size _).trans (c2_size _).symm) (c2_one _) ?_
  simp only [List.set_cons_zero, List.set_cons_succ]
  refine L_val (.int .i64 0) (by rfl) (by rfl) (gives_value _ fun _ => by rfl) ?_
  refine L_end ?_
  intro w4 hw4
  refine wp_seq ?_
  refine seq_plain hw4 [0, 1, 2, 3] (by rfl) ?_
  refine L_val (.slice (some ⟨g1, 0, none⟩) 96 96) (by rfl) (by rfl) (gives_value _ fun _ => by rfl) ?_
  refine L_val (.slice (some ⟨b, o, none⟩) 96 C0) (by rfl) (by rfl) (gives_value _ fun _ => by rfl) ?_
  refine L_val (.bool true) (by rfl) (by rfl) (gives_call (vl := [.slice (some ⟨g1, 0, none⟩) 96 96, .slice (some ⟨b, o, none⟩) 96 C0]) (by kernel_rfl) (by rfl) (fun w h => n_same w _ _ _ _ _ _ (bs0) (bs0) (copy_reads (h.blk 1 (by rfl)) hn0) ((hr0.below h.below).more h.below.size) (by omega) (by omega) rfl)) ?_
  refine L_val (.bool false) (by rfl) (by rfl) (gives_value _ fun _ => by rfl) ?_
  refine L_end ?_
  intro w5 hw5
  refine wp_cond_false (fr_at _ _ (by rfl) _) ?_
  refine wp_skip ?_
  change Code.wp _ _ _ _ _
  refine wp_seq ?_
  refine seq_plain hw5 [0, 1, 2] (by rfl) ?_
  refine L_val (.slice (some ⟨b, o, none⟩) 96 C0) (by rfl) (by rfl) (gives_value _ fun _ => by rfl) ?_
  refine L_val (.int .i64 (96 : Int)) (by rfl) (by rfl) (gives_len _ 96 C0 und_u8s (by rfl)) ?_
  refine L_val (.bool false) (by rfl) (by rfl) (gives_ine (k := .i64) ((96 : Int)) (96) false (by rfl) (by rfl) (decide_eq_false (by omega))) ?_
  refine L_end ?_
  intro w6 hw6
  refine wp_cond_false (fr_at _ _ (by rfl) _) ?_
  refine wp_skip ?_
  change Code.wp _ _ _ _ _
  refine seq_plain hw6 [0, 1] (by rfl) ?_
  refine L_freshW (vl := []) (24) (Mp) (by rfl) (by rfl) (by kernel_rfl) (by rfl) (fun w h => m_04 w) ?_; intro g3 cap_1 cs_1 hwb_1
  refine L_val (.slice (some ⟨g3, 0, none⟩) (24) cap_1) (by rfl) (by rfl) (gives_value _ fun _ => by rfl) ?_
  refine L_end ?_
  intro w7 hw7
  refine wp_seq ?_
  refine seq_plain hw7 [0, 1, 2, 3, 4, 5, 6, 7, 8, 9, 10, 11, 12, 13] (by rfl) ?_
  refine L_val (.slice (some ⟨b, o, none⟩) 96 C0) (by rfl) (by rfl) (gives_value _ fun _ => by rfl) ?_
  refine L_val (.slice (some ⟨b, o, none⟩) 48 C0) (by rfl) (by rfl) (gives_low b o 96 C0 48 48 (by rfl) (by rfl) und_u8s u8_sz rfl (by omega)) ?_
  refine L_freshW (vl := [.slice (some ⟨b, o, none⟩) 48 C0]) ((48 + 1) / 2) (num (bs0.take 48)) (by rfl) (by rfl) (by kernel_rfl) (by rfl) (fun w h => n_number w _ 48 _ (bs0.take 48) (front48 ((hr0.below h.below).more h.below.size)) (ho0.take 48) (by omega)) ?_; intro g4 cap_2 cs_2 hwb_2
  refine L_val (.slice (some ⟨g3, 0, none⟩) (24) cap_1) (by rfl) (by rfl) (gives_value _ fun _ => by rfl) ?_
  refine L_val (.bool true) (by rfl) (by rfl) (gives_call (vl := [.slice (some ⟨g4, 0, none⟩) ((48 + 1) / 2) cap_2, .slice (some ⟨g3, 0, none⟩) (24) cap_1]) (by kernel_rfl) (by rfl) (fun w h => n_less w _ _ _ _ _ _ _ _ (hwb_2.num (h.blk 0 (by rfl)) (num_rng (bs0.take 48) 48 (ho0.take 48) (by simp; omega)) (by omega)) (hwb_1.num (h.blk 1 (by rfl)) ⟨Int.le_of_lt Mp_pos, Mp_24⟩ (by omega)) true (decide_eq_true (by omega)))) ?_
  refine L_val (.bool false) (by rfl) (by rfl) (gives_value _ fun _ => by rfl) ?_
  refine L_val (.bool false) (by rfl) (by rfl) (gives_value _ fun _ => by rfl) ?_
  refine L_val_g (dj := 38) (.slice (some ⟨b, o, none⟩) 96 C0) (by rfl) (by rfl) (by rfl) (by rfl) (by rfl) (gives_value _ fun _ => by rfl) ?_
  refine L_val_g (dj := 38) (.slice (some ⟨b, o + 48, none⟩) (96 - 48) (C0 - 48)) (by rfl) (by rfl) (by rfl) (by rfl) (by rfl) (gives_high b o 96 C0 48 48 (by rfl) (by rfl) und_u8s u8_sz rfl (by omega) (by omega) (by omega)) ?_
  refine L_freshG (vl := [.slice (some ⟨b, o + 48, none⟩) (96 - 48) (C0 - 48)]) ((48 + 1) / 2) (num (bs0.drop 48)) (by rfl) (by rfl) (Want.some (dj := 38) (by rfl) (by rfl) (by rfl) (by rfl)) (by kernel_rfl) (by rfl) (fun w h => n_number w _ 48 _ (bs0.drop 48) (back48 ((hr0.below h.below).more h.below.size)) (ho0.drop 48) (by omega)) ?_; intro g5 cap_3 cs_3 hwb_3
  refine L_val_g (dj := 38) (.slice (some ⟨g3, 0, none⟩) (24) cap_1) (by rfl) (by rfl) (by rfl) (by rfl) (by rfl) (gives_value _ fun _ => by rfl) ?_
  refine L_val_g (dj := 38) (.bool true) (by rfl) (by rfl) (by rfl) (by rfl) (by rfl) (gives_call (vl := [.slice (some ⟨g5, 0, none⟩) ((48 + 1) / 2) cap_3, .slice (some ⟨g3, 0, none⟩) (24) cap_1]) (by kernel_rfl) (by rfl) (fun w h => n_less w _ _ _ _ _ _ _ _ (hwb_3.num (h.blk 0 (by rfl)) (num_rng (bs0.drop 48) 48 (ho0.drop 48) (by simp; omega)) (by omega)) (hwb_1.num (h.blk 2 (by rfl)) ⟨Int.le_of_lt Mp_pos, Mp_24⟩ (by omega)) true (decide_eq_true (by omega)))) ?_
  refine L_val_g (dj := 38) (.bool false) (by rfl) (by rfl) (by rfl) (by rfl) (by rfl) (gives_value _ fun _ => by rfl) ?_
  refine L_val (.bool false) (by rfl) (by rfl) (gives_value _ fun _ => by rfl) ?_
  refine L_end ?_
  intro w8 hw8
  refine wp_cond_false (fr_at _ _ (by rfl) _) ?_
  refine wp_skip ?_
  change Code.wp _ _ _ _ _
  refine seq_plain hw8 [0, 1, 2, 3] (by rfl) ?_
  refine L_val (.agg (c2 (⟨Fp.n (num (bs0.drop 48)), Fp.n (num (bs0.take 48))⟩ : F2))) (by rfl) (by rfl) (gives_load g2 0 30 (c2 (⟨Fp.n (num (bs0.drop 48)), Fp.n (num (bs0.take 48))⟩ : F2)) (c2 (⟨Fp.n (num (bs0.drop 48)), Fp.n (num (bs0.take 48))⟩ : F2)) _ (by rfl) (fun _ h => h.blk 3 (by rfl)) (Sl.refl _) Tryd.underlying30 (by rfl) (hi_2 _)) ?_
  refine L_val (.agg (b96c (⟨Fp.n (num (bs0.drop 48)), Fp.n (num (bs0.take 48))⟩ : F2))) (by rfl) (by rfl) (gives_call (vl := [.agg (c2 (⟨Fp.n (num (bs0.drop 48)), Fp.n (num (bs0.take 48))⟩ : F2))]) (by kernel_rfl) (by rfl) (fun w h => q_bytes _ w (hG.keep h.below))) ?_
  refine L_alloc _ (by rfl) (by rfl) z_b96 (b96c (0 : F2)) rfl ?_; intro g6
  refine L_store (t := 39) 0 g6 (b96c (0 : F2)) (b96c (⟨Fp.n (num (bs0.drop 48)), Fp.n (num (bs0.take 48))⟩ : F2)) (by rfl) (by rfl) (by rfl) (by rfl) (by rfl) (hi_b96 _) ((b96c_size _).trans (b96c_size _).symm) (b96c_one _) ?_
  simp only [List.set_cons_zero, List.set_cons_succ]
  refine L_end ?_
  intro w9 hw9
  refine seq_plain hw9 [0, 1, 2, 3, 4] (by rfl) ?_
  refine L_val (.pointer (some ⟨g2, 6, none⟩)) (by rfl) (by rfl) (gives_value _ fun _ => by kernel_rfl) ?_
  refine L_val (.agg (pc ((⟨Fp.n (num (bs0.drop 48)), Fp.n (num (bs0.take 48))⟩ : F2).b))) (by rfl) (by rfl) (gives_load g2 6 30 (c2 (⟨Fp.n (num (bs0.drop 48)), Fp.n (num (bs0.take 48))⟩ : F2)) (pc ((⟨Fp.n (num (bs0.drop 48)), Fp.n (num (bs0.take 48))⟩ : F2).b)) _ (by rfl) (fun _ h => h.blk 4 (by rfl)) (sl_2b (⟨Fp.n (num (bs0.drop 48)), Fp.n (num (bs0.take 48))⟩ : F2) _ _ 6 (Sl.refl _) (by rfl)) Tryd.underlying28 (by rfl) (hi_1 _)) ?_
  refine L_val (.agg (b48c (((⟨Fp.n (num (bs0.drop 48)), Fp.n (num (bs0.take 48))⟩ : F2).b).val : Int))) (by rfl) (by rfl) (gives_call (vl := [.agg (pc ((⟨Fp.n (num (bs0.drop 48)), Fp.n (num (bs0.take 48))⟩ : F2).b))]) (by kernel_rfl) (by rfl) (fun w h => v_bytes _ w (hG.keep h.below))) ?_
  refine L_alloc _ (by rfl) (by rfl) z_b48 (b48c (0 : Int)) rfl ?_; intro g7
  refine L_store (t := 41) 0 g7 (b48c (0 : Int)) (b48c (((⟨Fp.n (num (bs0.drop 48)), Fp.n (num (bs0.take 48))⟩ : F2).b).val : Int)) (by rfl) (by rfl) (by rfl) (by rfl) (by rfl) (hi_b48 _) ((b48c_size _).trans (b48c_size _).symm) (b48c_one _) ?_
  simp only [List.set_cons_zero, List.set_cons_succ]
  refine L_end ?_
  intro w10 hw10
  refine seq_flow (by kernel_rfl) hw10 [] [(g7, 41, (b48c (((⟨Fp.n (num (bs0.drop 48)), Fp.n (num (bs0.take 48))⟩ : F2).b).val : Int))), (g6, 39, (b96c (⟨Fp.n (num (bs0.drop 48)), Fp.n (num (bs0.take 48))⟩ : F2))), (g5, 61, cs_3), (g4, 61, cs_2), (g3, 61, cs_1), (g2, 30, (c2 (⟨Fp.n (num (bs0.drop 48)), Fp.n (num (bs0.take 48))⟩ : F2))), (g1, 5, (ag8 bs0))] 22 (by rfl) ?_
  refine flow_take (i := 0) (.int .i64 0) (by rfl) (by kernel_rfl) (by kernel_rfl) (by kernel_rfl) (by rfl) (by kernel_rfl) (List.Sublist.refl _) (gives_value _ fun _ => by rfl) ?_
  refine flow_take (i := 1) (.bool true) (by rfl) (by kernel_rfl) (by kernel_rfl) (by kernel_rfl) (by rfl) (by kernel_rfl) (List.Sublist.refl _) (gives_ieq (k := .i64) (0) (0) true (by rfl) (by rfl) (decide_eq_true (by omega))) ?_
  refine flow_take (i := 2) (.bool true) (by rfl) (by kernel_rfl) (by kernel_rfl) (by kernel_rfl) (by rfl) (by kernel_rfl) (List.Sublist.refl _) (gives_value _ fun _ => by rfl) ?_
  refine flow_take_g (i := 3) (dj := 59) (.slice (some ⟨g6, 0, none⟩) 96 96) (by rfl) (by kernel_rfl) (by kernel_rfl) (by kernel_rfl) (by rfl) (by kernel_rfl) (List.Sublist.refl _) (by rfl) (by rfl) (by rfl) (gives_slice_arr g6 96 1 (by rfl) und_b96 u8_sz) ?_
  refine flow_take_g (i := 4) (dj := 59) (.slice (some ⟨b, o, none⟩) 96 C0) (by rfl) (by kernel_rfl) (by kernel_rfl) (by kernel_rfl) (by rfl) (by kernel_rfl) (List.Sublist.refl _) (by rfl) (by rfl) (by rfl) (gives_value _ fun _ => by rfl) ?_
  refine flow_one 5 (by kernel_rfl) ?_
  refine F_val (vl := [.slice (some ⟨g6, 0, none⟩) 96 96, .slice (some ⟨b, o, none⟩) 96 C0]) (.bool true) (by rfl) (by rfl) (Want.some (dj := 59) (by rfl) (by rfl) (by rfl) (by rfl)) (by kernel_rfl) (by rfl) (List.Sublist.refl _) (fun w h => n_same w _ _ _ _ _ _ (_) (bs0) (all_reads (h.blk 1 (by rfl))) ((hr0.below h.below).more h.below.size) (by omega) (by omega) (bytes_all ho0 hn0 hb ha)) ?_
  refine flow_take (i := 6) (.bool true) (by rfl) (by kernel_rfl) (by kernel_rfl) (by kernel_rfl) (by rfl) (by kernel_rfl) (List.Sublist.refl _) (gives_value _ fun _ => by rfl) ?_
  refine flow_take (i := 7) (.bool true) (by rfl) (by kernel_rfl) (by kernel_rfl) (by kernel_rfl) (by rfl) (by kernel_rfl) (List.Sublist.refl _) (gives_value _ fun _ => by rfl) ?_
  refine flow_take_g (i := 8) (dj := 64) (.slice (some ⟨g7, 0, none⟩) 48 48) (by rfl) (by kernel_rfl) (by kernel_rfl) (by kernel_rfl) (by rfl) (by kernel_rfl) (List.Sublist.refl _) (by rfl) (by rfl) (by rfl) (gives_slice_arr g7 48 1 (by rfl) und_b48 u8_sz) ?_
  refine flow_take_g (i := 9) (dj := 64) (.slice (some ⟨b, o, none⟩) 96 C0) (by rfl) (by kernel_rfl) (by kernel_rfl) (by kernel_rfl) (by rfl) (by kernel_rfl) (List.Sublist.refl _) (by rfl) (by rfl) (by rfl) (gives_value _ fun _ => by rfl) ?_
  refine flow_take_g (i := 10) (dj := 64) (.slice (some ⟨b, o, none⟩) 48 C0) (by rfl) (by kernel_rfl) (by kernel_rfl) (by kernel_rfl) (by rfl) (by kernel_rfl) (List.Sublist.refl _) (by rfl) (by rfl) (by rfl) (gives_low b o 96 C0 48 48 (by rfl) (by rfl) und_u8s u8_sz rfl (by omega)) ?_
  refine flow_one 11 (by kernel_rfl) ?_
  refine F_val (vl := [.slice (some ⟨g7, 0, none⟩) 48 48, .slice (some ⟨b, o, none⟩) 48 C0]) (.bool true) (by rfl) (by rfl) (Want.some (dj := 64) (by rfl) (by rfl) (by rfl) (by rfl)) (by kernel_rfl) (by rfl) (List.Sublist.refl _) (fun w h => n_same w _ _ _ _ _ _ (lo (((⟨Fp.n (num (bs0.drop 48)), Fp.n (num (bs0.take 48))⟩ : F2).b).val : Int) 48) (bs0.take 48) (copy_reads (h.blk 0 (by rfl)) (lo_len _ _)) (front48 ((hr0.below h.below).more h.below.size)) (by omega) (by omega) (bytes_low (ho0.take 48) (by simp; omega) hb)) ?_
  refine flow_take (i := 12) (.bool true) (by rfl) (by kernel_rfl) (by kernel_rfl) (by kernel_rfl) (by rfl) (by kernel_rfl) (List.Sublist.refl _) (gives_value _ fun _ => by rfl) ?_
  refine flow_take (i := 13) (.bool true) (by rfl) (by kernel_rfl) (by kernel_rfl) (by kernel_rfl) (by rfl) (by kernel_rfl) (List.Sublist.refl _) (gives_value _ fun _ => by rfl) ?_
  refine flow_take_g (i := 14) (dj := 70) (.agg (c2 (⟨Fp.n (num (bs0.drop 48)), Fp.n (num (bs0.take 48))⟩ : F2))) (by rfl) (by kernel_rfl) (by kernel_rfl) (by kernel_rfl) (by rfl) (by kernel_rfl) (List.Sublist.refl _) (by rfl) (by rfl) (by rfl) (gives_load g2 0 30 (c2 (⟨Fp.n (num (bs0.drop 48)), Fp.n (num (bs0.take 48))⟩ : F2)) (c2 (⟨Fp.n (num (bs0.drop 48)), Fp.n (num (bs0.take 48))⟩ : F2)) _ (by rfl) (fun _ h => h.blk 5 (by rfl)) (Sl.refl _) Tryd.underlying30 (by rfl) (hi_2 _)) ?_
  refine flow_take_g (i := 16) (dj := 70) (.agg (c2 (⟨Fp.n (num (bs0.drop 48)), Fp.n (num (bs0.take 48))⟩ : F2))) (by rfl) (by kernel_rfl) (by kernel_rfl) (by kernel_rfl) (by rfl) (by kernel_rfl) (List.Sublist.refl _) (by rfl) (by rfl) (by rfl) (gives_load g2 0 30 (c2 (⟨Fp.n (num (bs0.drop 48)), Fp.n (num (bs0.take 48))⟩ : F2)) (c2 (⟨Fp.n (num (bs0.drop 48)), Fp.n (num (bs0.take 48))⟩ : F2)) _ (by rfl) (fun _ h => h.blk 5 (by rfl)) (Sl.refl _) Tryd.underlying30 (by rfl) (hi_2 _)) ?_
  refine flow_take_g (i := 17) (dj := 70) (.agg (c2 (0 : F2))) (by rfl) (by kernel_rfl) (by kernel_rfl) (by kernel_rfl) (by rfl) (by kernel_rfl) (List.Sublist.refl _) (by rfl) (by rfl) (by rfl) (gb_fp2 [] trivial (by rfl) (c2 (0 : F2)) (by rfl)) ?_
  refine flow_take_g (i := 18) (dj := 70) (.bool (decide ((⟨Fp.n (num (bs0.drop 48)), Fp.n (num (bs0.take 48))⟩ : F2) = (0 : F2)))) (by rfl) (by kernel_rfl) (by kernel_rfl) (by kernel_rfl) (by rfl) (by kernel_rfl) (List.Sublist.refl _) (by rfl) (by rfl) (by rfl) (gives_eql (c2 (⟨Fp.n (num (bs0.drop 48)), Fp.n (num (bs0.take 48))⟩ : F2)) (c2 (0 : F2)) (decide ((⟨Fp.n (num (bs0.drop 48)), Fp.n (num (bs0.take 48))⟩ : F2) = (0 : F2))) (by rfl) (by rfl) (by kernel_rfl) (fun w => eq_2 (⟨Fp.n (num (bs0.drop 48)), Fp.n (num (bs0.take 48))⟩ : F2) (0 : F2) 9996 w)) ?_
  refine flow_one 15 (by kernel_rfl) ?_
  refine F_val (vl := [.agg (c2 (⟨Fp.n (num (bs0.drop 48)), Fp.n (num (bs0.take 48))⟩ : F2))]) (.bool (decide ((⟨Fp.n (num (bs0.drop 48)), Fp.n (num (bs0.take 48))⟩ : F2) = (0 : F2)))) (by rfl) (by rfl) (Want.some (dj := 70) (by rfl) (by rfl) (by rfl) (by rfl)) (by kernel_rfl) (by rfl) (List.Sublist.refl _) (fun w h => q_zero _ w (hG.keep h.below)) ?_
  refine flow_take_g (i := 19) (dj := 70) (.bool true) (by rfl) (by kernel_rfl) (by kernel_rfl) (by kernel_rfl) (by rfl) (by kernel_rfl) (List.Sublist.refl _) (by rfl) (by rfl) (by rfl) (gives_eqbb _ _ (by rfl) (by rfl) (by rfl) rfl) ?_
  refine flow_take (i := 20) (.bool true) (by rfl) (by kernel_rfl) (by kernel_rfl) (by kernel_rfl) (by rfl) (by kernel_rfl) (List.Sublist.refl _) (gives_value _ fun _ => by rfl) ?_
  refine flow_take (i := 21) (.bool true) (by rfl) (by kernel_rfl) (by kernel_rfl) (by kernel_rfl) (by rfl) (by kernel_rfl) (List.Sublist.refl _) (gives_value _ fun _ => by rfl) ?_
  refine flow_done (by kernel_rfl) ?_
  intro w11 hw11
  refine wp_ret ?_
  change bodyPost _ _ _ Exit.ret _ _
  refine (ret_tmp (by rfl) (by rfl) (by rfl) ⟨rfl, hw11.below⟩)
theorem q_reads_any (A0 : Option Addr) (L0 C0 : Nat) (bs0 : List Int) (v : World) (hG : Glo v) (hr0 : Reads v v.heap.size A0 L0 (bs0.map (Value.int .u8))) (ho0 : Oct bs0) (hb0 : L0 ≤ 140737488355328) (hc : L0 ≤ C0) : Rets 3 #[.slice A0 L0 C0] v (.bool true) := by
  by_cases h : L0 = 96
  · subst h
    obtain ⟨b, o, rfl, -, -⟩ := hr0.2 (by omega)
    rcases Int.lt_or_le (num (bs0.take 48)) Mp with hb | hb
    · rcases Int.lt_or_le (num (bs0.drop 48)) Mp with ha | ha
      · exact q_reads_ok b o C0 bs0 v hG hr0 ho0 hb0 hc hb ha
      · exact q_reads_a b o C0 bs0 v hG hr0 ho0 hb0 hc hb ha
    · exact q_reads_b b o C0 bs0 v hG hr0 ho0 hb0 hc hb
  · exact q_reads_len A0 L0 C0 bs0 v hG hr0 ho0 hb0 hc h
end Go.Proofs.YthfdohhglnhonaaDoor
