/-
  FpReads: the walk; Read of bytes that are no number.
-/
import Derived.Test.YtgkfkfodeooogaaDoorR3Z
namespace Go.Proofs.YtgkfkfodeooogaaDoor
open Go.RowKit
end Go.Proofs.YtgkfkfodeooogaaDoor
namespace Go.Proofs.YtgkfkfodeooogaaDoor
set_option linter.unusedSimpArgs false
set_option linter.unusedVariables false
open Go.RowKit
theorem u8_zs : (Tryd.prog.info? 5).map (fun i => (i.zero, i.size)) = some (some (.int .u8 0), 1) := by kernel_rfl
theorem bfill8 (b0 b1 b2 b3 b4 b5 b6 b7 : Int) : Instr.fill (fun i => some (i * 1, 1)) (Array.map (fun x => (Value.int IntKind.u8 0).cells[x % (Value.int IntKind.u8 0).cells.size]!) (Array.range (8 * 1)))
    [(0, Value.int IntKind.u8 b0), (1, Value.int IntKind.u8 b1), (2, Value.int IntKind.u8 b2), (3, Value.int IntKind.u8 b3), (4, Value.int IntKind.u8 b4), (5, Value.int IntKind.u8 b5), (6, Value.int IntKind.u8 b6), (7, Value.int IntKind.u8 b7)] = some (ag8 [b0, b1, b2, b3, b4, b5, b6, b7]) := by
  have e : Array.map (fun x => (Value.int IntKind.u8 0).cells[x % (Value.int IntKind.u8 0).cells.size]!) (Array.range (8 * 1)) = Array.replicate 8 (.int .u8 0) := by kernel_rfl
  rw [e]
  simp [Instr.fill, ag8, Value.cells, Array.replicate]
section
variable {ops : Array Oper} {late : List Nat} {R : Act → World → Prop} {v : World} {L L0 : List (Nat × TypeId × Array Value)} {n : Nat} {sl : List (Nat × Value)}
theorem wpOp_runG {P : Program} {Q : Exit → Act → World → Prop} {i : Nat} {o : Oper} {a : Act} {w w' : World} {u : Value} {K : Act → World → Prop} (hi : ops[i]? = some o) (hw : Region.wanted o (yielded ops a.tmps) = true)
    (hrun : (execOp a.eval o).run P w = .ok (.value u) w') (hK : K (a.put o.dst u) w') : Go.wpOp P ops Q i K a w := by
  unfold Go.wpOp
  simp only [hi]
  simp only [hw, if_true]
  refine .inl ?_
  unfold Oper.wp
  rw [hrun]
  exact hK
/-- Eight bytes, as a slice. -/
theorem L_build8 {i d : Nat} {il : List Nat} {ty : TypeId} {pos : String} {after : Array Edge} {gd : Option (Nat × Bool)} {p0 p1 p2 p3 p4 p5 p6 p7 : Operand} (b0 b1 b2 b3 b4 b5 b6 b7 : Int)
    (hi : ops[i]? = some ⟨some d, .buildSlice 24 8 #[(0, p0), (1, p1), (2, p2), (3, p3), (4, p4), (5, p5), (6, p6), (7, p7)], ty, pos, after, gd⟩) (hl : inFr n sl = true) (hw : Want ops n sl gd)
    (h0 : rho sl p0 = .int .u8 b0) (h1 : rho sl p1 = .int .u8 b1) (h2 : rho sl p2 = .int .u8 b2) (h3 : rho sl p3 = .int .u8 b3) (h4 : rho sl p4 = .int .u8 b4) (h5 : rho sl p5 = .int .u8 b5) (h6 : rho sl p6 = .int .u8 b6) (h7 : rho sl p7 = .int .u8 b7)
    (h : ∀ g, wpL Tryd.prog ops R il (fr n ((d, .slice (some ⟨g, 0, none⟩) 8 8) :: sl)) (Hbl v ((g, 5, ag8 [b0, b1, b2, b3, b4, b5, b6, b7]) :: L))) : wpL Tryd.prog ops R (i :: il) (fr n sl) (Hbl v L) := fun w hS => by
  obtain ⟨ie, he, hz⟩ := Option.map_eq_some_iff.1 u8_zs
  simp only [Prod.mk.injEq] at hz
  have hrun : (Instr.buildSlice 24 8 (#[(0, p0), (1, p1), (2, p2), (3, p3), (4, p4), (5, p5), (6, p6), (7, p7)].map fun x => (x.1, rho sl x.2))).run Tryd.prog w = .ok (.slice (some ⟨w.heap.size, 0, none⟩) 8 8) (w.alloc (.cells (ag8 [b0, b1, b2, b3, b4, b5, b6, b7]) 5)) := by
    refine run_buildSlice w _ _ 8 _ _ ie (.int .u8 0) und_u8s he hz.1 (by rw [hz.2]; decide) (by rw [hz.2]; decide) ?_
    rw [hz.2]
    simp only [List.map_toArray, List.map_cons, List.map_nil, h0, h1, h2, h3, h4, h5, h6, h7]
    exact bfill8 ..
  exact wpOp_runG (w' := w.alloc (.cells (ag8 [b0, b1, b2, b3, b4, b5, b6, b7]) 5)) hi (hw ..) (by rw [fr_eval n sl hl]; simp only [execOp, Sem.run_bind]; rw [hrun]; rfl) ⟨_, Hbl.stays v _, hS.alloc 5 (ag8 [b0, b1, b2, b3, b4, b5, b6, b7]), h _⟩
end
theorem lo8 (n : Int) : [n / 72057594037927936 % 256, n / 281474976710656 % 256, n / 1099511627776 % 256, n / 4294967296 % 256, n / 16777216 % 256, n / 65536 % 256, n / 256 % 256, n % 256] = lo n 8 := by
  simp only [lo]
  simp
theorem u8wrap (a : Int) : IntKind.u8.wrap a = a % 256 := by simp [IntKind.wrap, IntKind.bits, IntKind.signed]
theorem shr64 (a : Int) (s : Nat) (p : Int) (hs : s ≤ 64) (hp : (2 : Int) ^ s = p) : a.fdiv (2 ^ (min ((s : Int)).toNat IntKind.u64.bits)) = a / p := by
  have e : min ((s : Int)).toNat IntKind.u64.bits = s := by show min _ 64 = s; omega
  rw [e, hp, Int.fdiv_eq_ediv_of_nonneg _ (by rw [← hp]; exact Int.le_of_lt (Int.pow_pos (by omega)))]
theorem num_lo8 (n : Int) (h0 : 0 ≤ n) (h : n < Wd) : num (lo n 8) = n := by
  rw [num_lo, Int.emod_eq_of_lt h0]
  unfold Wd at h
  simpa using h
section
variable {P : Program} {S : World → Prop}
theorem gives_eqbb {l : List (Nat × Value)} {dst : Option Tmp} {t ct ty : TypeId} {x y : Operand} {pos : String} {after : Array Edge} {gd : Option (Nat × Bool)} (a b : Bool) (hx : rho l x = .bool a) (hy : rho l y = .bool b)
    (ht : P.underlying t = some .bool) (h : a = b) : Gives P S (.bool true) (execOp (rho l) ⟨dst, .binOp .eql t x y ct, ty, pos, after, gd⟩) := gives_value _ fun w => by
  subst h
  have h' : (Op.equal t (.bool a) (.bool a)).run P w = .ok true w := by
    unfold Op.equal
    rw [show Op.maxDepth = 9999 + 1 from rfl, run_equalIn_bool w 9999 t a a ht]
    simp
  simp [execOp, hx, hy, eqGuard, binOp, h']
end
theorem gb0_fp {S : World → Prop} {l : List (Nat × Value)} {dst : Option Nat} {ty : TypeId} {pos : String} {after : Array Edge} {gd : Option (Nat × Bool)} : Gives Tryd.prog S (.agg (pc 0)) (execOp (rho l) ⟨dst, .build 57 #[], ty, pos, after, gd⟩) := gives_value _ fun w => by
  have h : (Instr.build 57 #[]).run Tryd.prog w = .ok (.agg (pc 0)) w := by rw [pc_zero]; kernel_rfl
  simp [execOp, h]
theorem rng8 {n : Int} (h0 : 0 ≤ n) (h : n < Wd) : 0 ≤ n ∧ n < 65536 ^ 4 := ⟨h0, by unfold Wd at h; simpa using h⟩
theorem of_mod {n M : Int} (h0 : 0 ≤ n) (h : n < M) : n % M = n := Int.emod_eq_of_lt h0 h
theorem Wd_Mp : Wd < Mp := by unfold Wd Mp; decide
theorem of_val {k : Int} (h0 : 0 ≤ k) (h : k < Mp) : ((Fp.n k).val : Int) = k := by rw [Fp.n_val]; exact of_mod h0 h
theorem z_iff {k : Int} (h0 : 0 ≤ k) (h : k < Mp) : Fp.n k = 0 ↔ k = 0 := by
  rw [← Fp.n_zero, Fp.n_inj, Int.zero_emod, of_mod h0 h]
theorem n_less (w : World) (A0 : Option Addr) (n0 c0 : Nat) (a : Int) (A1 : Option Addr) (n1 c1 : Nat) (b : Int) (ha : NumAt w A0 n0 a) (hb : NumAt w A1 n1 b) (r : Bool) (h : decide (a < b) = r) : Rets 54 #[.slice A0 n0 c0, .slice A1 n1 c1] w (.bool r) := by
  have s0 := ha.sz
  have s1 := hb.sz
  have e := r3_less w A0 n0 c0 _ A1 n1 c1 _ ha.rd hb.rd (wl_w16 _ _) (wl_w16 _ _) (by omega) (by omega)
  rw [ha.va, hb.va, h] at e
  exact e
end Go.Proofs.YtgkfkfodeooogaaDoor
