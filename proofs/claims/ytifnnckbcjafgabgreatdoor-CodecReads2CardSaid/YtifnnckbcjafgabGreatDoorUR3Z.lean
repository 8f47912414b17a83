/-
  R3K, R3L, R3M, R3T, R3N, R3H, FlowM, R3X, R3Y, in one text.
-/
import Derived.Test.YtifnnckbcjafgabGreatDoorUA2
import Derived.Test.YtifnnckbcjafgabGreatDoorUA3
import Derived.Test.YtifnnckbcjafgabGreatDoorUA5
/-! ## R3K -/
namespace Go.Proofs.YtifnnckbcjafgabGreatDoor
set_option linter.unusedSimpArgs false
set_option linter.unusedVariables false
open Go.RowKit
def bw (l m : List Int) (k : Nat) : Int := -((vg (gt l) k - vg (gt m) k) / 65536 ^ k)
theorem u8_sz : (Tryz.prog.info? 5).map (·.size) = some 1 := by kernel_rfl
theorem und_int : Tryz.prog.underlying 3 = some (.int .i64) := by kernel_rfl
theorem und_u8s : Tryz.prog.underlying 22 = some (.slice 5) := by kernel_rfl
theorem und_u8' : Tryz.prog.underlying 5 = some (.int .u8) := by kernel_rfl
theorem w32 (x : Int) (h0 : 0 ≤ x) (h : x < 4294967296) : IntKind.u32.wrap x = x := by
  simp [IntKind.wrap, IntKind.bits, IntKind.signed]; omega
end Go.Proofs.YtifnnckbcjafgabGreatDoor

/-! ## R3L -/
namespace Go.Proofs.YtifnnckbcjafgabGreatDoor
set_option linter.unusedSimpArgs false
set_option linter.unusedVariables false
open Go.RowKit
attribute [local irreducible] wpL wpF fr Code.wp bodyPost
end Go.Proofs.YtifnnckbcjafgabGreatDoor

/-! ## R3M -/
namespace Go.Proofs.YtifnnckbcjafgabGreatDoor
set_option linter.unusedSimpArgs false
set_option linter.unusedVariables false
open Go.RowKit
attribute [local irreducible] wpL wpF fr Code.wp bodyPost
end Go.Proofs.YtifnnckbcjafgabGreatDoor

/-! ## R3T -/
namespace Go.Proofs.YtifnnckbcjafgabGreatDoor
set_option linter.unusedSimpArgs false
set_option linter.unusedVariables false
open Go.RowKit
attribute [local irreducible] wpL wpF fr Code.wp bodyPost
end Go.Proofs.YtifnnckbcjafgabGreatDoor

/-! ## R3N -/
namespace Go.Proofs.YtifnnckbcjafgabGreatDoor
set_option linter.unusedSimpArgs false
set_option linter.unusedVariables false
open Go.RowKit
section
variable {P : Program} {S : World → Prop} {l : List (Nat × Value)} {dst : Option Nat} {x y : Operand} {t ty : TypeId} {pos : String} {after : Array Edge} {gd : Option (Nat × Bool)}
theorem gives_slice_to {e : TypeId} {k : IntKind} (g m c j : Nat) (i : Int) (hx : rho l x = .slice (some ⟨g, 0, none⟩) m c) (hy : rho l y = .int k i) (ht : P.underlying t = some (.slice e)) (hs : (P.info? e).map (·.size) = some 1) (h0 : i = (j : Int)) (h1 : j ≤ c) :
    Gives P S (.slice (some ⟨g, 0, none⟩) j c) (execOp (rho l) ⟨dst, .slice t x none (some y) none, ty, pos, after, gd⟩) := gives_value _ fun w => by
  subst h0
  obtain ⟨ie, he, hz⟩ := Option.map_eq_some_iff.1 hs
  simp [execOp, hx, hy, Instr.sliceAt, Instr.slice, Instr.sliceBounds, Instr.sliceBound, run_underlying ht, asIntOf, sizeOf, typeInfo, he, hz, h1, add_plain]
end
/-- Words lie at the front of a block. -/
structure W2 (cs : Array Value) (cap m : Nat) (l : List Int) : Prop where
  size : cs.size = cap
  le : m ≤ cap
  cap : cap ≤ 9223372036854775807
  len : l.length = m
  words : cs.toList.take m = l.map (Value.int .u32)
theorem W2.at_ {cs : Array Value} {cap m : Nat} {l : List Int} (h : W2 cs cap m l) (i : Nat) (hi : i < m) : cs[0 + i]? = some (Value.int .u32 (gt l i)) := by
  have h1 : cs.toList[i]? = (l.map (Value.int .u32))[i]? := by rw [← h.words, List.getElem?_take_of_lt hi]
  have h2 : i < l.length := by rw [h.len]; exact hi
  rw [Nat.zero_add, ← Array.getElem?_toList, h1]
  simp [gt, h2]
theorem W2.set {cs : Array Value} {cap m : Nat} {l : List Int} (h : W2 cs cap m l) (i : Nat) (d : Int) : W2 (cs.setIfInBounds (0 + i) (.int .u32 d)) cap m (l.set i d) :=
  ⟨by simp [h.size], h.le, h.cap, by rw [List.length_set, h.len], by rw [Nat.zero_add, Array.toList_setIfInBounds, List.take_set, h.words, List.map_set]⟩
theorem W2.reads {w : World} {g cap m : Nat} {e : TypeId} {cs : Array Value} {l : List Int} (h : W2 cs cap m l) (hB : Blk w g e cs) : Reads w w.heap.size (some ⟨g, 0, none⟩) m (l.map (Value.int .u32)) := by
  have := hB.reads hB.lt 0 m (by rw [h.size, Nat.zero_add]; exact h.le)
  rwa [List.drop_zero, h.words] at this
/-! ### Bits -/
/-! ### Remainders, bit by bit -/
attribute [local irreducible] wpL wpF fr Code.wp bodyPost
end Go.Proofs.YtifnnckbcjafgabGreatDoor

/-! ## R3H -/
namespace Go.Proofs.YtifnnckbcjafgabGreatDoor
set_option linter.unusedSimpArgs false
set_option linter.unusedVariables false
open Go.RowKit
/-- The characters of a string. -/
def sl (s : ByteArray) : List Int := s.data.toList.map fun b => (b.toNat : Int)
section
variable {P : Program} {S : World → Prop} {l : List (Nat × Value)} {dst : Option Nat} {x y : Operand} {t ty : TypeId} {pos : String} {after : Array Edge} {gd : Option (Nat × Bool)}
end
/-- The digit of a character; the number of the last k characters. -/
def dg (c : Int) : Int := if 97 ≤ c then c - 87 else c - 48
def hv (l : List Int) (n : Nat) : Nat → Int
  | 0 => 0
  | k + 1 => hv l n k + 16 ^ k * dg (gt l (n - 1 - k))
def Dig (c : Int) : Prop := 48 ≤ c ∧ c ≤ 57 ∨ 97 ≤ c ∧ c ≤ 102
instance (c : Int) : Decidable (Dig c) := inferInstanceAs (Decidable (_ ∨ _))
attribute [local irreducible] wpL wpF fr Code.wp bodyPost
end Go.Proofs.YtifnnckbcjafgabGreatDoor

/-! ## FlowM -/
namespace Go.Proofs.YtifnnckbcjafgabGreatDoor
set_option linter.unusedSimpArgs false
set_option linter.unusedVariables false
open Go.RowKit
section
variable {ops : Array Oper} {late : List Nat} {R : Act → World → Prop} {v : World} {L L0 : List (Nat × TypeId × Array Value)} {n : Nat} {sl : List (Nat × Value)}
/-- A call, as a step. -/
theorem wpOp_call {Q : Exit → Act → World → Prop} {i d : Nat} {f : FuncId} {args : Array Operand} {ats : Array TypeId} {ty : TypeId} {pos : String} {after : Array Edge} {gd : Option (Nat × Bool)} {vl : List Value} {K : Act → World → Prop} {w : World} {Post : Ending → World → Prop}
    (hi : ops[i]? = some ⟨some d, .call { callee := .value (.func f), args := args, argTypes := ats }, ty, pos, after, gd⟩) (hl : inFr n sl = true) (hw : Region.wanted ⟨some d, .call { callee := .value (.func f), args := args, argTypes := ats }, ty, pos, after, gd⟩ (yielded ops (fr n sl).tmps) = true)
    (hf : (Tryz.prog.funcs[f]?).map (fun fn => (fn.name == "runtime.NumGoroutine", fn.body.isNone)) = some (false, false))
    (ha : args.toList.map (rho sl) = vl) (hc : Calls Tryz.prog f vl.toArray w Post) (hK : ∀ e w', Post e w' → ∃ u, e = .returned u ∧ K (fr n ((d, u) :: sl)) w') : Go.wpOp Tryz.prog ops Q i K (fr n sl) w := by
  unfold Go.wpOp
  simp only [hi]
  simp only [hw, if_true]
  refine .inl ?_
  unfold Oper.wp
  have hrun : (execOp (fr n sl).eval ⟨some d, .call { callee := .value (.func f), args := args, argTypes := ats }, ty, pos, after, gd⟩).run Tryz.prog w = .ok (.enter f vl.toArray) w := by
    rw [fr_eval n sl hl]
    obtain ⟨fn, h1, h2⟩ := Option.map_eq_some_iff.1 hf
    simp only [Prod.mk.injEq, beq_eq_false_iff_ne, ne_eq, Option.isNone_eq_false_iff] at h2
    have h3 : fn.body ≠ none := by intro e; simp [e] at h2
    have ha : args.map (rho sl) = vl.toArray := by rw [← ha, ← Array.toList_map, Array.toArray_toList]
    simp [execOp, resolve, rho, Deferred.ofValue, invoke, ha, callFunc, h1, h2.1, h3]
  rw [hrun]
  refine Calls.mono hc fun e w' he => ?_
  obtain ⟨u, rfl, hk⟩ := hK e w' he
  exact hk
/-- How an operation is guarded, and that it is wanted. -/
def Want (ops : Array Oper) (n : Nat) (sl : List (Nat × Value)) (gd : Option (Nat × Bool)) : Prop := ∀ (d : Option Tmp) (op : Op) (ty : TypeId) (pos : String) (after : Array Edge), Region.wanted ⟨d, op, ty, pos, after, gd⟩ (yielded ops (fr n sl).tmps) = true
theorem Want.none : Want ops n sl .none := fun _ _ _ _ _ => rfl
theorem Want.some {j dj : Nat} {want : Bool} (hl : inFr n sl = true) (hd : Nat.blt dj n = true) (hj : (ops[j]?).bind (·.dst) = .some dj) (hv : look sl dj = .bool want) : Want ops n sl (.some (j, want)) := fun _ _ _ _ _ => by
  simp [Region.wanted, fr_yield hl hd hj hv]
end
end Go.Proofs.YtifnnckbcjafgabGreatDoor

/-! ## R3X -/
namespace Go.Proofs.YtifnnckbcjafgabGreatDoor
set_option linter.unusedSimpArgs false
set_option linter.unusedVariables false
open Go.RowKit
section
variable {P : Program} {S : World → Prop} {l : List (Nat × Value)} {dst : Option Nat} {x y : Operand} {t ty : TypeId} {pos : String} {after : Array Edge} {gd : Option (Nat × Bool)}
theorem gives_slice_arr {e : TypeId} (g m sz : Nat) (hx : rho l x = .pointer (some ⟨g, 0, none⟩)) (ht : P.underlying t = some (.array m e)) (hs : (P.info? e).map (·.size) = some sz) :
    Gives P S (.slice (some ⟨g, 0, none⟩) m m) (execOp (rho l) ⟨dst, .slice t x none none none, ty, pos, after, gd⟩) := gives_value _ fun w => by
  obtain ⟨ie, he, hz⟩ := Option.map_eq_some_iff.1 hs
  by_cases h0 : m = 0 <;> simp [execOp, hx, Instr.sliceAt, Instr.slice, Instr.sureAddr, Instr.sliceBounds, Instr.sliceBound, run_underlying ht, sizeOf, typeInfo, he, hz, add_plain, h0]
end
/-- Forty-eight bytes of a number. -/
def b48c (a : Int) : Array Value := ag8 (lo a 48)
theorem b48c_size (a : Int) : (b48c a).size = 48 := by rw [b48c, ag8_size, lo_len]
theorem b48c_one (a : Int) : (b48c a).all (·.oneCell') = true := ag8_one _
theorem hi_b48 (a : Int) : (Tryz.prog.info? 66).map (·.size) = some (b48c a).size := by rw [b48c_size]; kernel_rfl
theorem z_b48 : (Tryz.prog.info? 66).map (·.zero) = some (some (.agg (b48c 0))) := by kernel_rfl
theorem und_b48 : Tryz.prog.underlying 66 = some (.array 48 5) := by kernel_rfl
theorem v_bytes (x : Fp) (w : World) (hG : Glo w) : Rets 91 #[.agg (pc x)] w (.agg (b48c (x.val : Int))) := by
  have h := fp_bytes x.val w hG.m
  rw [Fp.val_mod] at h
  exact h
attribute [local irreducible] wpL wpF fr Code.wp bodyPost
end Go.Proofs.YtifnnckbcjafgabGreatDoor

/-! ## R3Y -/
namespace Go.Proofs.YtifnnckbcjafgabGreatDoor
set_option linter.unusedSimpArgs false
set_option linter.unusedVariables false
open Go.RowKit
section
variable {ops : Array Oper} {late : List Nat} {R : Act → World → Prop} {v : World} {L L0 : List (Nat × TypeId × Array Value)} {n : Nat} {sl : List (Nat × Value)}
end
section
variable {P : Program} {fn : Func} {E : Ending → World → Prop} {n : Nat} {sl : List (Nat × Value)} {w : World}
end
attribute [local irreducible] wpL wpF fr Code.wp bodyPost
end Go.Proofs.YtifnnckbcjafgabGreatDoor
