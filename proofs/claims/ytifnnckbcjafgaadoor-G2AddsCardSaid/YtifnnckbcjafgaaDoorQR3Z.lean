/-
  R3K, R3L, R3M, R3T, R3N, R3H, FlowM, R3X, R3Y, in one text.
-/
import Derived.Test.YtifnnckbcjafgaaDoorQA2
import Derived.Test.YtifnnckbcjafgaaDoorQA3
import Derived.Test.YtifnnckbcjafgaaDoorQA5
/-! ## R3K -/
namespace Go.Proofs.YtifnnckbcjafgaaDoor
set_option linter.unusedSimpArgs false
set_option linter.unusedVariables false
open Go.RowKit
def bw (l m : List Int) (k : Nat) : Int := -((vg (gt l) k - vg (gt m) k) / 65536 ^ k)
/-- m words of val lie at the front of a block. -/
structure WB (cs : Array Value) (cap m : Nat) (val : Int) : Prop where
  size : cs.size = cap
  le : m ≤ cap
  cap : cap ≤ 9223372036854775807
  words : cs.toList.take m = (wl val m).map (Value.int .u32)
theorem WB.reads {w : World} {g cap m : Nat} {e : TypeId} {cs : Array Value} {val : Int} (h : WB cs cap m val) (hB : Blk w g e cs) : Reads w w.heap.size (some ⟨g, 0, none⟩) m ((wl val m).map (Value.int .u32)) := by
  have := hB.reads hB.lt 0 m (by rw [h.size, Nat.zero_add]; exact h.le)
  rwa [List.drop_zero, h.words] at this
theorem WB.nil (val : Int) : WB #[] 0 0 val := ⟨rfl, Nat.le_refl _, by omega, rfl⟩
theorem u8_sz : (Tryd.prog.info? 5).map (·.size) = some 1 := by kernel_rfl
theorem und_int : Tryd.prog.underlying 3 = some (.int .i64) := by kernel_rfl
theorem und_u8s : Tryd.prog.underlying 22 = some (.slice 5) := by kernel_rfl
theorem und_u8' : Tryd.prog.underlying 5 = some (.int .u8) := by kernel_rfl
theorem w32 (x : Int) (h0 : 0 ≤ x) (h : x < 4294967296) : IntKind.u32.wrap x = x := by
  simp [IntKind.wrap, IntKind.bits, IntKind.signed]; omega
end Go.Proofs.YtifnnckbcjafgaaDoor

/-! ## R3L -/
namespace Go.Proofs.YtifnnckbcjafgaaDoor
set_option linter.unusedSimpArgs false
set_option linter.unusedVariables false
open Go.RowKit
attribute [local irreducible] wpL wpF fr Code.wp bodyPost
end Go.Proofs.YtifnnckbcjafgaaDoor

/-! ## R3M -/
namespace Go.Proofs.YtifnnckbcjafgaaDoor
set_option linter.unusedSimpArgs false
set_option linter.unusedVariables false
open Go.RowKit
/-- Words as cells. -/
def ag32 (l : List Int) : Array Value := (l.map (Value.int .u32)).toArray
theorem ag32_size (l : List Int) : (ag32 l).size = l.length := by simp [ag32]
theorem WB.of (val : Int) (m : Nat) (h : m ≤ 9223372036854775807) : WB (ag32 (wl val m)) m m val :=
  ⟨by rw [ag32_size, wl_len], Nat.le_refl _, h, by simp only [ag32]; rw [List.take_of_length_le (by simp [wl_len])]⟩
attribute [local irreducible] wpL wpF fr Code.wp bodyPost
end Go.Proofs.YtifnnckbcjafgaaDoor

/-! ## R3T -/
namespace Go.Proofs.YtifnnckbcjafgaaDoor
set_option linter.unusedSimpArgs false
set_option linter.unusedVariables false
open Go.RowKit
theorem und_w64 : Tryd.prog.underlying 26 = some (.int .u64) := by kernel_rfl
attribute [local irreducible] wpL wpF fr Code.wp bodyPost
end Go.Proofs.YtifnnckbcjafgaaDoor

/-! ## R3N -/
namespace Go.Proofs.YtifnnckbcjafgaaDoor
set_option linter.unusedSimpArgs false
set_option linter.unusedVariables false
open Go.RowKit
section
variable {P : Program} {S : World → Prop} {l : List (Nat × Value)} {dst : Option Nat} {x y : Operand} {t ty : TypeId} {pos : String} {after : Array Edge} {gd : Option (Nat × Bool)}
end
/-- Words lie at the front of a block. -/
structure W2 (cs : Array Value) (cap m : Nat) (l : List Int) : Prop where
  size : cs.size = cap
  le : m ≤ cap
  cap : cap ≤ 9223372036854775807
  len : l.length = m
  words : cs.toList.take m = l.map (Value.int .u32)
theorem WB.two {cs : Array Value} {cap m : Nat} {val : Int} (h : WB cs cap m val) : W2 cs cap m (wl val m) := ⟨h.size, h.le, h.cap, wl_len _ _, h.words⟩
theorem W2.at_ {cs : Array Value} {cap m : Nat} {l : List Int} (h : W2 cs cap m l) (i : Nat) (hi : i < m) : cs[0 + i]? = some (Value.int .u32 (gt l i)) := by
  have h1 : cs.toList[i]? = (l.map (Value.int .u32))[i]? := by rw [← h.words, List.getElem?_take_of_lt hi]
  have h2 : i < l.length := by rw [h.len]; exact hi
  rw [Nat.zero_add, ← Array.getElem?_toList, h1]
  simp [gt, h2]
theorem W2.set {cs : Array Value} {cap m : Nat} {l : List Int} (h : W2 cs cap m l) (i : Nat) (d : Int) : W2 (cs.setIfInBounds (0 + i) (.int .u32 d)) cap m (l.set i d) :=
  ⟨by simp [h.size], h.le, h.cap, by rw [List.length_set, h.len], by rw [Nat.zero_add, Array.toList_setIfInBounds, List.take_set, h.words, List.map_set]⟩
theorem W2.reads {w : World} {g cap m : Nat} {e : TypeId} {cs : Array Value} {l : List Int} (h : W2 cs cap m l) (hB : Blk w g e cs) : Reads w w.heap.size (some ⟨g, 0, none⟩) m (l.map (Value.int .u32)) := by
  have := hB.reads hB.lt 0 m (by rw [h.size, Nat.zero_add]; exact h.le)
  rwa [List.drop_zero, h.words] at this
/-! ### Bits -/
/-! ### Remainders, bit by bit -/
theorem WB.val {cs : Array Value} {cap m : Nat} {a b : Int} (h : WB cs cap m a) (e : a = b) : WB cs cap m b := e ▸ h
attribute [local irreducible] wpL wpF fr Code.wp bodyPost
end Go.Proofs.YtifnnckbcjafgaaDoor

/-! ## R3H -/
namespace Go.Proofs.YtifnnckbcjafgaaDoor
set_option linter.unusedSimpArgs false
set_option linter.unusedVariables false
open Go.RowKit
/-- The characters of a string. -/
def sl (s : ByteArray) : List Int := s.data.toList.map fun b => (b.toNat : Int)
section
variable {P : Program} {S : World → Prop} {l : List (Nat × Value)} {dst : Option Nat} {x y : Operand} {t ty : TypeId} {pos : String} {after : Array Edge} {gd : Option (Nat × Bool)}
end
/-- The digit of a character; the number of the last k characters. -/
def dg (c : Int) : Int := if 97 ≤ c then c - 87 else c - 48
def hv (l : List Int) (n : Nat) : Nat → Int
  | 0 => 0
  | k + 1 => hv l n k + 16 ^ k * dg (gt l (n - 1 - k))
def Dig (c : Int) : Prop := 48 ≤ c ∧ c ≤ 57 ∨ 97 ≤ c ∧ c ≤ 102
instance (c : Int) : Decidable (Dig c) := inferInstanceAs (Decidable (_ ∨ _))
theorem WB.len {cs : Array Value} {cap m m' : Nat} {a : Int} (h : WB cs cap m a) (e : m = m') : WB cs cap m' a := e ▸ h
theorem W2.back {cs : Array Value} {cap m : Nat} {a : Int} (h : W2 cs cap m (wl a m)) : WB cs cap m a := ⟨h.size, h.le, h.cap, h.words⟩
attribute [local irreducible] wpL wpF fr Code.wp bodyPost
end Go.Proofs.YtifnnckbcjafgaaDoor

/-! ## FlowM -/
namespace Go.Proofs.YtifnnckbcjafgaaDoor
set_option linter.unusedSimpArgs false
set_option linter.unusedVariables false
open Go.RowKit
section
variable {ops : Array Oper} {late : List Nat} {R : Act → World → Prop} {v : World} {L L0 : List (Nat × TypeId × Array Value)} {n : Nat} {sl : List (Nat × Value)}
/-- A call, as a step. -/
theorem wpOp_call {Q : Exit → Act → World → Prop} {i d : Nat} {f : FuncId} {args : Array Operand} {ats : Array TypeId} {ty : TypeId} {pos : String} {after : Array Edge} {gd : Option (Nat × Bool)} {vl : List Value} {K : Act → World → Prop} {w : World} {Post : Ending → World → Prop}
    (hi : ops[i]? = some ⟨some d, .call { callee := .value (.func f), args := args, argTypes := ats }, ty, pos, after, gd⟩) (hl : inFr n sl = true) (hw : Region.wanted ⟨some d, .call { callee := .value (.func f), args := args, argTypes := ats }, ty, pos, after, gd⟩ (yielded ops (fr n sl).tmps) = true)
    (hf : (Tryd.prog.funcs[f]?).map (fun fn => (fn.name == "runtime.NumGoroutine", fn.body.isNone)) = some (false, false))
    (ha : args.toList.map (rho sl) = vl) (hc : Calls Tryd.prog f vl.toArray w Post) (hK : ∀ e w', Post e w' → ∃ u, e = .returned u ∧ K (fr n ((d, u) :: sl)) w') : Go.wpOp Tryd.prog ops Q i K (fr n sl) w := by
  unfold Go.wpOp
  simp only [hi]
  simp only [hw, if_true]
  refine .inl ?_
  unfold Oper.wp
  have hrun : (execOp (fr n sl).eval ⟨some d, .call { callee := .value (.func f), args := args, argTypes := ats }, ty, pos, after, gd⟩).run Tryd.prog w = .ok (.enter f vl.toArray) w := by
    rw [fr_eval n sl hl]
    obtain ⟨fn, h1, h2⟩ := Option.map_eq_some_iff.1 hf
    simp only [Prod.mk.injEq, beq_eq_false_iff_ne, ne_eq, Option.isNone_eq_false_iff] at h2
    have h3 : fn.body ≠ none := by intro e; simp [e] at h2
    have ha : args.map (rho sl) = vl.toArray := by rw [← ha, ← Array.toList_map, Array.toArray_toList]
    simp [execOp, resolve, rho, Deferred.ofValue, invoke, ha, callFunc, h1, h2.1, h3]
  rw [hrun]
  refine Calls.mono hc fun e w' he => ?_
  obtain ⟨u, rfl, hk⟩ := hK e w' he
  exact hk
/-- How an operation is guarded, and that it is wanted. -/
def Want (ops : Array Oper) (n : Nat) (sl : List (Nat × Value)) (gd : Option (Nat × Bool)) : Prop := ∀ (d : Option Tmp) (op : Op) (ty : TypeId) (pos : String) (after : Array Edge), Region.wanted ⟨d, op, ty, pos, after, gd⟩ (yielded ops (fr n sl).tmps) = true
theorem Want.none : Want ops n sl .none := fun _ _ _ _ _ => rfl
theorem Want.some {j dj : Nat} {want : Bool} (hl : inFr n sl = true) (hd : Nat.blt dj n = true) (hj : (ops[j]?).bind (·.dst) = .some dj) (hv : look sl dj = .bool want) : Want ops n sl (.some (j, want)) := fun _ _ _ _ _ => by
  simp [Region.wanted, fr_yield hl hd hj hv]
theorem F_val {i d fuel : Nat} {listed : Array Bool} {f : FuncId} {args : Array Operand} {ats : Array TypeId} {ty : TypeId} {pos : String} {after : Array Edge} {gd : Option (Nat × Bool)} {vl : List Value} (u : Value)
    (hi : ops[i]? = some ⟨some d, .call { callee := .value (.func f), args := args, argTypes := ats }, ty, pos, after, gd⟩) (hl : inFr n sl = true) (hw : Want ops n sl gd) (hf : (Tryd.prog.funcs[f]?).map (fun fn => (fn.name == "runtime.NumGoroutine", fn.body.isNone)) = some (false, false))
    (ha : args.toList.map (rho sl) = vl) (hs : L0.Sublist L) (hc : ∀ w, Hbl v L w → Calls Tryd.prog f vl.toArray w fun e w' => e = .returned u ∧ Below w.heap.size w w')
    (h : wpF Tryd.prog .any ops late R (Hbl v L0) fuel (listed.setIfInBounds i true) (fr n ((d, u) :: sl)) (Hbl v L)) :
    ∀ w, Hbl v L w → wpOp Tryd.prog ops (Nrm R) i (fun a' w' => ∃ S', (i ∈ late ∨ Ext (Hbl v L0) S') ∧ S' w' ∧ wpF Tryd.prog .any ops late R (Hbl v L0) fuel (listed.setIfInBounds i true) a' S') (fr n sl) w := fun w hS =>
  wpOp_call hi hl (hw ..) hf ha (hc w hS) fun e w' he => ⟨u, he.1, _, .inr (Ext.of_sub hs), Hbl.stays v L w w' hS he.2, h⟩
end
end Go.Proofs.YtifnnckbcjafgaaDoor

/-! ## R3X -/
namespace Go.Proofs.YtifnnckbcjafgaaDoor
set_option linter.unusedSimpArgs false
set_option linter.unusedVariables false
open Go.RowKit
/-- A slice holds a number, in n words. -/
structure NumAt (w : World) (A : Option Addr) (n : Nat) (a : Int) : Prop where
  rd : Reads w w.heap.size A n ((wl a n).map (Value.int .u32))
  lo : 0 ≤ a
  hi : a < 65536 ^ n
  sz : n ≤ 1000000000
theorem NumAt.keep {w w' : World} {A : Option Addr} {n : Nat} {a : Int} (h : NumAt w A n a) (hb : Below w.heap.size w w') : NumAt w' A n a := ⟨(h.rd.below hb).more hb.size, h.lo, h.hi, h.sz⟩
theorem NumAt.of {v w : World} {L : List (Nat × TypeId × Array Value)} {A : Option Addr} {n : Nat} {a : Int} (h : NumAt v A n a) (hw : Hbl v L w) : NumAt w A n a := h.keep hw.below
theorem NumAt.nil (w : World) : NumAt w none 0 0 := ⟨Reads.nil_, by omega, by simp, by omega⟩
theorem WB.num {w : World} {g cap m : Nat} {e : TypeId} {cs : Array Value} {val : Int} (h : WB cs cap m val) (hB : Blk w g e cs) (hr : 0 ≤ val ∧ val < 65536 ^ m) (hm : m ≤ 1000000000) : NumAt w (some ⟨g, 0, none⟩) m val := ⟨h.reads hB, hr.1, hr.2, hm⟩
section
variable {P : Program} {S : World → Prop} {l : List (Nat × Value)} {dst : Option Nat} {x y : Operand} {t ty : TypeId} {pos : String} {after : Array Edge} {gd : Option (Nat × Bool)}
theorem gives_slice_arr {e : TypeId} (g m sz : Nat) (hx : rho l x = .pointer (some ⟨g, 0, none⟩)) (ht : P.underlying t = some (.array m e)) (hs : (P.info? e).map (·.size) = some sz) :
    Gives P S (.slice (some ⟨g, 0, none⟩) m m) (execOp (rho l) ⟨dst, .slice t x none none none, ty, pos, after, gd⟩) := gives_value _ fun w => by
  obtain ⟨ie, he, hz⟩ := Option.map_eq_some_iff.1 hs
  by_cases h0 : m = 0 <;> simp [execOp, hx, Instr.sliceAt, Instr.slice, Instr.sureAddr, Instr.sliceBounds, Instr.sliceBound, run_underlying ht, sizeOf, typeInfo, he, hz, add_plain, h0]
end
attribute [local irreducible] wpL wpF fr Code.wp bodyPost
end Go.Proofs.YtifnnckbcjafgaaDoor

/-! ## R3Y -/
namespace Go.Proofs.YtifnnckbcjafgaaDoor
set_option linter.unusedSimpArgs false
set_option linter.unusedVariables false
open Go.RowKit
section
variable {ops : Array Oper} {late : List Nat} {R : Act → World → Prop} {v : World} {L L0 : List (Nat × TypeId × Array Value)} {n : Nat} {sl : List (Nat × Value)}
end
section
variable {P : Program} {fn : Func} {E : Ending → World → Prop} {n : Nat} {sl : List (Nat × Value)} {w : World}
end
attribute [local irreducible] wpL wpF fr Code.wp bodyPost
end Go.Proofs.YtifnnckbcjafgaaDoor
