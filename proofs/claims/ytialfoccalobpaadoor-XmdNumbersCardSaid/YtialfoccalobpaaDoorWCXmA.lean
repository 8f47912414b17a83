/-
  Layer 11: the numbers behind xmd's functions, and the laws of operations that its walks want.
-/
import Derived.Test.YtialfoccalobpaaDoorWCShJoinR
import Derived.Lib.AppendZeros
namespace Go.Proofs.YtialfoccalobpaaDoor
set_option linter.unusedSimpArgs false
set_option linter.unusedVariables false
open Go.RowKit
theorem wrap64 (n : Int) : IntKind.u64.wrap n = n % 18446744073709551616 := by simp [IntKind.wrap, IntKind.bits, IntKind.signed]
theorem shl64 (a : Int) (s : Nat) (p : Int) (hs : Nat.ble s 64 = true) (hp : (2 : Int) ^ s = p) : IntKind.u64.wrap (a * 2 ^ (min ((s : Int)).toNat IntKind.u64.bits)) = a * p % 18446744073709551616 := by
  have e : min ((s : Int)).toNat IntKind.u64.bits = s := by have := Nat.le_of_ble_eq_true hs; show min _ 64 = s; omega
  rw [e, hp, wrap64]
/-- The words of bytes: the state behind the first i of them. -/
def dw (l : List Int) : Nat → List Int
  | 0 => [0, 0, 0, 0]
  | i + 1 => (dw l i).set (i / 8) (bits .or .u64 (gt (dw l i) (i / 8) * 256 % 18446744073709551616) (gt l i % 18446744073709551616))
theorem dw_len (l : List Int) (i : Nat) : (dw l i).length = 4 := by
  induction i with
  | zero => rfl
  | succ i ih => simp [dw, ih]
def ow (a b : List Int) : Nat → List Int
  | 0 => a
  | i + 1 => (ow a b i).set i (bits .xor .u64 (gt (ow a b i) i) (gt b i))
theorem ow_len (a b : List Int) (i : Nat) : (ow a b i).length = a.length := by
  induction i with
  | zero => rfl
  | succ i ih => simp [ow, ih]
def wb (w : Int) : Nat → List Int
  | 0 => []
  | i + 1 => wb w i ++ [w / 2 ^ (8 * (7 - i)) % 256]
theorem wb_len (w : Int) (i : Nat) : (wb w i).length = i := by
  induction i with
  | zero => rfl
  | succ i ih => simp [wb, ih]
def bw4 (d : List Int) : Nat → List Int
  | 0 => []
  | j + 1 => bw4 d j ++ wb (gt d j) 8
theorem bw4_len (d : List Int) (j : Nat) : (bw4 d j).length = 8 * j := by
  induction j with
  | zero => rfl
  | succ j ih => simp [bw4, ih, wb_len]; omega
def agg64 (l : List Int) : Array Value := (l.map (Value.int .u64)).toArray
theorem agg64_size (l : List Int) : (agg64 l).size = l.length := by simp [agg64]
theorem agg64_one (l : List Int) : (agg64 l).all (·.oneCell') = true := by
  rw [Array.all_eq_true_iff_forall_mem]
  intro v hv
  simp only [agg64, List.mem_toArray, List.mem_map] at hv
  obtain ⟨_, _, rfl⟩ := hv
  rfl
theorem agg64_get (l : List Int) {j : Nat} (h : j < l.length) : (agg64 l)[j]? = some (Value.int .u64 (gt l j)) := by simp [agg64, gt, h]
theorem agg8_get (l : List Int) {j : Nat} (h : j < l.length) : (agg8 l)[j]? = some (Value.int .u8 (gt l j)) := by simp [agg8, gt, h]
theorem z_q4 : (Tryd.prog.info? 148).map (·.zero) = some (some (.agg (agg64 [0, 0, 0, 0]))) := by kernel_rfl
theorem hi_q4 (l : List Int) (h : l.length = 4) : (Tryd.prog.info? 148).map (·.size) = some (agg64 l).size := by rw [agg64_size, h]; kernel_rfl
theorem und_q4 : Tryd.prog.underlying 148 = some (.array 4 32) := by kernel_rfl
/-- The tag and its length. -/
def osz : List Int := [72, 50, 67, 45, 79, 86, 69, 82, 83, 73, 90, 69, 45, 68, 83, 84, 45]
def tagT (tag : List Int) : List Int := if 255 < tag.length then digest (osz ++ tag) else tag
def tagE (tag : List Int) : List Int := tagT tag ++ [((tagT tag).length : Int) % 256]
theorem tagT_short {tag : List Int} (h : ¬ 255 < tag.length) : tagT tag = tag := if_neg h
theorem tagT_long {tag : List Int} (h : 255 < tag.length) : tagT tag = digest (osz ++ tag) := if_pos h
theorem tagT_len (tag : List Int) : (tagT tag).length ≤ 255 := by
  unfold tagT
  split
  · rw [digest_len]; omega
  · omega
theorem tagE_len (tag : List Int) : (tagE tag).length = (tagT tag).length + 1 := by simp [tagE]
def headB (msg tag : List Int) (n : Int) : List Int := digest (List.replicate 64 0 ++ (msg ++ ([n / 256 % 256, n % 256, 0] ++ tagE tag)))
def headW (msg tag : List Int) (n : Int) : List Int := dw (headB msg tag n) 32
/-- The digests, one behind the other, as words; and their bytes. -/
def aheadW (W : List Int) (T : List Int) : Nat → List Int
  | 0 => [0, 0, 0, 0]
  | i + 1 => dw (digest (bw4 (ow W (aheadW W T i) 4) 4 ++ ([((i : Nat) + 1 : Int) % 256] ++ T))) 32
theorem aheadW_len (W T : List Int) (i : Nat) : (aheadW W T i).length = 4 := by
  cases i with
  | zero => rfl
  | succ i => exact dw_len _ _
def outW (W T : List Int) : Nat → List Int
  | 0 => []
  | i + 1 => outW W T i ++ bw4 (aheadW W T (i + 1)) 4
theorem outW_len (W T : List Int) (i : Nat) : (outW W T i).length = 32 * i := by
  induction i with
  | zero => rfl
  | succ i ih => simp [outW, ih, bw4_len]; omega
def expandL (msg tag : List Int) (n : Nat) : List Int := (outW (headW msg tag n) (tagE tag) ((n + 31) / 32)).take n
section
variable {P : Program} {S : World → Prop} {l : List (Nat × Value)} {dst : Option Nat} {x y : Operand} {t ty : TypeId} {pos : String} {after : Array Edge} {gd : Option (Nat × Bool)}
/-- An element of an array that is no variable. -/
theorem gives_aindex {e : TypeId} {k q : IntKind} {m : Nat} (cs : Array Value) (u : Value) (i : Int) (j : Nat) (hx : rho l x = .agg cs) (hy : rho l y = .int k i) (ht : P.underlying t = some (.array m e)) (he : P.underlying e = some (.int q)) (hs : (P.info? e).map (·.size) = some 1) (h0 : i = (j : Int)) (hj : j < m) (hu : cs[j]? = some u) :
    Gives P S u (execOp (rho l) ⟨dst, .index t x y, ty, pos, after, gd⟩) := gives_value _ fun w => by
  subst h0
  obtain ⟨ie, hie, hz⟩ := Option.map_eq_some_iff.1 hs
  have hp := run_part_int (P := P) w e q he cs j u hu
  simp [execOp, hx, hy, Instr.index, run_underlying ht, asIntOf, sizeOf, typeInfo, hie, hz, hj, hp]
/-- The address of an element of an array. -/
theorem gives_aaddr {e : TypeId} {k : IntKind} {m : Nat} (g : Nat) (i : Int) (j : Nat) (hx : rho l x = .pointer (some ⟨g, 0, none⟩)) (hy : rho l y = .int k i) (ht : P.underlying t = some (.array m e)) (hs : (P.info? e).map (·.size) = some 1) (h0 : i = (j : Int)) (hj : j < m) :
    Gives P S (.pointer (some ⟨g, 0 + j, none⟩)) (execOp (rho l) ⟨dst, .indexAddr t x y, ty, pos, after, gd⟩) := gives_value _ fun w => by
  subst h0
  obtain ⟨ie, hie, hz⟩ := Option.map_eq_some_iff.1 hs
  simp [execOp, hx, hy, Instr.indexAt, Instr.sureAddr, run_underlying ht, asIntOf, sizeOf, typeInfo, hie, hz, hj, add_plain]
end
theorem gives_slice3 {P : Program} {S : World → Prop} {l : List (Nat × Value)} {dst : Option Nat} {x y y2 : Operand} {t ty : TypeId} {pos : String} {after : Array Edge} {gd : Option (Nat × Bool)} {e : TypeId} {k k2 : IntKind} (g m c j : Nat) (hx : rho l x = .slice (some ⟨g, 0, none⟩) m c) (hy : rho l y = .int k (j : Int)) (hy2 : rho l y2 = .int k2 (j : Int)) (ht : P.underlying t = some (.slice e)) (hs : (P.info? e).map (·.size) = some 1) (h1 : j ≤ c) :
    Gives P S (.slice (some ⟨g, 0, none⟩) j j) (execOp (rho l) ⟨dst, .slice t x none (some y) (some y2), ty, pos, after, gd⟩) := gives_value _ fun w => by
  obtain ⟨ie, he, hz⟩ := Option.map_eq_some_iff.1 hs
  simp [execOp, hx, hy, hy2, Instr.sliceAt, Instr.slice, Instr.sliceBounds, Instr.sliceBound, run_underlying ht, asIntOf, sizeOf, typeInfo, he, hz, h1, add_plain]
/-- A function returns numbers in new memory, and no error. -/
def RetsT (f : FuncId) (args : Array Value) (w : World) (n : Nat) (l : List Int) : Prop :=
  Calls Tryd.prog f args w fun r w' => ∃ g cap cs, r = .returned (.tuple #[.slice (some ⟨g, 0, none⟩) n n, .int .i64 0]) ∧ Nms .u8 cs cap n l ∧ w.heap.size ≤ g ∧ Blk w' g 5 cs ∧ Below w.heap.size w w'
theorem nms_agg64 {cs : Array Value} {l : List Int} {n : Nat} (h : Nms .u64 cs n n l) : cs = agg64 l := by
  have h1 := h.words
  have h2 : cs.toList.take n = cs.toList := List.take_of_length_le (by rw [Array.length_toList, h.size]; exact Nat.le_refl _)
  rw [h2] at h1
  unfold agg64
  rw [← h1]
theorem nms64 {l : List Int} {n : Nat} (h : l.length = n) (hn : n ≤ 1000) : Nms .u64 (agg64 l) n n l := Nms.all rfl h (by omega)
theorem zeroCells_one (z : Value) (n : Nat) : Builtin.zeroCells #[z] n = Array.replicate n z := by
  apply Array.ext
  · simp [Builtin.zeroCells]
  · intro i h1 h2
    simp [Builtin.zeroCells, Nat.mod_one]
section
variable {ops : Array Oper} {late : List Nat} {R : Act → World → Prop} {v : World} {L L0 : List (Nat × TypeId × Array Value)} {n : Nat} {sl : List (Nat × Value)}
theorem L_freshT {i d : Nat} {l : List Nat} {f : FuncId} {args : Array Operand} {ats : Array TypeId} {ty : TypeId} {pos : String} {after : Array Edge} {gd : Option (Nat × Bool)} {vl : List Value} (m : Nat) (xs : List Int)
    (hi : ops[i]? = some ⟨some d, .call { callee := .value (.func f), args := args, argTypes := ats }, ty, pos, after, gd⟩) (hl : inFr n sl = true) (hw : Want ops n sl gd) (hf : (Tryd.prog.funcs[f]?).map (fun fn => (fn.name == "runtime.NumGoroutine", fn.body.isNone)) = some (false, false))
    (ha : args.toList.map (rho sl) = vl) (hc : ∀ w, Hbl v L w → RetsT f vl.toArray w m xs)
    (h : ∀ g cap cs, Nms .u8 cs cap m xs → wpL Tryd.prog ops R l (fr n ((d, .tuple #[.slice (some ⟨g, 0, none⟩) m m, .int .i64 0]) :: sl)) (Hbl v ((g, 5, cs) :: L))) : wpL Tryd.prog ops R (i :: l) (fr n sl) (Hbl v L) := fun w hS =>
  wpOp_call hi hl (hw ..) hf ha (hc w hS) fun r w' ⟨g, cap, cs, he, hq, hg, hb, hbel⟩ => ⟨_, he, Hbl v ((g, 5, cs) :: L), Hbl.stays v _, hS.fresh hbel hg hb, h g cap cs hq⟩
/-- append of so many zeros to nothing. -/
theorem L_zeros {i d : Nat} {il : List Nat} {x y : Operand} {t tn ty e : TypeId} {pos : String} {after : Array Edge} {kn : IntKind} (N : Nat) (ie : TypeInfo)
    (hi : ops[i]? = some ⟨some d, .call { callee := .builtin .append, args := #[x, y], argTypes := #[t, tn] }, ty, pos, after, none⟩) (hl : inFr n sl = true)
    (ht : Tryd.prog.underlying t = some (.slice e)) (htn : Tryd.prog.underlying tn = some (.int kn)) (hie : Tryd.prog.info? e = some ie) (hz : ie.zero = some (.int .u8 0)) (hs : ie.size = 1) (hb : ie.bytes = 1)
    (hx : rho sl x = .slice none 0 0) (hy : rho sl y = .int .i64 (N : Int)) (h0 : 0 < N) (hN : N ≤ 1000000000)
    (h : ∀ g cap cs, Nms .u8 cs cap N (List.replicate N 0) → wpL Tryd.prog ops R il (fr n ((d, .slice (some ⟨g, 0, none⟩) N cap) :: sl)) (Hbl v ((g, e, cs) :: L))) :
    wpL Tryd.prog ops R (i :: il) (fr n sl) (Hbl v L) := fun w hS => by
  have hrun := Lib.run_append_nil_zeros (P := Tryd.prog) w t tn ty e ie (.int .u8 0) .i64 kn ht htn hie hz N h0 (by omega) (by omega) (by rw [hb]; omega)
  have hge := grownCap_ge w N 0 e
  have hle := grownCap_le_maxLen w N 0 e (by simp only [maxLen]; omega)
  have hc : (Value.int IntKind.u8 0).cells = #[Value.int .u8 0] := rfl
  rw [hc, zeroCells_one, zeroCells_one] at hrun
  refine wpOp_run (w' := w.drew.alloc (.cells (Array.replicate N (.int .u8 0) ++ Array.replicate (grownCap w N 0 e - N) (.int .u8 0)) e)) hi rfl (.inl (by rw [fr_eval n sl hl]; simp only [execOp, resolve, invoke, builtin, Sem.run_bind, Sem.run_pure, Result.andThen_ok, List.map_toArray, List.map_cons, List.map_nil, hx, hy, hrun]; rfl)) ⟨_, Hbl.stays v _, hS.drew.alloc e _, h w.drew.heap.size _ _ ⟨?_, hge, by simpa only [maxLen] using hle, by simp, ?_⟩⟩
  · simp; omega
  · simp
/-- 'make([]byte, m, c)'. -/
theorem L_makeC {i d : Nat} {il : List Nat} {x y : Operand} {t ty e : TypeId} {pos : String} {after : Array Edge} {k1 k2 : IntKind} (m c : Nat) (ie : TypeInfo)
    (hi : ops[i]? = some ⟨some d, .makeSlice t x y, ty, pos, after, none⟩) (hl : inFr n sl = true) (ht : Tryd.prog.underlying t = some (.slice e)) (hie : Tryd.prog.info? e = some ie) (hz : ie.zero = some (.int .u8 0)) (hs : ie.size = 1) (hb : ie.bytes = 1)
    (hx : rho sl x = .int k1 (m : Int)) (hy : rho sl y = .int k2 (c : Int)) (hmc : m ≤ c) (hc : c ≤ 1000000000)
    (h : ∀ g cs, Nms .u8 cs c m (List.replicate m 0) → wpL Tryd.prog ops R il (fr n ((d, .slice (some ⟨g, 0, none⟩) m c) :: sl)) (Hbl v ((g, e, cs) :: L))) : wpL Tryd.prog ops R (i :: il) (fr n sl) (Hbl v L) := fun w hS => by
  have hrun := run_make (P := Tryd.prog) w t e ie (.int .u8 0) ht hie hz k1 k2 (m : Int) (c : Int) (by omega) (by omega) (by rw [hb]; omega) (by omega)
  have hcz : (Value.int IntKind.u8 0).cells = #[Value.int .u8 0] := rfl
  simp only [Int.toNat_natCast, hs, Nat.mul_one, hcz] at hrun
  rw [madeCells_one] at hrun
  refine wpOp_run (w' := w.alloc (.cells (Array.replicate c (.int .u8 0)) e)) hi rfl (.inl (by rw [fr_eval n sl hl]; simp only [execOp, hx, hy, Sem.run_bind, hrun, Result.andThen_ok, Sem.run_pure])) ⟨_, Hbl.stays v _, hS.alloc e _, h _ _ ⟨by simp, hmc, by omega, by simp, ?_⟩⟩
  simp
  omega
theorem conv_run {w : World} {t e : TypeId} {g n c : Nat} {C : Array Value} (hB : Blk w g e C) (ht : Tryd.prog.underlying t = some (.slice e)) (he : Tryd.prog.underlying e = some (.int .u8)) :
    (convert t t (.slice (some ⟨g, 0, none⟩) n c)).run Tryd.prog w = .ok (.slice (some ⟨g, 0, none⟩) n c) (w.freeze ⟨g, C.size, none⟩ 1) := by
  have hsh : w.shape? g = some (e, C.size) := by
    unfold World.shape?
    rw [show w.heap[g]? = _ from hB]
  simp [convert, run_underlying ht, run_underlying he, markStringish, hsh]
theorem freeze_grown (w : World) (g k : Nat) : w.grownBy (w.freeze ⟨g, k, none⟩ 1) (some g) := by
  unfold World.freeze
  rw [if_neg (by decide)]
  refine ⟨rfl, rfl, rfl, by simp, fun i hi hne => ?_⟩
  have h : g ≠ i := fun e => hne (by rw [e])
  simp [Array.getElem?_modify, h]
theorem freeze_blk {w : World} {g k : Nat} {e : TypeId} {C : Array Value} (hB : Blk w g e C) : (w.freeze ⟨g, k, none⟩ 1).heap[g]? = some (.cells C e (k, k + 1)) := by
  unfold World.freeze
  rw [if_neg (by decide)]
  have h : w.heap[g]? = some (.cells C e (0, 0)) := hB
  simp [Array.getElem?_modify, h]
/-- '[]byte("..")': the literal's block gets the run-time's mark; from there on it is old. -/
theorem L_lit {i d : Nat} {il : List Nat} {x : Operand} {t ty e : TypeId} {pos : String} {after : Array Edge} (k g m c : Nat) (bs : List Int) (cs : Array Value)
    (hi : ops[i]? = some ⟨some d, .convert t t x, ty, pos, after, none⟩) (hl : inFr n sl = true) (hx : rho sl x = .slice (some ⟨g, 0, none⟩) m c) (hk : L[k]? = some (g, e, cs)) (hn : Nms .u8 cs c m bs)
    (ht : Tryd.prog.underlying t = some (.slice e)) (he : Tryd.prog.underlying e = some (.int .u8))
    (h : ∀ w2, Below v.heap.size v w2 → v.heap.size ≤ w2.heap.size → Reads w2 w2.heap.size (some ⟨g, 0, none⟩) m (bs.map (Value.int .u8)) → wpL Tryd.prog ops R il (fr n ((d, .slice (some ⟨g, 0, none⟩) m c) :: sl)) (Hbl w2 [])) :
    wpL Tryd.prog ops R (i :: il) (fr n sl) (Hbl v L) := fun w hS => by
  have hB := hS.blk k hk
  have hg : v.heap.size ≤ g := (hS.2.1 _ (List.mem_of_getElem? hk)).2
  have hrun := conv_run (n := m) (c := c) hB ht he
  have hgr := freeze_grown w g cs.size
  have hb := freeze_blk (k := cs.size) hB
  have hbel : Below v.heap.size v (w.freeze ⟨g, cs.size, none⟩ 1) := hS.1.grown hgr hS.1.size (fun i hi => by cases hi; exact hg)
  refine wpOp_run (w' := w.freeze ⟨g, cs.size, none⟩ 1) hi rfl (.inl (by rw [fr_eval n sl hl]; simp only [execOp, hx, Sem.run_bind, hrun, Result.andThen_ok, Sem.run_pure])) ⟨_, Hbl.stays (w.freeze ⟨g, cs.size, none⟩ 1) [], Hbl.nil _, h _ hbel hbel.size ⟨by rw [List.length_map, hn.len], fun hm => ⟨g, 0, rfl, Nat.lt_of_lt_of_le hB.lt hgr.size, fun j u hu => ?_⟩⟩⟩
  have hj : j < m := by
    rcases Nat.lt_or_ge j m with h1 | h1
    · exact h1
    · rw [List.getElem?_eq_none (by rw [List.length_map, hn.len]; exact h1)] at hu; cases hu
  have h1 := hn.get hj
  have hjl : j < bs.length := by rw [hn.len]; exact hj
  rw [List.getElem?_map, List.getElem?_eq_getElem hjl] at hu
  rw [cell_of_row _ _ _ _ _ _ hb, h1, gt_eq hjl]
  simpa using hu
end
end Go.Proofs.YtialfoccalobpaaDoor
