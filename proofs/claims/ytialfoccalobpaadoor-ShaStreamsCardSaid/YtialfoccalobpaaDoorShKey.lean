/-
  Contracts of masked and keyBlock.
-/
import Derived.Test.YtialfoccalobpaaDoorShHead
import Derived.Test.YtialfoccalobpaaDoorA0
namespace Go.Proofs.YtialfoccalobpaaDoor
open Go.RowKit
section
variable {P : Program}
theorem wpList_copyTo {ops : Array Oper} {rest : List Oper} {dst : Option Tmp} {d s : Operand} {dT sT ty : TypeId} {pos : String} {after : Array Edge} {a : Act} {w : World} {Q : Exit → Act → World → Prop}
    (elem : TypeId) (hu : P.underlying dT = some (.slice elem)) (hsz : (P.info? elem).map (·.size) = some 1)
    (dp sp : Option Addr) (dLen dCap sLen sCap : Nat) (g off : Nat) (cur : List Value) (t : TypeId) (hg : Blk w g t cur.toArray) (cs : List Value) (q : Nat) (hq : cs.length = q) (hn : q = Nat.min sLen dLen)
    (hpos : 0 < cs.length → dp = some ⟨g, off, none⟩ ∧ ∃ ad, sp = some ad ∧ ∀ j v, cs[j]? = some v → w.cell? (ad.add j) = some v)
    (hfit : off + cs.length ≤ cur.length) (h1 : ∀ v ∈ cs, v.oneCell' = true) (hd : a.eval d = .slice dp dLen dCap) (hs : a.eval s = .slice sp sLen sCap)
    (h : ∀ w', Hid (Blk w' g t (splice cur off cs).toArray) → Hid (w.grownBy w' (some g)) → wpList P ops Q rest (a.put dst (.int .i64 (q : Int))) w') :
    wpList P ops Q (⟨dst, .call { callee := .builtin .copy, args := #[d, s], argTypes := #[dT, sT] }, ty, pos, after, none⟩ :: rest) a w :=
  wpList_plain rfl fun _ hK => by
    subst hq
    by_cases h0 : cs.length = 0
    · obtain rfl : cs = [] := List.eq_nil_of_length_eq_zero h0
      have hrun := run_copy_none (P := P) w dT sT ty elem dp sp dLen dCap sLen sCap hu hsz (by simpa using hn.symm)
      unfold Oper.wp
      simp [execOp, resolve, invoke, builtin, hd, hs, hrun, Result.andThen]
      exact hK _ _ (h w (show Blk w g t _ by simpa [splice] using hg) (only_refl _ _))
    · obtain ⟨rfl, ad, rfl, hsrc⟩ := hpos (by omega)
      have hrun := run_copy_row (P := P) w dT sT ty elem g off dLen dCap ad sLen sCap cur.toArray t cs hu hsz hg hn hsrc (by simpa using hfit) h1
      unfold Oper.wp
      simp [execOp, resolve, invoke, builtin, hd, hs, hrun, Result.andThen]
      exact hK _ _ (h _ (show _ = _ by simpa [splice] using setRow_heap w g _ _ t _ hg) (setRow_only _))
end
def maskL (l : List Int) (m : Int) : List Int := l.map fun b => bits .xor .u8 b m
theorem maskL_len (l : List Int) (m : Int) : (maskL l m).length = l.length := by simp [maskL]
theorem mask_step (l : List Int) (m : Int) (k : Nat) (h : k < l.length) :
    (agg8 (maskL (l.take k) m ++ l.drop k)).setIfInBounds k (.int .u8 (bits .xor .u8 (gt l k) m)) = agg8 (maskL (l.take (k + 1)) m ++ l.drop (k + 1)) := by
  have e1 : l.take (k + 1) = l.take k ++ [gt l k] := take_snoc l k h
  have e2 : l.drop k = gt l k :: l.drop (k + 1) := by rw [gt_eq h]; exact List.drop_eq_getElem_cons h
  have hk : (maskL (l.take k) m).length = k := by rw [maskL_len, List.length_take]; omega
  rw [e1, e2]
  simp only [agg8, List.setIfInBounds_toArray]
  congr 1
  rw [List.map_append, List.set_append_right _ _ (by rw [List.length_map, hk]; omega), List.length_map, hk]
  simp [maskL]
theorem mask_get (l : List Int) (m : Int) (k : Nat) (h : k < l.length) : (agg8 (maskL (l.take k) m ++ l.drop k))[k]? = some (Value.int .u8 (gt l k)) := by
  have hk : (maskL (l.take k) m).length = k := by rw [maskL_len, List.length_take]; omega
  simp only [agg8, List.getElem?_toArray]
  rw [List.map_append, List.getElem?_append_right (by rw [List.length_map, hk]; omega), List.length_map, hk, Nat.sub_self]
  simp [gt_eq h, h]
theorem slice48_all (g o : Nat) (w : World) : (Instr.sliceAt 104 (.pointer (some ⟨g, o, none⟩)) none none none).run Tryd.prog w = .ok (.slice (some ⟨g, o, none⟩) 64 64) w := by
  have h := run_sliceAt_array_all (P := Tryd.prog) w 104 ⟨g, o, none⟩ und48
  rw [h, el48, size5, arr48]
  simp [slicedAt, Result.andThen, add_plain]
def padTo (l : List Int) : List Int := l ++ List.replicate (64 - l.length) 0
theorem padTo_len (l : List Int) (h : l.length ≤ 64) : (padTo l).length = 64 := by simp [padTo]; omega
def keyB (key : List Int) : List Int := padTo (if key.length ≤ 64 then key else digest key)
theorem keyB_len (key : List Int) : (keyB key).length = 64 := by
  unfold keyB
  split
  · exact padTo_len _ (by assumption)
  · exact padTo_len _ (by rw [digest_len]; omega)
theorem splice_pad (l : List Int) : (splice ((List.replicate 64 (0 : Int)).map (Value.int .u8)) 0 (l.map (Value.int .u8))).toArray = agg8 (padTo l) := by
  have e : ∀ N : Nat, splice (List.replicate N (Value.int .u8 0)) 0 (l.map (Value.int .u8)) = l.map (Value.int .u8) ++ List.replicate (N - l.length) (Value.int .u8 0) := by
    intro N; simp [splice]
  rw [List.map_replicate, e 64, agg8, padTo, List.map_append, List.map_replicate]
theorem Src.addr {w : World} {g n : Nat} {A : Option Addr} {l : List Int} (h : Src w g A n (l.map (Value.int .u8))) (q : Nat) (hq : q ≤ n) :
    0 < ((l.map (Value.int .u8)).take q).length → ∃ ad, A = some ad ∧ ∀ j v, ((l.map (Value.int .u8)).take q)[j]? = some v → w.cell? (ad.add j) = some v := by
  intro h0
  have hl := h.1
  have hn : 0 < n := by rw [List.length_take] at h0; omega
  obtain ⟨b, o, rfl, _, _, hc⟩ := h.2 hn
  refine ⟨_, rfl, fun j v hv => ?_⟩
  rw [add_plain]
  rw [List.getElem?_take] at hv
  split at hv
  · exact hc j v hv
  · cases hv
theorem one8 (l : List Int) (q : Nat) : ∀ v ∈ (l.map (Value.int .u8)).take q, v.oneCell' = true := by
  intro v hv
  have := List.mem_of_mem_take hv
  simp only [List.mem_map] at this
  obtain ⟨_, _, rfl⟩ := this
  rfl
def Z48 : Array Value := agg8 (List.replicate 64 0)
theorem zero48 (w : World) : (zeroValue 104).run Tryd.prog w = .ok (.agg Z48) w := by kernel_rfl
theorem slice27_all (g o : Nat) (w : World) : (Instr.sliceAt 50 (.pointer (some ⟨g, o, none⟩)) none none none).run Tryd.prog w = .ok (.slice (some ⟨g, o, none⟩) 32 32) w := by
  have h := run_sliceAt_array_all (P := Tryd.prog) w 50 ⟨g, o, none⟩ und27
  rw [h, el27, size5, arr27]
  simp [slicedAt, Result.andThen, add_plain]
theorem of_one (w : World) (A : Option Addr) (n c : Nat) (key : List Int) (hr : Reads w w.heap.size A n (key.map (Value.int .u8))) (hnc : n ≤ c) (hgl : Glob w) (h2 : 3 ≤ w.heap.size) (hn : n ≤ 1125899906842000) :
    Calls Tryd.prog 59 #[.slice (some ⟨w.heap.size, 0, none⟩) 1 1] (w.alloc (.cells #[.slice A n c] 22)) fun e w' => e = .returned (.agg (agg8 (digest key))) ∧ Below w.heap.size w w' := by
  have hb : Below w.heap.size w (w.alloc (.cells #[.slice A n c] 22)) := (Below.refl _ _).alloc (Nat.le_refl _) _
  have hP : Pieces (w.alloc (.cells #[.slice A n c] 22)) (w.alloc (.cells #[.slice A n c] 22)).heap.size (some ⟨w.heap.size, 0, none⟩) 1 [key] := by
    refine ⟨rfl, fun _ => ⟨_, _, rfl, by simp, fun i hi => ?_⟩⟩
    obtain rfl : i = 0 := by simpa using hi
    exact ⟨_, (Blk.new w 22 _).at_ (by simp), A, n, c, rfl, hnc, (hr.below hb).more (by simp)⟩
  have hl : key.length = n := by simpa using hr.1
  have hO := of_any _ _ 1 1 [key] hP (hgl.below hb h2) (by simp; omega) (by omega) (by simp; omega)
  simp only [List.flatten_cons, List.flatten_nil, List.append_nil] at hO
  exact hO.mono fun _ _ ⟨he, hb'⟩ => ⟨he, hb.trans (hb'.mono (by simp))⟩
theorem srcE {w : World} {g x : Nat} {t : TypeId} {l : List Int} (h : Blk w g t (agg8 l)) (hne : g ≠ x) (hl : l.length = 32) : Src w x (some ⟨g, 0, none⟩) 32 (l.map (Value.int .u8)) := by
  have hs := h.src (g := x) hne 0 32 (by rw [agg8_size, hl]; omega)
  have e : ((agg8 l).toList.drop 0).take 32 = l.map (Value.int .u8) := by
    rw [List.drop_zero, agg8, List.take_of_length_le]
    rw [List.length_map, hl]; omega
  rwa [e] at hs
end Go.Proofs.YtialfoccalobpaaDoor
