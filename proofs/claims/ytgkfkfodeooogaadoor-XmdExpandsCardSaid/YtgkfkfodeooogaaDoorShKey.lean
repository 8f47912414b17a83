/-
  Contracts of masked and keyBlock.
-/
import Derived.Test.YtgkfkfodeooogaaDoorShHead
import Derived.Test.YtgkfkfodeooogaaDoorA0
namespace Go.Proofs.YtgkfkfodeooogaaDoor
open Go.RowKit
section
variable {P : Program}
theorem wpList_copyTo {ops : Array Oper} {rest : List Oper} {dst : Option Tmp} {d s : Operand} {dT sT ty : TypeId} {pos : String} {after : Array Edge} {a : Act} {w : World} {Q : Exit → Act → World → Prop}
    (elem : TypeId) (hu : P.underlying dT = some (.slice elem)) (hsz : (P.info? elem).map (·.size) = some 1)
    (dp sp : Option Addr) (dLen dCap sLen sCap : Nat) (g off : Nat) (cur : List Value) (t : TypeId) (hg : Blk w g t cur.toArray) (cs : List Value) (q : Nat) (hq : cs.length = q) (hn : q = Nat.min sLen dLen)
    (hpos : 0 < cs.length → dp = some ⟨g, off, none⟩ ∧ ∃ ad, sp = some ad ∧ ∀ j v, cs[j]? = some v → w.cell? (ad.add j) = some v)
    (hfit : off + cs.length ≤ cur.length) (h1 : ∀ v ∈ cs, v.oneCell' = true) (hd : a.eval d = .slice dp dLen dCap) (hs : a.eval s = .slice sp sLen sCap)
    (h : ∀ w', Hid (Blk w' g t (splice cur off cs).toArray) → Hid (w.grownBy w' (some g)) → wpList P ops Q rest (a.put dst (.int .i64 (q : Int))) w') :
    wpList P ops Q (⟨dst, .call { callee := .builtin .copy, args := #[d, s], argTypes := #[dT, sT] }, ty, pos, after, none⟩ :: rest) a w :=
  wpList_plain rfl fun _ hK => by
    subst hq
    by_cases h0 : cs.length = 0
    · obtain rfl : cs = [] := List.eq_nil_of_length_eq_zero h0
      have hrun := run_copy_none (P := P) w dT sT ty elem dp sp dLen dCap sLen sCap hu hsz (by simpa using hn.symm)
      unfold Oper.wp
      simp [execOp, resolve, invoke, builtin, hd, hs, hrun, Result.andThen]
      exact hK _ _ (h w (show Blk w g t _ by simpa [splice] using hg) (only_refl _ _))
    · obtain ⟨rfl, ad, rfl, hsrc⟩ := hpos (by omega)
      have hrun := run_copy_row (P := P) w dT sT ty elem g off dLen dCap ad sLen sCap cur.toArray t cs hu hsz hg hn hsrc (by simpa using hfit) h1
      unfold Oper.wp
      simp [execOp, resolve, invoke, builtin, hd, hs, hrun, Result.andThen]
      exact hK _ _ (h _ (show _ = _ by simpa [splice] using setRow_heap w g _ _ t _ hg) (setRow_only _))
end
def maskL (l : List Int) (m : Int) : List Int := l.map fun b => bits .xor .u8 b m
theorem maskL_len (l : List Int) (m : Int) : (maskL l m).length = l.length := by simp [maskL]
theorem mask_step (l : List Int) (m : Int) (k : Nat) (h : k < l.length) :
    (agg8 (maskL (l.take k) m ++ l.drop k)).setIfInBounds k (.int .u8 (bits .xor .u8 (gt l k) m)) = agg8 (maskL (l.take (k + 1)) m ++ l.drop (k + 1)) := by
  have e1 : l.take (k + 1) = l.take k ++ [gt l k] := take_snoc l k h
  have e2 : l.drop k = gt l k :: l.drop (k + 1) := by rw [gt_eq h]; exact List.drop_eq_getElem_cons h
  have hk : (maskL (l.take k) m).length = k := by rw [maskL_len, List.length_take]; omega
  rw [e1, e2]
  simp only [agg8, List.setIfInBounds_toArray]
  congr 1
  rw [List.map_append, List.set_append_right _ _ (by rw [List.length_map, hk]; omega), List.length_map, hk]
  simp [maskL]
theorem mask_get (l : List Int) (m : Int) (k : Nat) (h : k < l.length) : (agg8 (maskL (l.take k) m ++ l.drop k))[k]? = some (Value.int .u8 (gt l k)) := by
  have hk : (maskL (l.take k) m).length = k := by rw [maskL_len, List.length_take]; omega
  simp only [agg8, List.getElem?_toArray]
  rw [List.map_append, List.getElem?_append_right (by rw [List.length_map, hk]; omega), List.length_map, hk, Nat.sub_self]
  simp [gt_eq h, h]
theorem slice48_all (g o : Nat) (w : World) : (Instr.sliceAt 69 (.pointer (some ⟨g, o, none⟩)) none none none).run Tryd.prog w = .ok (.slice (some ⟨g, o, none⟩) 64 64) w := by
  have h := run_sliceAt_array_all (P := Tryd.prog) w 69 ⟨g, o, none⟩ und48
  rw [h, el48, size5, arr48]
  simp [slicedAt, Result.andThen, add_plain]
set_option maxRecDepth 100000 in
set_option maxHeartbeats 400000 in
theorem masked_any (w : World) (blk : List Int) (m : Int) (hb : blk.length = 64) :
    Calls Tryd.prog 45 #[.agg (agg8 blk), .int .u8 m] w fun e w' => ∃ g, e = .returned (.slice (some ⟨g, 0, none⟩) 64 64) ∧ w.heap.size ≤ g ∧ Blk w' g 69 (agg8 (maskL blk m)) ∧ Below w.heap.size w w' := by
  obtain ⟨C, hC⟩ : ∃ C, C = agg8 blk := ⟨_, rfl⟩
  rw [← hC]
  have HC := Lib.hid hC
  have HL := Lib.hid hb
  clear hC hb
  go_enter Tryd.func45, Tryd.ntmps45
  go_wp2_with fail
  go_loopw [5, 6] (fun _ i wr => ∃ k : Nat, k ≤ 64 ∧ i = .int .i64 k ∧ Below w.heap.size w wr ∧ w.heap.size < wr.heap.size ∧ Blk wr w.heap.size 69 (agg8 (maskL (blk.take k) m ++ blk.drop k))) (fun _ i _ => 64 - (intOf i).toNat)
  case atStart => exact ⟨0, Nat.zero_le _, rfl, (Below.refl _ _).alloc (Nat.le_refl _) _, by simp, (Blk.new _ _ _).cast (by rw [HC.out]; simp [maskL])⟩
  case round =>
    obtain ⟨k, hk, rfl, hb, hsz, hB⟩ := hrel
    by_cases hlt : k < 64
    · have c0 := hB.at_ (mask_get blk m k (by rw [HL.out]; exact hlt))
      have hf := hB.frozen k
      have N1 := Lib.hid hb
      have N2 := Lib.hid hB
      have N3 := Lib.hid (mask_step blk m k (by rw [HL.out]; exact hlt))
      clear hb hB
      go_wp2_with fail
      refine ⟨⟨k + 1, by omega, by go_num, N1.out.setCell (Nat.le_refl _) _, by simpa [World.setCell] using hsz, (N2.out.set_ k _).cast N3.out⟩, by simp [intOf]; omega⟩
    · obtain rfl : k = 64 := by omega
      have hsl := slice48_all w.heap.size 0
      have N1 := Lib.hid hb
      have N2 := Lib.hid hB
      clear hb hB
      go_wp2_with fail
      go_ret
      exact ⟨_, rfl, Nat.le_refl _, N2.out.cast (by rw [List.take_of_length_le (by rw [HL.out]; omega), List.drop_eq_nil_of_le (by rw [HL.out]; omega), List.append_nil]), N1.out⟩

def padTo (l : List Int) : List Int := l ++ List.replicate (64 - l.length) 0
theorem padTo_len (l : List Int) (h : l.length ≤ 64) : (padTo l).length = 64 := by simp [padTo]; omega
def keyB (key : List Int) : List Int := padTo (if key.length ≤ 64 then key else digest key)
theorem keyB_len (key : List Int) : (keyB key).length = 64 := by
  unfold keyB
  split
  · exact padTo_len _ (by assumption)
  · exact padTo_len _ (by rw [digest_len]; omega)
theorem splice_pad (l : List Int) : (splice ((List.replicate 64 (0 : Int)).map (Value.int .u8)) 0 (l.map (Value.int .u8))).toArray = agg8 (padTo l) := by
  have e : ∀ N : Nat, splice (List.replicate N (Value.int .u8 0)) 0 (l.map (Value.int .u8)) = l.map (Value.int .u8) ++ List.replicate (N - l.length) (Value.int .u8 0) := by
    intro N; simp [splice]
  rw [List.map_replicate, e 64, agg8, padTo, List.map_append, List.map_replicate]
theorem Src.addr {w : World} {g n : Nat} {A : Option Addr} {l : List Int} (h : Src w g A n (l.map (Value.int .u8))) (q : Nat) (hq : q ≤ n) :
    0 < ((l.map (Value.int .u8)).take q).length → ∃ ad, A = some ad ∧ ∀ j v, ((l.map (Value.int .u8)).take q)[j]? = some v → w.cell? (ad.add j) = some v := by
  intro h0
  have hl := h.1
  have hn : 0 < n := by rw [List.length_take] at h0; omega
  obtain ⟨b, o, rfl, _, _, hc⟩ := h.2 hn
  refine ⟨_, rfl, fun j v hv => ?_⟩
  rw [add_plain]
  rw [List.getElem?_take] at hv
  split at hv
  · exact hc j v hv
  · cases hv
theorem one8 (l : List Int) (q : Nat) : ∀ v ∈ (l.map (Value.int .u8)).take q, v.oneCell' = true := by
  intro v hv
  have := List.mem_of_mem_take hv
  simp only [List.mem_map] at this
  obtain ⟨_, _, rfl⟩ := this
  rfl
def Z48 : Array Value := agg8 (List.replicate 64 0)
theorem zero48 (w : World) : (zeroValue 69).run Tryd.prog w = .ok (.agg Z48) w := by kernel_rfl
set_option maxRecDepth 100000 in
set_option maxHeartbeats 400000 in
theorem key_short (w : World) (A : Option Addr) (n c : Nat) (key : List Int) (hr : Reads w w.heap.size A n (key.map (Value.int .u8))) (hn : n ≤ 64) :
    Calls Tryd.prog 44 #[.slice A n c] w fun e w' => e = .returned (.agg (agg8 (keyB key))) ∧ Below w.heap.size w w' := by
  have hl : key.length = n := by simpa using hr.1
  have hkb : keyB key = padTo key := by unfold keyB; rw [if_pos (by omega)]
  obtain ⟨D, hD⟩ : ∃ D, D = agg8 (keyB key) := ⟨_, rfl⟩
  rw [← hD]
  have hDz : D.size = 64 := by rw [hD, agg8_size, keyB_len]
  have hDi : (Tryd.prog.info? 69).map (·.size) = some D.size := by rw [hDz]; kernel_rfl
  have hDf : 0 + D.size ≤ Z48.size := by rw [hDz, Z48, agg8_size]; simp
  have hD1 : D.all (·.oneCell') = true := by rw [hD]; exact agg8_one _
  have hDk : (splice ((List.replicate 64 (0 : Int)).map (Value.int .u8)) 0 (key.map (Value.int .u8))).toArray = D := by rw [hD, hkb]; exact splice_pad _
  have htest : decide ((64 : Int) < (n : Int)) = false := by simp; omega
  have hz48 : ∀ W : World, (zeroValue 69).run Tryd.prog W = .ok (.agg Z48) W := zero48
  have hsl := slice48_all (w.heap.size + 1) 0
  have HR := Lib.hid hr
  have HL := Lib.hid hl
  have D1 := Lib.hid hD
  have D2 := Lib.hid hDz
  have D3 := Lib.hid hDi
  have D4 := Lib.hid hDf
  have D5 := Lib.hid hD1
  have D6 := Lib.hid hDk
  clear hr hl hkb hD hDz hDi hDf hD1 hDk
  go_enter Tryd.func44, Tryd.ntmps44
  go_wp2_with (first
    | ((with_reducible refine wpList_copyTo (dst := some 14) 5 Tryd.underlying24 byte_size (some ⟨w.heap.size + 1, 0, none⟩) A 64 64 n c (w.heap.size + 1) 0 ((List.replicate 64 (0 : Int)).map (Value.int .u8)) 69 ?_ ((key.map (Value.int .u8)).take n) n ?_ ?_ ?_ ?_ (one8 _ _) ?_ ?_ ?_)
       exact (new_at (w.alloc _) (w.heap.size + 1) 69 _ (by simp)).cast rfl
       exact (by rw [List.length_take, List.length_map, HL.out]; omega)
       exact (by show n = min n 64; omega)
       exact (fun h0 => ⟨rfl, ((HR.out.below (((Below.refl _ _).alloc (Nat.le_refl _) _).alloc (by simp) _)).src (g := w.heap.size + 1) (by omega) (by simp; omega)).addr n (Nat.le_refl _) h0⟩)
       exact (by rw [List.length_take, List.length_map, HL.out]; simp; omega)
       exact rfl
       exact rfl
       intro w2 HB2 HG2
       have hB2 : Blk w2 (w.heap.size + 1) 69 D := HB2.out.cast (by rw [List.take_of_length_le (by rw [List.length_map, HL.out]; omega)]; exact D6.out)
       have B2 := Lib.hid hB2
       have R2 := Lib.hid hB2.range
       have hZ2 : Blk w2 w.heap.size 69 Z48 := (((Blk.new w 69 Z48).alloc _).grown HG2.out (ne_some (by omega)))
       have Z2 := Lib.hid hZ2
       have hBw : Below w.heap.size w w2 := ((((Below.refl _ _).alloc (Nat.le_refl _) _).alloc (by simp) _).keepB' HG2.out (by simp; omega) (by omega))
       have W2 := Lib.hid hBw
       clear hB2 hZ2 hBw HB2 HG2)
    | ((with_reducible refine wpList_load_at (dst := some 15) (ty := 69) (w.heap.size + 1) 0 D _ ?_ R2.out Tryd.underlying69 ?_ D3.out ?_); exact rfl; exact rfl)
    | ((with_reducible refine wpList_store_at (ty := 69) (x := .tmp 2) (y := .tmp 15) w.heap.size 0 69 Z48 D ?_ ?_ Z2.out D3.out D4.out D5.out ?_); exact rfl; exact rfl; intro w5 HB5 HG5))
  have hB5 : Blk w5 w.heap.size 69 D := HB5.out.cast (by rw [splice_all _ _ (by rw [Array.length_toList, Array.length_toList, D2.out, Z48, agg8_size]; simp), Array.toArray_toList])
  refine bodyPost_ret (results_cell_row Tryd.results44 _ _ _ _ _ _ _ rfl hB5 Tryd.underlying69 rfl D3.out) rfl ⟨rfl, ?_⟩
  exact W2.out.keepB' HG5.out (by have := W2.out.size; omega) (Nat.le_refl _)
theorem slice27_all (g o : Nat) (w : World) : (Instr.sliceAt 27 (.pointer (some ⟨g, o, none⟩)) none none none).run Tryd.prog w = .ok (.slice (some ⟨g, o, none⟩) 32 32) w := by
  have h := run_sliceAt_array_all (P := Tryd.prog) w 27 ⟨g, o, none⟩ und27
  rw [h, el27, size5, arr27]
  simp [slicedAt, Result.andThen, add_plain]
theorem of_one (w : World) (A : Option Addr) (n c : Nat) (key : List Int) (hr : Reads w w.heap.size A n (key.map (Value.int .u8))) (hnc : n ≤ c) (hgl : Glob w) (h2 : 2 ≤ w.heap.size) (hn : n ≤ 1125899906842000) :
    Calls Tryd.prog 13 #[.slice (some ⟨w.heap.size, 0, none⟩) 1 1] (w.alloc (.cells #[.slice A n c] 24)) fun e w' => e = .returned (.agg (agg8 (digest key))) ∧ Below w.heap.size w w' := by
  have hb : Below w.heap.size w (w.alloc (.cells #[.slice A n c] 24)) := (Below.refl _ _).alloc (Nat.le_refl _) _
  have hP : Pieces (w.alloc (.cells #[.slice A n c] 24)) (w.alloc (.cells #[.slice A n c] 24)).heap.size (some ⟨w.heap.size, 0, none⟩) 1 [key] := by
    refine ⟨rfl, fun _ => ⟨_, _, rfl, by simp, fun i hi => ?_⟩⟩
    obtain rfl : i = 0 := by simpa using hi
    exact ⟨_, (Blk.new w 24 _).at_ (by simp), A, n, c, rfl, hnc, (hr.below hb).more (by simp)⟩
  have hl : key.length = n := by simpa using hr.1
  have hO := of_any _ _ 1 1 [key] hP (hgl.below hb h2) (by simp; omega) (by omega) (by simp; omega)
  simp only [List.flatten_cons, List.flatten_nil, List.append_nil] at hO
  exact hO.mono fun _ _ ⟨he, hb'⟩ => ⟨he, hb.trans (hb'.mono (by simp))⟩
theorem srcE {w : World} {g x : Nat} {t : TypeId} {l : List Int} (h : Blk w g t (agg8 l)) (hne : g ≠ x) (hl : l.length = 32) : Src w x (some ⟨g, 0, none⟩) 32 (l.map (Value.int .u8)) := by
  have hs := h.src (g := x) hne 0 32 (by rw [agg8_size, hl]; omega)
  have e : ((agg8 l).toList.drop 0).take 32 = l.map (Value.int .u8) := by
    rw [List.drop_zero, agg8, List.take_of_length_le]
    rw [List.length_map, hl]; omega
  rwa [e] at hs
set_option maxRecDepth 100000 in
set_option maxHeartbeats 400000 in
theorem key_long (w : World) (A : Option Addr) (n c : Nat) (key : List Int) (hr : Reads w w.heap.size A n (key.map (Value.int .u8))) (hnc : n ≤ c) (hgl : Glob w) (h2 : 2 ≤ w.heap.size) (hn : 64 < n) (hm : n ≤ 1125899906842000) :
    Calls Tryd.prog 44 #[.slice A n c] w fun e w' => e = .returned (.agg (agg8 (keyB key))) ∧ Below w.heap.size w w' := by
  have hl : key.length = n := by simpa using hr.1
  have hkb : keyB key = padTo (digest key) := by unfold keyB; rw [if_neg (by omega)]
  obtain ⟨D, hD⟩ : ∃ D, D = agg8 (keyB key) := ⟨_, rfl⟩
  rw [← hD]
  obtain ⟨E, hE⟩ : ∃ E, E = digest key := ⟨_, rfl⟩
  have hEl : E.length = 32 := by rw [hE, digest_len]
  obtain ⟨EA, hEA⟩ : ∃ EA, EA = agg8 E := ⟨_, rfl⟩
  have hEz : EA.size = 32 := by rw [hEA, agg8_size, hEl]
  have hEi : (Tryd.prog.info? 27).map (·.size) = some EA.size := by rw [hEz]; kernel_rfl
  have hEf : 0 + EA.size ≤ Z27.size := by rw [hEz, Z27, agg8_size]; simp
  have hE1 : EA.all (·.oneCell') = true := by rw [hEA]; exact agg8_one _
  have hDz : D.size = 64 := by rw [hD, agg8_size, keyB_len]
  have hDi : (Tryd.prog.info? 69).map (·.size) = some D.size := by rw [hDz]; kernel_rfl
  have hDf : 0 + D.size ≤ Z48.size := by rw [hDz, Z48, agg8_size]; simp
  have hD1 : D.all (·.oneCell') = true := by rw [hD]; exact agg8_one _
  have hDk : (splice ((List.replicate 64 (0 : Int)).map (Value.int .u8)) 0 (E.map (Value.int .u8))).toArray = D := by rw [hD, hkb, hE]; exact splice_pad _
  have htest : decide ((64 : Int) < (n : Int)) = true := by simp; omega
  have hz48 : ∀ W : World, (zeroValue 69).run Tryd.prog W = .ok (.agg Z48) W := zero48
  have hz27 : ∀ W : World, (zeroValue 27).run Tryd.prog W = .ok (.agg Z27) W := zero27
  have hsl := slice48_all (w.heap.size + 1) 0
  obtain ⟨W0, hW0⟩ : ∃ W0 : World, W0 = (w.alloc (.cells Z48 69)).alloc (.cells Z48 69) := ⟨_, rfl⟩
  have hs0 : W0.heap.size = w.heap.size + 1 + 1 := by rw [hW0]; simp
  have hb0 : Below w.heap.size w W0 := by rw [hW0]; exact ((Below.refl _ _).alloc (Nat.le_refl _) _).alloc (by simp) _
  have hO := of_one W0 A n c key ((hr.below hb0).more hb0.size) hnc (hgl.below hb0 h2) (by omega) hm
  rw [← hE, ← hEA, hs0] at hO
  have hZ1 : Blk W0 (w.heap.size + 1) 69 Z48 := by rw [hW0]; exact new_at _ _ 69 _ (by simp)
  have hZ0 : Blk W0 w.heap.size 69 Z48 := by rw [hW0]; exact (Blk.new w 69 Z48).alloc _
  have KO := Lib.hid hO
  have KB := Lib.hid hb0
  have KZ1 := Lib.hid hZ1
  have KZ0 := Lib.hid hZ0
  have KS := Lib.hid hs0
  have KE := Lib.hid hEA
  have HL := Lib.hid hl
  have E2 := Lib.hid hEz
  have E3 := Lib.hid hEi
  have E4 := Lib.hid hEf
  have E5 := Lib.hid hE1
  have EL := Lib.hid hEl
  have D2 := Lib.hid hDz
  have D3 := Lib.hid hDi
  have D4 := Lib.hid hDf
  have D5 := Lib.hid hD1
  have D6 := Lib.hid hDk
  have KW := Lib.hid hW0
  clear hr hl hkb hD hDz hDi hDf hD1 hDk hO hb0 hZ1 hZ0 hs0 hEA hEz hEi hEf hE1 hE hEl hW0 hgl
  go_enter Tryd.func44, Tryd.ntmps44
  go_wp2_with fail
  rw [← KW.out]
  refine KO.out.mono ?_
  rintro e w1 ⟨rfl, hb1⟩
  have KB1 := Lib.hid hb1
  have hs1 := hb1.size
  rw [KS.out] at hs1
  have hsl27 := slice27_all w1.heap.size 0
  clear hb1
  go_wp2_with (first
    | ((with_reducible refine wpList_store_at (ty := 27) (x := .tmp 4) (y := .tmp 10) w1.heap.size 0 27 Z27 EA ?_ ?_ ?_ E3.out E4.out E5.out ?_); exact rfl; exact rfl; exact Blk.new _ 27 _
       intro w3 HB3 HG3
       have hB3 : Blk w3 w1.heap.size 27 EA := HB3.out.cast (by rw [splice_all _ _ (by rw [Array.length_toList, Array.length_toList, E2.out, Z27, agg8_size]; simp), Array.toArray_toList])
       have hZ31 : Blk w3 (w.heap.size + 1) 69 Z48 := (((KZ1.out.below KB1.out (by omega)).alloc _).grown HG3.out (ne_some (by omega)))
       have hZ30 : Blk w3 w.heap.size 69 Z48 := (((KZ0.out.below KB1.out (by omega)).alloc _).grown HG3.out (ne_some (by omega)))
       have hBw3 : Below w.heap.size w w3 := (((KB.out.trans (KB1.out.mono (by omega))).alloc (by omega) _).keepB' HG3.out (by simp; omega) (by omega))
       have G3 := Lib.hid hB3
       have Z31 := Lib.hid hZ31
       have Z30 := Lib.hid hZ30
       have W3 := Lib.hid hBw3
       have n31 : w1.heap.size ≠ w.heap.size + 1 := by omega
       clear HB3 HG3 hB3 hZ31 hZ30 hBw3)
    | ((with_reducible refine wpList_copyTo (dst := some 14) 5 Tryd.underlying24 byte_size (some ⟨w.heap.size + 1, 0, none⟩) (some ⟨w1.heap.size, 0, none⟩) 64 64 32 32 (w.heap.size + 1) 0 ((List.replicate 64 (0 : Int)).map (Value.int .u8)) 69 ?_ ((E.map (Value.int .u8)).take 32) 32 ?_ ?_ ?_ ?_ (one8 _ _) ?_ ?_ ?_)
       exact Z31.out.cast rfl
       exact (by rw [List.length_take, List.length_map, EL.out]; omega)
       exact (by decide)
       exact (fun h0 => ⟨rfl, (srcE (G3.out.cast KE.out) n31 EL.out).addr 32 (Nat.le_refl _) h0⟩)
       exact (by rw [List.length_take, List.length_map, EL.out]; simp)
       exact rfl
       exact rfl
       intro w2 HB2 HG2
       have hB2 : Blk w2 (w.heap.size + 1) 69 D := HB2.out.cast (by rw [List.take_of_length_le (by rw [List.length_map, EL.out]; omega)]; exact D6.out)
       have B2 := Lib.hid hB2
       have R2 := Lib.hid hB2.range
       have hZ2 : Blk w2 w.heap.size 69 Z48 := Z30.out.grown HG2.out (ne_some (by omega))
       have Z2 := Lib.hid hZ2
       have hBw : Below w.heap.size w w2 := W3.out.keepB' HG2.out W3.out.size (by omega)
       have W2 := Lib.hid hBw
       clear hB2 hZ2 hBw HB2 HG2)
    | ((with_reducible refine wpList_load_at (dst := some 15) (ty := 69) (w.heap.size + 1) 0 D _ ?_ R2.out Tryd.underlying69 ?_ D3.out ?_); exact rfl; exact rfl)
    | ((with_reducible refine wpList_store_at (ty := 69) (x := .tmp 2) (y := .tmp 15) w.heap.size 0 69 Z48 D ?_ ?_ Z2.out D3.out D4.out D5.out ?_); exact rfl; exact rfl; intro w5 HB5 HG5))
  have hB5 : Blk w5 w.heap.size 69 D := HB5.out.cast (by rw [splice_all _ _ (by rw [Array.length_toList, Array.length_toList, D2.out, Z48, agg8_size]; simp), Array.toArray_toList])
  refine bodyPost_ret (results_cell_row Tryd.results44 _ _ _ _ _ _ _ rfl hB5 Tryd.underlying69 rfl D3.out) rfl ⟨rfl, ?_⟩
  exact W2.out.keepB' HG5.out W2.out.size (Nat.le_refl _)
theorem key_any (w : World) (A : Option Addr) (n c : Nat) (key : List Int) (hr : Reads w w.heap.size A n (key.map (Value.int .u8))) (hnc : n ≤ c) (hgl : Glob w) (h2 : 2 ≤ w.heap.size) (hm : n ≤ 1125899906842000) :
    Calls Tryd.prog 44 #[.slice A n c] w fun e w' => e = .returned (.agg (agg8 (keyB key))) ∧ Below w.heap.size w w' := by
  by_cases h : n ≤ 64
  · exact key_short w A n c key hr h
  · exact key_long w A n c key hr hnc hgl h2 (by omega) hm
end Go.Proofs.YtgkfkfodeooogaaDoor
