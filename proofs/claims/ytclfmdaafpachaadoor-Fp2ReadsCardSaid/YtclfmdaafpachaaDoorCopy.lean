/-
  The contracts of Copy and Same: slices of bytes are copied, compared.
-/
import Derived.Test.YtclfmdaafpachaaDoorFrK
namespace Go.Proofs.YtclfmdaafpachaaDoor
open Go.RowKit
/-- An operation of a region that its guard keeps away. -/
theorem wpAny_skip {P : Program} {ops : Array Oper} {Q : Exit → Act → World → Prop} {md : Region.Mode} {i : Nat} {oi : Oper} (d : Tmp) {fuel : Nat} {listed : Array Bool} {a : Act} {w : World} (hi : ops[i]? = some oi)
    (hs : Region.noSelect ops = true) (hf : Region.free md ops listed i = true) (hr : (Region.ready md ops listed).contains i = true)
    (hQ : ∀ c a w, Q (.panic c) (a.put oi.dst undef) w → Q (.panic c) a w) (hd : oi.dst = some d) (hw : Region.wanted oi (yielded ops a.tmps) = false)
    (h : wpAny P md ops Q fuel (listed.setIfInBounds i true) (a.put (some d) undef) w) : wpAny P md ops Q (fuel + 1) listed a w :=
  wpAny_take hi hs hf hr hQ (Or.inr ⟨hw, rfl⟩) (by rw [hd]; exact h)
/-- An operation that yields its value now, its place said outright. -/
theorem wpAnyH_put {P : Program} {ops : Array Oper} {Q : Exit → Act → World → Prop} {S : World → Prop} {md : Region.Mode} {i : Nat} {oi : Oper} (d : Tmp) (v : Value) {fuel : Nat} {listed : Array Bool} {a : Act} {w : World} (hi : ops[i]? = some oi)
    (hs : Region.noSelect ops = true) (hf : Region.free md ops listed i = true) (hr : (Region.ready md ops listed).contains i = true)
    (hQ : ∀ c a w, Q (.panic c) (a.put oi.dst v) w → Q (.panic c) a w) (hd : oi.dst = some d) (hy : YieldsIf P ops S oi v a) (hS : S w)
    (h : wpAnyH P md ops Q S fuel (listed.setIfInBounds i true) (a.put (some d) v) w) : wpAnyH P md ops Q S (fuel + 1) listed a w :=
  wpAnyH_take hi hs hf hr hQ hy hS (by rw [hd]; exact h)
theorem byte_info : (Tryd.prog.info? 5).map (fun i => (i.zero, i.size, i.bytes)) = some (some (.int .u8 0), 1, 1) := by kernel_rfl
def fill8 (n : Nat) (l : List Int) : Array Value := (l.map (Value.int .u8) ++ List.replicate (n - l.length) (Value.int .u8 0)).toArray
theorem fill8_size (n : Nat) (l : List Int) (h : l.length ≤ n) : (fill8 n l).size = n := by simp [fill8]; omega
theorem fill8_set (n : Nat) (l : List Int) (x : Int) (h : l.length < n) : (fill8 n l).setIfInBounds l.length (.int .u8 x) = fill8 n (l ++ [x]) := by
  unfold fill8
  have e : n - l.length = (n - (l ++ [x]).length) + 1 := by simp; omega
  rw [e, List.replicate_succ]
  simp
theorem fill8_full (l : List Int) : fill8 l.length l = ag8 l := by simp [fill8, ag8]
theorem fill8_nil (n : Nat) : Array.replicate n (Value.int .u8 0) = fill8 n [] := by simp [fill8]
theorem Reads.at_ {w : World} {B n : Nat} {A : Option Addr} {bs : List Int} (h : Reads w B A n (bs.map (Value.int .u8))) {k : Nat} (hk : k < n) :
    ∃ b o, A = some ⟨b, o, none⟩ ∧ b < B ∧ w.cell? ⟨b, o + k, none⟩ = some (.int .u8 (gt bs k)) := by
  obtain ⟨b, o, e, hb, hc⟩ := h.2 (by omega)
  have hl : k < bs.length := by have := h.1; simp at this; omega
  exact ⟨b, o, e, hb, hc k _ (by rw [gt_eq hl]; simp [hl])⟩
set_option maxRecDepth 100000 in
set_option maxHeartbeats 400000 in
theorem copy_any (w : World) (A : Option Addr) (n c : Nat) (bs : List Int) (hr : Reads w w.heap.size A n (bs.map (Value.int .u8))) (hn : n ≤ 281474976710656) :
    Calls Tryd.prog 26 #[.slice A n c] w fun e w' => ∃ g, e = .returned (.slice (some ⟨g, 0, none⟩) n n) ∧ w.heap.size ≤ g ∧ Blk w' g 5 (ag8 bs) ∧ Below w.heap.size w w' := by
  have hl : bs.length = n := by simpa using hr.1
  have HR := Lib.hid hr
  have HL := Lib.hid hl
  clear hr hl
  go_enter Tryd.func26, Tryd.ntmps26
  go_wp2_with (at_make; refine wpList_make_new _ rfl _ _ _ rfl 5 _ 1 Tryd.underlying22 byte_info rfl .i64 .i64 _ n rfl rfl rfl (by omega) (by omega) ?_; intro w1 hb1 hs1 hB1; have HB1 := Lib.hid hb1; have HC1 := Lib.hid hB1; clear hB1 hb1)
  go_loopw [4, 10] (fun _ i wr => ∃ k : Nat, k ≤ n ∧ i = .int .i64 k ∧ Below w.heap.size w wr ∧ w.heap.size < wr.heap.size ∧ Blk wr w.heap.size 5 (fill8 n (bs.take k))) (fun _ i _ => n - (intOf i).toNat)
  case atStart => exact ⟨0, Nat.zero_le _, rfl, HB1.out, hs1, HC1.out.cast (by rw [fill8_nil, List.take_zero])⟩
  case round =>
    obtain ⟨k, hk, rfl, hb, hsz, hB⟩ := hrel
    by_cases hlt : k < n
    · obtain ⟨b0, o0, rfl, hb0, hc0⟩ := (HR.out.below hb).at_ hlt
      have htl : (bs.take k).length = k := by rw [List.length_take, HL.out]; omega
      obtain ⟨v0, hv⟩ := hB.some_ (i := k) (by rw [fill8_size _ _ (by omega)]; omega)
      have hf := hB.frozen k
      have hset := fill8_set n (bs.take k) (gt bs k) (by omega)
      rw [htl, ← take_snoc bs k (by rw [HL.out]; exact hlt)] at hset
      have X1 := Lib.hid hb
      have X2 := Lib.hid hB
      have X3 := Lib.hid hset
      clear hb hB hset htl HB1 HC1
      have i1 : (k : Int) < n := by omega
      go_wp2_with fail
      refine ⟨⟨k + 1, by omega, by go_num, X1.out.setCell (Nat.le_refl _) _, by simpa [World.setCell] using hsz, (X2.out.set_ k _).cast X3.out⟩, by simp [intOf]; omega⟩
    · obtain rfl : k = n := by omega
      have X1 := Lib.hid hb
      have X2 := Lib.hid hB
      clear hb hB HB1 HC1
      go_wp2_with fail
      go_ret
      exact ⟨_, rfl, Nat.le_refl _, X2.out.cast (by rw [List.take_of_length_le (by rw [HL.out]; omega), ← HL.out, fill8_full]), X1.out⟩
theorem drewN_two (w : World) (m n : Nat) : (w.drewN m).drewN n = w.drewN (m + n) := by simp
set_option maxRecDepth 100000 in
set_option maxHeartbeats 400000 in
theorem same_any (w : World) (B1 B2 : Nat) (A : Option Addr) (n c : Nat) (A2 : Option Addr) (n2 c2 : Nat) (l1 l2 : List Int) (hr1 : Reads w B1 A n (l1.map (Value.int .u8))) (hr2 : Reads w B2 A2 n2 (l2.map (Value.int .u8))) (hn : n ≤ 281474976710656) (hn2 : n2 ≤ 281474976710656) :
    Calls Tryd.prog 28 #[.slice A n c, .slice A2 n2 c2] w fun e w' => e = .returned (.bool (decide (l1 = l2))) ∧ ∃ m, w' = w.drewN m := by
  have hl1 : l1.length = n := by simpa using hr1.1
  have hl2 : l2.length = n2 := by simpa using hr2.1
  have H1 := Lib.hid hr1
  have H2 := Lib.hid hr2
  have L1 := Lib.hid hl1
  have L2 := Lib.hid hl2
  clear hr1 hr2 hl1 hl2
  by_cases hne : n = n2
  · subst hne
    go_enter Tryd.func28, Tryd.ntmps28
    go_wp2_with fail
    go_loopw [5, 13] (fun _ i wr => ∃ k m : Nat, k ≤ n ∧ i = .int .i64 k ∧ wr = w.drewN m ∧ l1.take k = l2.take k) (fun _ i _ => n - (intOf i).toNat)
    case atStart => exact ⟨0, 0, Nat.zero_le _, rfl, rfl, rfl⟩
    case round =>
      obtain ⟨k, m, hk, rfl, rfl, htk⟩ := hrel
      have T := Lib.hid htk
      clear htk
      by_cases hlt : k < n
      · obtain ⟨b0, o0, rfl, hb0, hc0⟩ := H1.out.at_ hlt
        obtain ⟨b1, o1, rfl, hb1, hc1⟩ := H2.out.at_ hlt
        have i1 : (k : Int) < n := by omega
        have s1 := take_snoc l1 k (by rw [L1.out]; exact hlt)
        have s2 := take_snoc l2 k (by rw [L2.out]; exact hlt)
        by_cases hq : gt l1 k = gt l2 k
        · have hd : decide (gt l1 k = gt l2 k) = true := by simpa using hq
          rw [hq] at hc0 s1
          have S1 := Lib.hid s1
          have S2 := Lib.hid s2
          clear s1 s2 hd
          go_wp2_with fail
          go_quiet (fail)
          go_wp2_with fail
          exact ⟨⟨k + 1, _, by omega, by go_num, rfl, by rw [S1.out, S2.out, T.out]⟩, by simp [intOf]; omega⟩
        · have S1 := Lib.hid s1
          have S2 := Lib.hid s2
          clear s1 s2
          go_wp2_with fail
          go_quiet (fail)
          go_wp2_with fail
          go_ret
          refine ⟨?_, m + _, drewN_two w m _⟩
          have hd : decide (l1 = l2) = false := by
            simp only [decide_eq_false_iff_not]
            intro e
            exact hq (by rw [e])
          rw [hd]; rfl
      · obtain rfl : k = n := by omega
        have hd : decide (l1 = l2) = true := by
          have h := T.out
          rw [List.take_of_length_le (Nat.le_of_eq L1.out), List.take_of_length_le (Nat.le_of_eq L2.out)] at h
          simpa using h
        have HD := Lib.hid hd
        clear hd
        have i1 : ¬ ((k : Int) < k) := by omega
        go_wp2_with fail
        go_ret
        exact ⟨by rw [HD.out]; rfl, m, rfl⟩
  · have hd : decide (l1 = l2) = false := by
      simp only [decide_eq_false_iff_not]
      intro e
      exact hne (by rw [← L1.out, ← L2.out, e])
    rw [hd]
    have i1 : ¬ ((n : Int) = n2) := by omega
    go_enter Tryd.func28, Tryd.ntmps28
    go_wp2_with fail
    go_ret
    exact ⟨rfl, 0, rfl⟩
end Go.Proofs.YtclfmdaafpachaaDoor
