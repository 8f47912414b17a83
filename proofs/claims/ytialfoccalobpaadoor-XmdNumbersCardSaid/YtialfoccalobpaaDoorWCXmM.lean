/-
  Layer 11: words laid over one another are bytes laid over one another.
-/
import Derived.Test.YtialfoccalobpaaDoorWCXmE
import Derived.ArgAppend
namespace Go.Proofs.YtialfoccalobpaaDoor
set_option linter.unusedSimpArgs false
set_option linter.unusedVariables false
open Go.RowKit
/-- Bytes. -/
def Byt (l : List Int) : Prop := ∀ k, 0 ≤ gt l k ∧ gt l k < 256
theorem gt_left {a b : List Int} {k : Nat} (h : k < a.length) : gt (a ++ b) k = gt a k := by
  simp [gt, List.getElem?_append_left h]
theorem gt_right {a b : List Int} {k : Nat} (h : a.length ≤ k) : gt (a ++ b) k = gt b (k - a.length) := by
  simp [gt, List.getElem?_append_right h]
theorem gt_set_eq {l : List Int} {k : Nat} (x : Int) (h : k < l.length) : gt (l.set k x) k = x := by simp [gt, h]
theorem gt_set_ne {l : List Int} {k j : Nat} (x : Int) (h : k ≠ j) : gt (l.set k x) j = gt l j := by simp [gt, List.getElem?_set_ne h]
theorem ext_gt {a b : List Int} {n : Nat} (ha : a.length = n) (hb : b.length = n) (h : ∀ k, k < n → gt a k = gt b k) : a = b := by
  apply List.ext_getElem (by omega)
  intro k h1 h2
  have := h k (by omega)
  rw [gt_eq h1, gt_eq h2] at this
  exact this
/-- The word of the bytes from 8 j on, behind t of them. -/
def wdV (l : List Int) (j : Nat) : Nat → Int
  | 0 => 0
  | t + 1 => wdV l j t * 256 + gt l (8 * j + t)
theorem wdV_lo (l : List Int) (hl : Byt l) (j t : Nat) : 0 ≤ wdV l j t ∧ wdV l j t < 256 ^ t := by
  induction t with
  | zero => simp [wdV]
  | succ t ih =>
    have h := hl (8 * j + t)
    have e : (256 : Int) ^ (t + 1) = 256 ^ t * 256 := Int.pow_succ ..
    rw [wdV, e]
    omega
theorem pow_mono256 {t : Nat} (h : t ≤ 7) : (256 : Int) ^ t ≤ 72057594037927936 := by
  match t, h with
  | 0, _ | 1, _ | 2, _ | 3, _ | 4, _ | 5, _ | 6, _ | 7, _ => decide
theorem or_low64 (x b : Int) (hx : 0 ≤ x) (hx2 : x < 72057594037927936) (hb : 0 ≤ b) (hb2 : b < 256) : bits .or .u64 (x * 256 % 18446744073709551616) (b % 18446744073709551616) = x * 256 + b := by
  obtain ⟨n, rfl⟩ := Int.eq_ofNat_of_zero_le hx
  obtain ⟨m, rfl⟩ := Int.eq_ofNat_of_zero_le hb
  have e1 : ((n : Int) * 256 % 18446744073709551616) = ((n * 256 : Nat) : Int) := by omega
  have e2 : ((m : Int) % 18446744073709551616) = (m : Int) := by omega
  rw [e1, e2]
  have h1 : n * 256 < 2 ^ 64 := by omega
  have h2 : m < 2 ^ 64 := by omega
  have hor : n * 256 ||| m = n * 256 + m := by
    have := Nat.shiftLeft_add_eq_or_of_lt (i := 8) (b := m) (by omega) n
    rw [Nat.shiftLeft_eq] at this
    exact this.symm
  show IntKind.u64.wrap ((BitVec.ofInt 64 ((n * 256 : Nat) : Int) ||| BitVec.ofInt 64 (m : Int)).toNat : Int) = _
  rw [wrap64, BitVec.ofInt_natCast, BitVec.ofInt_natCast, BitVec.toNat_or, BitVec.toNat_ofNat, BitVec.toNat_ofNat, Nat.mod_eq_of_lt h1, Nat.mod_eq_of_lt h2, hor]
  omega
theorem dw_word (l : List Int) (hl : Byt l) : ∀ i, i ≤ 32 → ∀ j, j < 4 → gt (dw l i) j = wdV l j (min 8 (i - 8 * j)) := by
  intro i
  induction i with
  | zero =>
    intro _ j hj
    have e : min 8 (0 - 8 * j) = 0 := by omega
    rw [e]
    match j, hj with
    | 0, _ | 1, _ | 2, _ | 3, _ => rfl
  | succ i ih =>
    intro hi j hj
    have hI := ih (by omega)
    by_cases h : i / 8 = j
    · have hlen : i / 8 < (dw l i).length := by rw [dw_len]; omega
      have hb := hl i
      have hw := wdV_lo l hl j (i - 8 * j)
      have hp := pow_mono256 (t := i - 8 * j) (by omega)
      have e8 : min 8 (i + 1 - 8 * j) = (i - 8 * j) + 1 := by omega
      have e9 : min 8 (i - 8 * j) = i - 8 * j := by omega
      rw [dw, ← h, gt_set_eq _ hlen, h, hI j hj, e8, e9, or_low64 _ _ hw.1 (by omega) hb.1 hb.2, wdV]
      have ei : 8 * j + (i - 8 * j) = i := by omega
      rw [ei]
    · rw [dw, gt_set_ne _ h, hI j hj]
      congr 1
      omega
theorem dw_all (l : List Int) (hl : Byt l) (j : Nat) (hj : j < 4) : gt (dw l 32) j = wdV l j 8 := by
  rw [dw_word l hl 32 (Nat.le_refl _) j hj]
  congr 1
  omega
theorem wdV_div (l : List Int) (hl : Byt l) (j t s : Nat) : wdV l j (t + s) / 256 ^ s = wdV l j t := by
  induction s with
  | zero => simp
  | succ s ih =>
    have h := hl (8 * j + (t + s))
    have e : (256 : Int) ^ (s + 1) = 256 * 256 ^ s := by rw [Int.pow_succ, Int.mul_comm]
    have e2 : (wdV l j (t + s) * 256 + gt l (8 * j + (t + s))) / 256 = wdV l j (t + s) := by omega
    rw [← Nat.add_assoc, wdV, e, ← Int.ediv_ediv_of_nonneg (by omega), e2, ih]
theorem wdV_byte (l : List Int) (hl : Byt l) (j i : Nat) (hi : i < 8) : wdV l j 8 / 2 ^ (8 * (7 - i)) % 256 = gt l (8 * j + i) := by
  have e : (2 : Int) ^ (8 * (7 - i)) = 256 ^ (7 - i) := by rw [Int.pow_mul]; rfl
  have e2 : wdV l j 8 = wdV l j ((i + 1) + (7 - i)) := by congr 1; omega
  have h := hl (8 * j + i)
  rw [e, e2, wdV_div l hl, wdV]
  omega
theorem gt_wb (w : Int) (n i : Nat) (h : i < n) : gt (wb w n) i = w / 2 ^ (8 * (7 - i)) % 256 := by
  induction n with
  | zero => omega
  | succ n ih =>
    rw [wb]
    rcases Nat.lt_or_ge i n with h1 | h1
    · rw [gt_left (by rw [wb_len]; exact h1), ih h1]
    · have e : i = n := by omega
      rw [gt_right (by rw [wb_len]; exact h1), wb_len, e, Nat.sub_self]
      rfl
theorem gt_bw4 (d : List Int) (n k : Nat) (h : k < 8 * n) : gt (bw4 d n) k = gt d (k / 8) / 2 ^ (8 * (7 - k % 8)) % 256 := by
  induction n with
  | zero => omega
  | succ n ih =>
    rw [bw4]
    rcases Nat.lt_or_ge k (8 * n) with h1 | h1
    · rw [gt_left (by rw [bw4_len]; exact h1), ih h1]
    · have e1 : k / 8 = n := by omega
      have e2 : k - 8 * n = k % 8 := by omega
      rw [gt_right (by rw [bw4_len]; exact h1), bw4_len, gt_wb _ _ _ (by omega), e1, e2]
/-- Words of bytes, as bytes again. -/
theorem bw4_dw (l : List Int) (hl : Byt l) (h32 : l.length = 32) : bw4 (dw l 32) 4 = l :=
  ext_gt (n := 32) (bw4_len _ _) h32 fun k hk => by
    rw [gt_bw4 _ _ _ (by omega), dw_all l hl _ (by omega), wdV_byte l hl _ _ (by omega)]
    congr 1
    omega
theorem gt_ow (a b : List Int) (n k : Nat) (hn : n ≤ a.length) : gt (ow a b n) k = if k < n then bits .xor .u64 (gt a k) (gt b k) else gt a k := by
  induction n with
  | zero => simp [ow]
  | succ n ih =>
    have ih' := ih (by omega)
    rw [ow]
    by_cases h : n = k
    · subst h
      rw [gt_set_eq _ (by rw [ow_len]; omega), ih', if_neg (by omega), if_pos (by omega)]
    · rw [gt_set_ne _ h, ih']
      by_cases h2 : k < n
      · rw [if_pos h2, if_pos (by omega)]
      · rw [if_neg h2, if_neg (by omega)]
theorem xor_byte (x y : Int) (s : Nat) (hx : 0 ≤ x) (hx2 : x < 18446744073709551616) (hy : 0 ≤ y) (hy2 : y < 18446744073709551616) :
    bits .xor .u64 x y / 2 ^ (8 * s) % 256 = bits .xor .u8 (x / 2 ^ (8 * s) % 256) (y / 2 ^ (8 * s) % 256) := by
  obtain ⟨n, rfl⟩ := Int.eq_ofNat_of_zero_le hx
  obtain ⟨m, rfl⟩ := Int.eq_ofNat_of_zero_le hy
  have h1 : n < 2 ^ 64 := by omega
  have h2 : m < 2 ^ 64 := by omega
  have hp : ((2 : Int) ^ (8 * s)) = ((2 ^ (8 * s) : Nat) : Int) := by simp
  have e1 : ((n : Int) / 2 ^ (8 * s) % 256) = ((n / 2 ^ (8 * s) % 256 : Nat) : Int) := by rw [hp]; simp
  have e2 : ((m : Int) / 2 ^ (8 * s) % 256) = ((m / 2 ^ (8 * s) % 256 : Nat) : Int) := by rw [hp]; simp
  have hxl : n ^^^ m < 2 ^ 64 := Nat.xor_lt_two_pow h1 h2
  have e3 : bits .xor .u64 (n : Int) (m : Int) = ((n ^^^ m : Nat) : Int) := by
    show IntKind.u64.wrap ((BitVec.ofInt 64 (n : Int) ^^^ BitVec.ofInt 64 (m : Int)).toNat : Int) = _
    rw [wrap64, BitVec.ofInt_natCast, BitVec.ofInt_natCast, BitVec.toNat_xor, BitVec.toNat_ofNat, BitVec.toNat_ofNat, Nat.mod_eq_of_lt h1, Nat.mod_eq_of_lt h2]
    omega
  have h5 : n / 2 ^ (8 * s) % 256 < 2 ^ 8 := Nat.mod_lt _ (by omega)
  have h6 : m / 2 ^ (8 * s) % 256 < 2 ^ 8 := Nat.mod_lt _ (by omega)
  have hxl2 : (n / 2 ^ (8 * s) % 256) ^^^ (m / 2 ^ (8 * s) % 256) < 2 ^ 8 := Nat.xor_lt_two_pow h5 h6
  have e4 : bits .xor .u8 ((n / 2 ^ (8 * s) % 256 : Nat) : Int) ((m / 2 ^ (8 * s) % 256 : Nat) : Int) = (((n / 2 ^ (8 * s) % 256) ^^^ (m / 2 ^ (8 * s) % 256) : Nat) : Int) := by
    show IntKind.u8.wrap ((BitVec.ofInt 8 ((n / 2 ^ (8 * s) % 256 : Nat) : Int) ^^^ BitVec.ofInt 8 ((m / 2 ^ (8 * s) % 256 : Nat) : Int)).toNat : Int) = _
    rw [u8wrap, BitVec.ofInt_natCast, BitVec.ofInt_natCast, BitVec.toNat_xor, BitVec.toNat_ofNat, BitVec.toNat_ofNat, Nat.mod_eq_of_lt h5, Nat.mod_eq_of_lt h6]
    omega
  rw [e1, e2, e3, e4, hp]
  have e5 : (n ^^^ m) / 2 ^ (8 * s) % 2 ^ 8 = (n / 2 ^ (8 * s) % 2 ^ 8) ^^^ (m / 2 ^ (8 * s) % 2 ^ 8) := by
    rw [← Nat.shiftRight_eq_div_pow, ← Nat.shiftRight_eq_div_pow, ← Nat.shiftRight_eq_div_pow, Nat.shiftRight_xor_distrib, Nat.xor_mod_two_pow]
  have e6 : (2 : Nat) ^ 8 = 256 := rfl
  rw [e6] at e5
  have : ((((n ^^^ m : Nat) : Int) / ((2 ^ (8 * s) : Nat) : Int) % 256)) = (((n ^^^ m) / 2 ^ (8 * s) % 256 : Nat) : Int) := by simp
  rw [this, e5]
/-- Bytes laid over one another. -/
def xl (a b : List Int) : Nat → List Int
  | 0 => []
  | k + 1 => xl a b k ++ [bits .xor .u8 (gt a k) (gt b k)]
theorem xl_len (a b : List Int) (k : Nat) : (xl a b k).length = k := by
  induction k with
  | zero => rfl
  | succ k ih => simp [xl, ih]
theorem gt_xl (a b : List Int) (n k : Nat) (h : k < n) : gt (xl a b n) k = bits .xor .u8 (gt a k) (gt b k) := by
  induction n with
  | zero => omega
  | succ n ih =>
    rw [xl]
    rcases Nat.lt_or_ge k n with h1 | h1
    · rw [gt_left (by rw [xl_len]; exact h1), ih h1]
    · have e : k = n := by omega
      rw [gt_right (by rw [xl_len]; exact h1), xl_len, e, Nat.sub_self]
      rfl
theorem over_bytes (a b : List Int) (ha : Byt a) (hb : Byt b) : bw4 (ow (dw a 32) (dw b 32) 4) 4 = xl a b 32 :=
  ext_gt (n := 32) (bw4_len _ _) (xl_len _ _ _) fun k hk => by
    have hj : k / 8 < 4 := by omega
    have w1 := wdV_lo a ha (k / 8) 8
    have w2 := wdV_lo b hb (k / 8) 8
    have e256 : (256 : Int) ^ 8 = 18446744073709551616 := by decide
    rw [e256] at w1 w2
    rw [gt_bw4 _ _ _ (by omega), gt_ow _ _ _ _ (by rw [dw_len]; omega), if_pos hj, dw_all a ha _ hj, dw_all b hb _ hj, xor_byte _ _ _ w1.1 w1.2 w2.1 w2.2, wdV_byte a ha _ _ (by omega), wdV_byte b hb _ _ (by omega), gt_xl _ _ _ _ hk]
    have e : 8 * (k / 8) + k % 8 = k := by omega
    rw [e]
theorem byt_of {l : List Int} (h : ∀ x ∈ l, 0 ≤ x ∧ x < 256) : Byt l := fun k => by
  rcases Nat.lt_or_ge k l.length with h1 | h1
  · rw [gt_eq h1]; exact h _ (List.getElem_mem h1)
  · have e : gt l k = 0 := by simp [gt, List.getElem?_eq_none h1]
    omega
theorem outN_byt (S : S8) (k : Nat) : ∀ x ∈ outN S k, 0 ≤ x ∧ x < 256 := by
  induction k with
  | zero => intro x hx; simp [outN] at hx
  | succ k ih =>
    intro x hx
    rw [outN] at hx
    rcases List.mem_append.1 hx with h | h
    · exact ih x h
    · simp only [List.mem_cons, List.not_mem_nil, or_false] at h
      rcases h with rfl | rfl | rfl | rfl <;> omega
theorem digest_byt (l : List Int) : Byt (digest l) := by
  rw [digest, ← outN_sum]
  exact byt_of (outN_byt _ _)
/-- The digests one behind the other, as bytes. -/
def lastB (B T : List Int) : Nat → List Int
  | 0 => List.replicate 32 0
  | i + 1 => digest (xl B (lastB B T i) 32 ++ ([((i : Nat) + 1 : Int) % 256] ++ T))
def outB (B T : List Int) : Nat → List Int
  | 0 => []
  | i + 1 => outB B T i ++ lastB B T (i + 1)
theorem lastB_byt (B T : List Int) (i : Nat) : Byt (lastB B T i) := by
  cases i with
  | zero => exact byt_of fun x hx => by rw [lastB] at hx; have := List.eq_of_mem_replicate hx; omega
  | succ i => exact digest_byt _
theorem lastB_len (B T : List Int) (i : Nat) : (lastB B T i).length = 32 := by
  cases i with
  | zero => simp [lastB]
  | succ i => exact digest_len _
theorem ahead_last (B T : List Int) (hB : Byt B) (i : Nat) : aheadW (dw B 32) T i = dw (lastB B T i) 32 := by
  induction i with
  | zero =>
    show aheadW (dw B 32) T 0 = dw (List.replicate 32 0) 32
    rw [aheadW]
    decide +kernel
  | succ i ih => rw [aheadW, ih, over_bytes B _ hB (lastB_byt _ _ _), lastB]
theorem outW_outB (B T : List Int) (hB : Byt B) (i : Nat) : outW (dw B 32) T i = outB B T i := by
  induction i with
  | zero => rfl
  | succ i ih => rw [outW, outB, ih, ahead_last B T hB, bw4_dw _ (lastB_byt _ _ _) (lastB_len _ _ _)]
theorem expandL_bytes (msg tag : List Int) (n : Nat) : expandL msg tag n = (outB (headB msg tag n) (tagE tag) ((n + 31) / 32)).take n := by
  rw [expandL, headW, outW_outB _ _ (show Byt (headB msg tag n) from digest_byt _)]
section
variable {ops : Array Oper} {R : Act → World → Prop} {v : World} {L L0 : List (Nat × TypeId × Array Value)} {n : Nat} {sl : List (Nat × Value)}
/-- append to a slice that came from elsewhere and is full. -/
theorem L_pushGrow {i d : Nat} {il : List Nat} {x y : Operand} {t ty e : TypeId} {pos : String} {after : Array Edge} (m cap q c2 : Nat) (A1 A2 : Option Addr) (ie : TypeInfo) (l news : List Int)
    (hi : ops[i]? = some ⟨some d, .call { callee := .builtin .append, args := #[x, y], argTypes := #[t, t] }, ty, pos, after, none⟩) (hl : inFr n sl = true)
    (ht : Tryd.prog.underlying t = some (.slice e)) (hie : Tryd.prog.info? e = some ie) (hz : ie.zero = some (.int .u8 0)) (hs : ie.size = 1) (hb : ie.bytes = 1)
    (hx : rho sl x = .slice A1 m cap) (hy : rho sl y = .slice A2 q c2) (hm : 0 < m) (hq : 0 < q) (hfull : cap < m + q) (h63 : m + q ≤ 1000000000)
    (hr1 : ∀ w, Hbl v L w → Reads w w.heap.size A1 m (l.map (Value.int .u8))) (hr2 : ∀ w, Hbl v L w → Reads w w.heap.size A2 q (news.map (Value.int .u8)))
    (h : ∀ g' cap' cs', Nms .u8 cs' cap' (m + q) (l ++ news) → wpL Tryd.prog ops R il (fr n ((d, .slice (some ⟨g', 0, none⟩) (m + q) cap') :: sl)) (Hbl v ((g', e, cs') :: L))) :
    wpL Tryd.prog ops R (i :: il) (fr n sl) (Hbl v L) := fun w hS => by
  obtain ⟨b1, o1, rfl, hb1, hc1⟩ := (hr1 w hS).2 hm
  obtain ⟨b2, o2, rfl, hb2, hc2⟩ := (hr2 w hS).2 hq
  have hl1 := (hr1 w hS).1
  have hl2 := (hr2 w hS).1
  obtain ⟨v', w', hrun, hown, hgr⟩ := run_append_arg_grows (P := Tryd.prog) w t ty e ie (.int .u8 0) 1 1 ht hie hz hs hb rfl (by omega) ⟨b1, o1, none⟩ m cap (l.map (Value.int .u8)) (by rw [hl1, Nat.mul_one]) (fun j u hu => by rw [add_plain]; exact hc1 j u hu) ⟨b2, o2, none⟩ q c2 (news.map (Value.int .u8)) (by rw [hl2, Nat.mul_one]) (fun j u hu => by rw [add_plain]; exact hc2 j u hu) hfull (by simp only [maxLen]; omega) (by omega)
  obtain ⟨g', cap', cs', rfl, hg', hb', h1, h2, h3, h4⟩ := owns_blk hown (by omega)
  have hbel : Below w.heap.size w w' := ⟨hgr.os, hgr.tape, hgr.output, hgr.size, fun i hi => hgr.block i hi (by simp)⟩
  refine wpOp_run (w' := w') hi rfl (.inl (by rw [fr_eval n sl hl]; simp [execOp, resolve, invoke, builtin, hx, hy, hrun])) ⟨_, Hbl.stays v _, hS.fresh hbel hg' hb', h g' cap' cs' ⟨h2, h1, h4, ?_, by rw [h3, List.map_append]⟩⟩
  rw [List.length_map] at hl1 hl2
  rw [List.length_append, hl1, hl2]
/-- Numbers in new memory, with no error; the slice has room behind. -/
def RetsT2 (f : FuncId) (args : Array Value) (w : World) (n : Nat) (l : List Int) : Prop :=
  Calls Tryd.prog f args w fun r w' => ∃ g cap cs, r = .returned (.tuple #[.slice (some ⟨g, 0, none⟩) n cap, .int .i64 0]) ∧ Nms .u8 cs cap n l ∧ w.heap.size ≤ g ∧ Blk w' g 5 cs ∧ Below w.heap.size w w'
theorem L_freshT2 {i d : Nat} {l : List Nat} {f : FuncId} {args : Array Operand} {ats : Array TypeId} {ty : TypeId} {pos : String} {after : Array Edge} {gd : Option (Nat × Bool)} {vl : List Value} (m : Nat) (xs : List Int)
    (hi : ops[i]? = some ⟨some d, .call { callee := .value (.func f), args := args, argTypes := ats }, ty, pos, after, gd⟩) (hl : inFr n sl = true) (hw : Want ops n sl gd) (hf : (Tryd.prog.funcs[f]?).map (fun fn => (fn.name == "runtime.NumGoroutine", fn.body.isNone)) = some (false, false))
    (ha : args.toList.map (rho sl) = vl) (hc : ∀ w, Hbl v L w → RetsT2 f vl.toArray w m xs)
    (h : ∀ g cap cs, Nms .u8 cs cap m xs → wpL Tryd.prog ops R l (fr n ((d, .tuple #[.slice (some ⟨g, 0, none⟩) m cap, .int .i64 0]) :: sl)) (Hbl v ((g, 5, cs) :: L))) : wpL Tryd.prog ops R (i :: l) (fr n sl) (Hbl v L) := fun w hS =>
  wpOp_call hi hl (hw ..) hf ha (hc w hS) fun r w' ⟨g, cap, cs, he, hq, hg, hb, hbel⟩ => ⟨_, he, Hbl v ((g, 5, cs) :: L), Hbl.stays v _, hS.fresh hbel hg hb, h g cap cs hq⟩
end
end Go.Proofs.YtialfoccalobpaaDoor
