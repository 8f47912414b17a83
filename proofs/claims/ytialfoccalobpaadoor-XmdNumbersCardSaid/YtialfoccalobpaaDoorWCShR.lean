/-
  What the walk of the reference's digest wants.
-/
import Derived.Test.YtialfoccalobpaaDoorWCShCon
import Derived.Test.YtialfoccalobpaaDoorWCShExp
import Derived.Test.YtialfoccalobpaaDoorWCShHeadB
import Derived.Test.YtialfoccalobpaaDoorWCShJoin
import Derived.Test.YtialfoccalobpaaDoorWCShNil
import Derived.Test.YtialfoccalobpaaDoorWCPw
namespace Go.Proofs.YtialfoccalobpaaDoor
set_option linter.unusedSimpArgs false
set_option linter.unusedVariables false
open Go.RowKit
theorem und_u64s : Tryd.prog.underlying 109 = some (.slice 32) := by kernel_rfl
theorem u64_sz : (Tryd.prog.info? 32).map (·.size) = some 1 := by kernel_rfl
theorem sv310_in (i : Nat) (hi : i < 64) : 0 ≤ gt (sv 310) i ∧ gt (sv 310) i < 4294967296 := by
  have hl : i < (sv 310).length := by rw [sv_310]; exact hi
  have := sv_ge 310 _ (List.getElem_mem hl)
  rw [gt_eq hl]
  omega
def mz (bs : List Int) (z : Nat) : List Int := bs ++ (128 :: List.replicate z 0)
theorem mz_next (bs : List Int) (z : Nat) : mz bs z ++ [0] = mz bs (z + 1) := by
  simp [mz, List.replicate_succ']
def szL (n : Nat) : Nat → List Int
  | 0 => []
  | t + 1 => szL n t ++ [(n : Int) * 8 / 2 ^ (8 * (7 - t)) % 256]
theorem set_tail (P : List Int) (Q : List Int) (o j : Nat) (x : Int) (h : o = P.length + j) : (P ++ Q).set o x = P ++ Q.set j x := by
  subst h
  rw [List.set_append_right _ _ (by omega)]
  congr 2
  omega
theorem pad_list (n : Nat) : 128 :: List.replicate (padLen n - 9) 0 ++ szL n 8 = padB n := by
  have h9 := padLen_le n
  unfold padB
  obtain ⟨z, hz⟩ : ∃ z, padLen n = z + 9 := ⟨padLen n - 9, by omega⟩
  rw [hz]
  have e : (List.replicate (z + 9) (0 : Int)).set 0 128 = (128 :: List.replicate z 0) ++ List.replicate 8 0 := by
    rw [List.replicate_succ, List.set_cons_zero, List.cons_append, List.replicate_append_replicate]
  rw [e]
  have hl : (128 :: List.replicate z (0 : Int)).length = z + 1 := by simp
  simp only [putNL]
  rw [set_tail _ _ _ 0 _ (by rw [hl]; omega), set_tail _ _ _ 1 _ (by rw [hl]; omega), set_tail _ _ _ 2 _ (by rw [hl]; omega), set_tail _ _ _ 3 _ (by rw [hl]; omega), set_tail _ _ _ 4 _ (by rw [hl]; omega), set_tail _ _ _ 5 _ (by rw [hl]; omega), set_tail _ _ _ 6 _ (by rw [hl]; omega), set_tail _ _ _ 7 _ (by rw [hl]; omega)]
  rw [show z + 9 - 9 = z by omega]
  refine congrArg (fun l => (128 :: List.replicate z 0) ++ l) ?_
  · simp only [szL, List.replicate, List.set, List.nil_append, List.cons_append, byteOf]
    congr 1
    · omega
    congr 1
    · omega
    congr 1
    · omega
    congr 1
    · omega
    congr 1
    · omega
    congr 1
    · omega
    congr 1
    · omega
    congr 1
    omega
theorem factorsL_len : factorsL.length = 64 := by decide +kernel
theorem cb_at (j : Nat) (hj : j < 64) : cbX (gt (sv 310) j) 37 % 4294967296 = gt factorsL j := cb_all ⟨j, hj⟩
def startL : List Int := startS.list
theorem sq_at (j : Nat) (hj : j < 8) : sqX (gt (sv 310) j) 41 % 4294967296 = gt startL j := sq_all ⟨j, hj⟩
theorem factorsL_take (j : Nat) (hj : j < 64) : factorsL.take j ++ [gt factorsL j] = factorsL.take (j + 1) := (take_snoc _ _ (by rw [factorsL_len]; exact hj)).symm
theorem startL_take (j : Nat) (hj : j < 8) : startL.take j ++ [gt startL j] = startL.take (j + 1) := (take_snoc _ _ (by simpa [startL, S8.list] using hj)).symm
theorem c_cube (w : World) (j : Nat) (hj : j < 64) : Rets 64 #[.int .u64 (gt (sv 310) j)] w (.int .u32 (gt factorsL j)) :=
  (cube_any w _ (sv310_in j hj).1 (sv310_in j hj).2).mono fun e w' ⟨he, hw⟩ => ⟨by rw [he, cb_at j hj], hw ▸ Below.refl _ _⟩
theorem c_square (w : World) (j : Nat) (hj : j < 8) : Rets 65 #[.int .u64 (gt (sv 310) j)] w (.int .u32 (gt startL j)) :=
  (square_any w _ (sv310_in j (by omega)).1 (by have := (sv310_in j (by omega)).2; omega)).mono fun e w' ⟨he, hw⟩ => ⟨by rw [he, sq_at j hj], hw ▸ Below.refl _ _⟩
set_option maxRecDepth 100000 in
theorem rturn_of (x n : Int) (w : World) (h1 : 1 ≤ n) (h2 : n ≤ 31) : Calls Tryd.prog 66 #[.int .u32 x, .int .u64 n] w fun e w' => e = .returned (.int .u32 (rotr n.toNat x)) ∧ w = w' := by
  obtain ⟨k, rfl⟩ : ∃ k : Nat, n = (k : Int) := ⟨n.toNat, by omega⟩
  have i1 : (32 : Int) - k = ((32 - k : Nat) : Int) := by omega
  have hk1 : 1 ≤ k := by omega
  have hk2 : k ≤ 31 := by omega
  go_enter Tryd.func66, Tryd.ntmps66
  go_wp2_with fail
  go_ret
  exact ⟨by rw [rotr, or32_comm]; rfl, rfl⟩
theorem c_turn (w : World) (x : Int) (n : Nat) (h1 : Nat.ble 1 n = true) (h2 : Nat.ble n 31 = true) : Rets 66 #[.int .u32 x, .int .u64 (n : Int)] w (.int .u32 (rotr n x)) :=
  (rturn_of x n w (by have := Nat.le_of_ble_eq_true h1; omega) (by have := Nat.le_of_ble_eq_true h2; omega)).mono fun e w' ⟨he, hw⟩ => ⟨he, hw ▸ Below.refl _ _⟩
/-- What an older contract returns, as a slice of the call's own. -/
theorem RetsP.of_own {f : FuncId} {args : Array Value} {w : World} {e : TypeId} {k : IntKind} {n : Nat} {l : List Int} (hl : l.length = n) (h0 : 0 < n)
    (h : Calls Tryd.prog f args w fun r w' => ∃ v, r = .returned v ∧ Own w' w.heap.size e v (l.map (Value.int k)) ∧ Below w.heap.size w w') : RetsP f args w e k n l :=
  h.mono fun r w' ⟨v, he, ho, hb⟩ => by
    have ho' : w'.ownsRow w.heap.size e 1 v n (l.map (Value.int k)) := by
      have : (l.map (Value.int k)).length = n := by simpa using hl
      rw [← this]
      exact ho
    obtain ⟨g, cap, cs, rfl, hg, hB, h1, h2, h3, h4⟩ := owns_blk ho' h0
    exact ⟨g, cap, cs, he, ⟨h2, h1, h4, hl, h3⟩, hg, hB, hb⟩
theorem c_primes (w : World) : RetsP 63 #[.int .i64 64] w 32 .u64 64 (sv 310) := RetsP.of_own sv_310 (by omega) (primes_any w)
theorem c_copy (w : World) (A : Option Addr) (n c : Nat) (bs : List Int) (hr : Reads w w.heap.size A n (bs.map (Value.int .u8))) (hn : n ≤ 281474976710656) : RetsP 10 #[.slice A n c] w 5 .u8 n bs :=
  (copy_any w A n c bs hr hn).mono fun r w' ⟨g, he, hg, hB, hb⟩ => by
    have hl : bs.length = n := by simpa using hr.1
    exact ⟨g, n, agg8 bs, he, Nms.all rfl hl (by omega), hg, hB, hb⟩
/-- The words of a shift, laid. -/
theorem shl32 (a : Int) (s : Nat) (p : Int) (hs : Nat.ble s 32 = true) (hp : (2 : Int) ^ s = p) : IntKind.u32.wrap (a * 2 ^ (min ((s : Int)).toNat IntKind.u32.bits)) = a * p % 4294967296 := by
  have e : min ((s : Int)).toNat IntKind.u32.bits = s := by have := Nat.le_of_ble_eq_true hs; show min _ 32 = s; omega
  rw [e, hp, IntKind.wrap_u32]
theorem shr32 (a : Int) (s : Nat) (p : Int) (hs : Nat.ble s 32 = true) (hp : (2 : Int) ^ s = p) : a.fdiv (2 ^ (min ((s : Int)).toNat IntKind.u32.bits)) = a / p := by
  have e : min ((s : Int)).toNat IntKind.u32.bits = s := by have := Nat.le_of_ble_eq_true hs; show min _ 32 = s; omega
  rw [e, hp, Int.fdiv_eq_ediv_of_nonneg _ (by rw [← hp]; exact Int.le_of_lt (Int.pow_pos (by omega)))]
theorem shrN (a b : Int) (s : Nat) (hb : b = (s : Int)) (hs : s ≤ 64) : a.fdiv (2 ^ (min b.toNat IntKind.u64.bits)) = a / 2 ^ s := by
  have e : min b.toNat IntKind.u64.bits = s := by subst hb; show min _ 64 = s; omega
  rw [e, Int.fdiv_eq_ediv_of_nonneg _ (Int.le_of_lt (Int.pow_pos (by omega)))]
theorem gives_compl32 {P : Program} {S : World → Prop} {l : List (Nat × Value)} {dst : Option Nat} {x : Operand} {t ty : TypeId} {pos : String} {after : Array Edge} {gd : Option (Nat × Bool)} (a : Int) (hx : rho l x = .int .u32 a) : Gives P S (.int .u32 (bits .xor .u32 4294967295 a)) (execOp (rho l) ⟨dst, .unOp .xor t x, ty, pos, after, gd⟩) := gives_value _ fun w => by
  have e : IntKind.u32.max = 4294967295 := by decide
  simp [execOp, hx, Op.unary, Op.intBits, bits, IntKind.signed, e]
/-- The block at 64 q. -/
theorem blk_at (M : List Int) (q k : Nat) (hk : k < 64) : gt ((M.drop (64 * q)).take 64) k = gt M (64 * q + k) := by
  simp [gt, List.getElem?_take, hk]
theorem words_next (M : List Int) (q k : Nat) (hk : k < 16) :
    firstW ((M.drop (64 * q)).take 64) k ++ [bits .or .u32 (bits .or .u32 (bits .or .u32 (gt M (64 * q + 4 * k) % 4294967296 * 16777216 % 4294967296) (gt M (64 * q + 4 * k + 1) % 4294967296 * 65536 % 4294967296)) (gt M (64 * q + 4 * k + 2) % 4294967296 * 256 % 4294967296)) (gt M (64 * q + 4 * k + 3) % 4294967296)] = firstW ((M.drop (64 * q)).take 64) (k + 1) := by
  rw [firstW, be32, blk_at M q (4 * k) (by omega), blk_at M q (4 * k + 1) (by omega), blk_at M q (4 * k + 2) (by omega), blk_at M q (4 * k + 3) (by omega)]
  rfl
theorem next_sum (a s b t : Int) : (((a + s) % 4294967296 + b) % 4294967296 + t) % 4294967296 = (a + s + b + t) % 4294967296 := by omega
theorem t_sum (a b c d e : Int) : ((((a + b) % 4294967296 + c) % 4294967296 + d) % 4294967296 + e) % 4294967296 = (a + b + c + d + e) % 4294967296 := by omega
theorem list_gt (s : S8) : gt s.list 0 = s.a ∧ gt s.list 1 = s.b ∧ gt s.list 2 = s.c ∧ gt s.list 3 = s.d ∧ gt s.list 4 = s.e ∧ gt s.list 5 = s.f ∧ gt s.list 6 = s.g ∧ gt s.list 7 = s.h := ⟨rfl, rfl, rfl, rfl, rfl, rfl, rfl, rfl⟩
theorem round_list (S : S8) (k w : Int) : [(((((gt S.list 7 + bits .xor .u32 (bits .xor .u32 (rotr 6 (gt S.list 4)) (rotr 11 (gt S.list 4))) (rotr 25 (gt S.list 4))) % 4294967296 + bits .xor .u32 (bits .and .u32 (gt S.list 4) (gt S.list 5)) (bits .and .u32 (bits .xor .u32 4294967295 (gt S.list 4)) (gt S.list 6))) % 4294967296 + k) % 4294967296 + w) % 4294967296 + (bits .xor .u32 (bits .xor .u32 (rotr 2 (gt S.list 0)) (rotr 13 (gt S.list 0))) (rotr 22 (gt S.list 0)) + bits .xor .u32 (bits .xor .u32 (bits .and .u32 (gt S.list 0) (gt S.list 1)) (bits .and .u32 (gt S.list 0) (gt S.list 2))) (bits .and .u32 (gt S.list 1) (gt S.list 2))) % 4294967296) % 4294967296, gt S.list 0, gt S.list 1, gt S.list 2, (gt S.list 3 + ((((gt S.list 7 + bits .xor .u32 (bits .xor .u32 (rotr 6 (gt S.list 4)) (rotr 11 (gt S.list 4))) (rotr 25 (gt S.list 4))) % 4294967296 + bits .xor .u32 (bits .and .u32 (gt S.list 4) (gt S.list 5)) (bits .and .u32 (bits .xor .u32 4294967295 (gt S.list 4)) (gt S.list 6))) % 4294967296 + k) % 4294967296 + w) % 4294967296) % 4294967296, gt S.list 4, gt S.list 5, gt S.list 6] = (rnd S k w).list := by
  obtain ⟨h0, h1, h2, h3, h4, h5, h6, h7⟩ := list_gt S
  rw [h0, h1, h2, h3, h4, h5, h6, h7]
  have ht : ((((S.h + bits .xor .u32 (bits .xor .u32 (rotr 6 S.e) (rotr 11 S.e)) (rotr 25 S.e)) % 4294967296 + bits .xor .u32 (bits .and .u32 S.e S.f) (bits .and .u32 (bits .xor .u32 4294967295 S.e) S.g)) % 4294967296 + k) % 4294967296 + w) % 4294967296 = tSum S k w := t_sum _ _ _ _ _
  rw [ht]
  rfl
theorem part_next (s m : S8) (k : Nat) (hk : k < 8) : (partS s m k).list.set k ((gt (partS s m k).list k + gt m.list k) % 4294967296) = (partS s m (k + 1)).list := by
  match k, hk with
  | 0, _ | 1, _ | 2, _ | 3, _ | 4, _ | 5, _ | 6, _ | 7, _ => simp [S8.list, partS, addUp, gt]
def outN (S : S8) : Nat → List Int
  | 0 => []
  | k + 1 => outN S k ++ [gt S.list k / 16777216 % 256, gt S.list k / 65536 % 256, gt S.list k / 256 % 256, gt S.list k % 256]
theorem outN_sum (S : S8) : outN S 8 = sumN S 8 := by
  simp [outN, sumN, putNL, byteOf, List.replicate]
end Go.Proofs.YtialfoccalobpaaDoor
