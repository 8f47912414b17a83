/-
  The reference's small functions on numbers: turn, mul, Square, Cube.
-/
import Derived.Test.YtialfoccalobpaaDoorWCShOf
import Derived.Laws.BitsAllLaws
import Derived.Laws.BitsLemmas
namespace Go.Proofs.YtialfoccalobpaaDoor
open Go.RowKit
theorem or32_comm (a b : Int) : bits .or .u32 a b = bits .or .u32 b a := by
  show IntKind.u32.wrap ((BitVec.ofInt _ a ||| BitVec.ofInt _ b).toNat : Int) = IntKind.u32.wrap ((BitVec.ofInt _ b ||| BitVec.ofInt _ a).toNat : Int)
  rw [BitVec.or_comm]
/-- The halves of a product, as the reference finds them. -/
def lo32 (a : Int) : Int := bits .and .u64 a 4294967295
def mLow (a b : Int) : Int := IntKind.u64.wrap (lo32 a * lo32 b)
def mMid (a b : Int) : Int := IntKind.u64.wrap (IntKind.u64.wrap (a / 4294967296 * lo32 b) + mLow a b / 4294967296)
def mNxt (a b : Int) : Int := IntKind.u64.wrap (IntKind.u64.wrap (lo32 a * (b / 4294967296)) + lo32 (mMid a b))
def mHi (a b : Int) : Int := IntKind.u64.wrap (IntKind.u64.wrap (IntKind.u64.wrap (a / 4294967296 * (b / 4294967296)) + mMid a b / 4294967296) + mNxt a b / 4294967296)
def mLo (a b : Int) : Int := bits .or .u64 (IntKind.u64.wrap (mNxt a b * 4294967296)) (lo32 (mLow a b))
theorem u64_in (x : Int) : 0 ≤ IntKind.u64.wrap x ∧ IntKind.u64.wrap x < 18446744073709551616 := by
  rw [IntKind.wrap_u64]
  omega
theorem mHi_in (a b : Int) : 0 ≤ mHi a b ∧ mHi a b < 18446744073709551616 := u64_in _
theorem mLo_in (a b : Int) : 0 ≤ mLo a b ∧ mLo a b < 18446744073709551616 := u64_in _
set_option maxRecDepth 100000 in
theorem mul_any (w : World) (a b : Int) (_ha : 0 ≤ a) (_ha2 : a < 18446744073709551616) (_hb : 0 ≤ b) (_hb2 : b < 18446744073709551616) : Calls Tryd.prog 118 #[.int .u64 a, .int .u64 b] w fun e w' => e = .returned (.tuple #[.int .u64 (mHi a b), .int .u64 (mLo a b)]) ∧ w = w' := by
  go_enter Tryd.func118, Tryd.ntmps118
  go_wp2_with fail
  go_ret2
  exact ⟨rfl, rfl⟩
def bitY (x : Int) (b : Nat) : Int := bits .or .u64 x (IntKind.u64.wrap (2 ^ b))
def sqOk (p y : Int) : Bool := decide (mHi y y < p) || (decide (mHi y y = p) && decide (mLo y y = 0))
def sqX (p : Int) : Nat → Int
  | 0 => 0
  | k + 1 => if sqOk p (bitY (sqX p k) (40 - k)) = true then bitY (sqX p k) (40 - k) else sqX p k
theorem bitY_in (x : Int) (b : Nat) : 0 ≤ bitY x b ∧ bitY x b < 18446744073709551616 := u64_in _
theorem sqX_in (p : Int) (k : Nat) : 0 ≤ sqX p k ∧ sqX p k < 18446744073709551616 := by
  induction k with
  | zero => simp [sqX]
  | succ k ih =>
    simp only [sqX]
    split
    · exact bitY_in _ _
    · exact ih
set_option maxRecDepth 100000 in
theorem square_any (w : World) (p : Int) (hp : 0 ≤ p) (hp2 : p < 18446744073709551616) : Calls Tryd.prog 65 #[.int .u64 p] w fun e w' => e = .returned (.int .u32 (sqX p 41 % 4294967296)) ∧ w = w' := by
  go_enter Tryd.func65, Tryd.ntmps65
  go_wp2_with fail
  go_loopw [3, 4] (fun x i wr => ∃ k : Nat, k ≤ 41 ∧ i = .int .i64 (40 - (k : Int)) ∧ x = .int .u64 (sqX p k) ∧ w = wr) (fun _ i _ => (intOf i + 1).toNat)
  case atStart => exact ⟨0, by omega, rfl, rfl, rfl⟩
  case round =>
    obtain ⟨k, hk, rfl, rfl, rfl⟩ := hrel
    obtain ⟨X, hX⟩ : ∃ X, X = sqX p k := ⟨_, rfl⟩
    have hx := sqX_in p k
    rw [← hX] at hx ⊢
    obtain ⟨x1, x2⟩ := hx
    by_cases hlt : k ≤ 40
    · obtain ⟨b, hb⟩ : ∃ b : Nat, b = 40 - k := ⟨_, rfl⟩
      have hnx : sqX p (k + 1) = if sqOk p (bitY X b) = true then bitY X b else X := by rw [hX, hb]; rfl
      have e1 : (40 : Int) - k = (b : Int) := by omega
      have hb40 : b ≤ 40 := by omega
      have hkb : 40 - ((k + 1 : Nat) : Int) = (b : Int) - 1 := by omega
      have HX := Lib.hid hX
      have HB := Lib.hid hb
      have HN := Lib.hid hnx
      have HK := Lib.hid hkb
      clear hX hb hnx hkb
      rw [e1]
      clear e1 hk
      have j1 : decide ((0 : Int) ≤ (b : Int)) = true := by simp
      go_wp2_with fail
      obtain ⟨Y, hY⟩ : ∃ Y, Y = bitY X b := ⟨_, rfl⟩
      have hy := bitY_in X b
      change Calls Tryd.prog 118 #[.int .u64 (bitY X b), .int .u64 (bitY X b)] _ _
      rw [← hY] at hy HN
      simp only [show bits BinOp.or IntKind.u64 X (IntKind.u64.wrap (2 ^ b)) = Y from hY.symm]
      rw [← hY]
      obtain ⟨y1, y2⟩ := hy
      clear hY
      refine (mul_any _ Y Y y1 y2 y1 y2).mono ?_
      rintro e w1 ⟨rfl, rfl⟩
      obtain ⟨⟨h1, h2⟩, ⟨l1, l2⟩⟩ := And.intro (mHi_in Y Y) (mLo_in Y Y)
      have hok : sqOk p Y = (decide (mHi Y Y < p) || (decide (mHi Y Y = p) && decide (mLo Y Y = 0))) := rfl
      have HOK := Lib.hid hok
      clear hok
      generalize mHi Y Y = hi at *
      generalize mLo Y Y = lo at *
      by_cases c1 : hi < p
      · have d1 : decide (hi < p) = true := by simpa using c1
        go_wp2_with fail
        exact ⟨⟨k + 1, by omega, by rw [HK.out], by rw [HN.out, HOK.out]; simp [c1], by trivial⟩, by simp [intOf]⟩
      · have d1 : decide (hi < p) = false := by simpa using c1
        by_cases c2 : hi = p
        · subst c2
          by_cases c3 : lo = 0
          · subst c3
            go_wp2_with fail
            exact ⟨⟨k + 1, by omega, by rw [HK.out], by rw [HN.out, HOK.out]; simp, by trivial⟩, by simp [intOf]⟩
          · go_wp2_with fail
            exact ⟨⟨k + 1, by omega, by rw [HK.out], by rw [HN.out, HOK.out]; simp [c3], by trivial⟩, by simp [intOf]⟩
        · go_wp2_with fail
          exact ⟨⟨k + 1, by omega, by rw [HK.out], by rw [HN.out, HOK.out, d1]; simp [c2], by trivial⟩, by simp [intOf]⟩
    · have j1 : decide ((0 : Int) ≤ 40 - (k : Int)) = false := by
        simp only [decide_eq_false_iff_not]
        omega
      obtain rfl : k = 41 := by omega
      go_wp2_with fail
      go_ret
      exact ⟨by rw [hX]; rfl, rfl⟩
def cbMid (y : Int) : Int := IntKind.u64.wrap (mLo (mHi y y) y + mHi (mLo y y) y)
def cbTop (y : Int) : Int := if cbMid y < mLo (mHi y y) y then IntKind.u64.wrap (mHi (mHi y y) y + 1) else mHi (mHi y y) y
def cbOk (p y : Int) : Bool := decide (cbTop y = 0) && (decide (cbMid y < p * 4294967296) || (decide (cbMid y = p * 4294967296) && decide (mLo (mLo y y) y = 0)))
def cbX (p : Int) : Nat → Int
  | 0 => 0
  | k + 1 => if cbOk p (bitY (cbX p k) (36 - k)) = true then bitY (cbX p k) (36 - k) else cbX p k
theorem cbX_in (p : Int) (k : Nat) : 0 ≤ cbX p k ∧ cbX p k < 18446744073709551616 := by
  induction k with
  | zero => simp [cbX]
  | succ k ih =>
    simp only [cbX]
    split
    · exact bitY_in _ _
    · exact ih
set_option maxRecDepth 100000 in
set_option maxHeartbeats 1000000 in
theorem cube_any (w : World) (p : Int) (hp : 0 ≤ p) (hp2 : p < 4294967296) : Calls Tryd.prog 64 #[.int .u64 p] w fun e w' => e = .returned (.int .u32 (cbX p 37 % 4294967296)) ∧ w = w' := by
  go_enter Tryd.func64, Tryd.ntmps64
  go_wp2_with fail
  go_loopw [3, 4] (fun x i wr => ∃ k : Nat, k ≤ 37 ∧ i = .int .i64 (36 - (k : Int)) ∧ x = .int .u64 (cbX p k) ∧ w = wr) (fun _ i _ => (intOf i + 1).toNat)
  case atStart => exact ⟨0, by omega, rfl, rfl, rfl⟩
  case round =>
    obtain ⟨k, hk, rfl, rfl, rfl⟩ := hrel
    obtain ⟨X, hX⟩ : ∃ X, X = cbX p k := ⟨_, rfl⟩
    have hx := cbX_in p k
    rw [← hX] at hx ⊢
    obtain ⟨x1, x2⟩ := hx
    by_cases hlt : k ≤ 36
    · obtain ⟨b, hb⟩ : ∃ b : Nat, b = 36 - k := ⟨_, rfl⟩
      have hnx : cbX p (k + 1) = if cbOk p (bitY X b) = true then bitY X b else X := by rw [hX, hb]; rfl
      have e1 : (36 : Int) - k = (b : Int) := by omega
      have hb40 : b ≤ 36 := by omega
      have hkb : 36 - ((k + 1 : Nat) : Int) = (b : Int) - 1 := by omega
      have HX := Lib.hid hX
      have HB := Lib.hid hb
      have HN := Lib.hid hnx
      have HK := Lib.hid hkb
      clear hX hb hnx hkb
      rw [e1]
      clear e1 hk
      have j1 : decide ((0 : Int) ≤ (b : Int)) = true := by simp
      go_wp2_with fail
      obtain ⟨Y, hY⟩ : ∃ Y, Y = bitY X b := ⟨_, rfl⟩
      have hy := bitY_in X b
      change Calls Tryd.prog 118 #[.int .u64 (bitY X b), .int .u64 (bitY X b)] _ _
      rw [← hY] at hy HN
      simp only [show bits BinOp.or IntKind.u64 X (IntKind.u64.wrap (2 ^ b)) = Y from hY.symm]
      rw [← hY]
      obtain ⟨y1, y2⟩ := hy
      clear hY
      refine (mul_any _ Y Y y1 y2 y1 y2).mono ?_
      rintro e w1 ⟨rfl, rfl⟩
      obtain ⟨⟨h1, h2⟩, ⟨l1, l2⟩⟩ := And.intro (mHi_in Y Y) (mLo_in Y Y)
      have hok : cbOk p Y = (decide (cbTop Y = 0) && (decide (cbMid Y < p * 4294967296) || (decide (cbMid Y = p * 4294967296) && decide (mLo (mLo Y Y) Y = 0)))) := rfl
      have htp : cbTop Y = if IntKind.u64.wrap (mLo (mHi Y Y) Y + mHi (mLo Y Y) Y) < mLo (mHi Y Y) Y then IntKind.u64.wrap (mHi (mHi Y Y) Y + 1) else mHi (mHi Y Y) Y := rfl
      have hmd : cbMid Y = IntKind.u64.wrap (mLo (mHi Y Y) Y + mHi (mLo Y Y) Y) := rfl
      rw [htp, hmd] at hok
      clear htp hmd
      have HOK := Lib.hid hok
      clear hok
      generalize mHi Y Y = hi at *
      generalize mLo Y Y = lo at *
      go_wp2_with fail
      refine (mul_any _ lo Y l1 l2 y1 y2).mono ?_
      rintro e w1 ⟨rfl, rfl⟩
      obtain ⟨⟨h3, h4⟩, ⟨l3, l4⟩⟩ := And.intro (mHi_in lo Y) (mLo_in lo Y)
      generalize mHi lo Y = ma at *
      generalize mLo lo Y = mb at *
      go_wp2_with fail
      refine (mul_any _ hi Y h1 h2 y1 y2).mono ?_
      rintro e w1 ⟨rfl, rfl⟩
      obtain ⟨⟨h5, h6⟩, ⟨l5, l6⟩⟩ := And.intro (mHi_in hi Y) (mLo_in hi Y)
      generalize mHi hi Y = mc at *
      generalize mLo hi Y = md at *
      by_cases m1 : IntKind.u64.wrap (md + ma) < md
      all_goals
        first
          | (have d0 : decide (IntKind.u64.wrap (md + ma) < md) = true := by simpa using m1)
          | (have d0 : decide (IntKind.u64.wrap (md + ma) < md) = false := by simpa using m1)
        have hq := HOK.out
        first
          | rw [if_pos m1] at hq
          | rw [if_neg m1] at hq
        have HQ := Lib.hid hq
        clear hq
        go_wp2_with fail
      all_goals
        refine ⟨⟨k + 1, by omega, by rw [HK.out], ?_, trivial⟩, by simp [intOf]⟩
        have hq := HQ.out
        rw [HN.out]
        first
          | (have ht : cbOk p Y = true := by
               rw [hq]
               simp only [beq_iff_eq, beq_eq_false_iff_ne, ne_eq, Bool.and_eq_true, Bool.or_eq_true, decide_eq_true_eq] at *
               omega
             rw [if_pos ht])
          | (have ht : ¬ (cbOk p Y = true) := by
               rw [hq]
               simp only [beq_eq_false_iff_ne, ne_eq, Bool.and_eq_true, Bool.or_eq_true, decide_eq_true_eq] at *
               omega
             rw [if_neg ht])
    · have j1 : decide ((0 : Int) ≤ 36 - (k : Int)) = false := by
        simp only [decide_eq_false_iff_not]
        omega
      obtain rfl : k = 37 := by omega
      go_wp2_with fail
      go_ret
      exact ⟨by rw [hX]; rfl, rfl⟩
end Go.Proofs.YtialfoccalobpaaDoor
