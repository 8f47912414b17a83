/-
  fr: == as an operation; what the fields' numbers do (inverse); head.
-/
import Derived.Test.YtclfmdaafpachaaDoorFrK
import Derived.Test.YtclfmdaafpachaaDoorPr
namespace Go.Proofs.YtclfmdaafpachaaDoor
open Go.RowKit
theorem pow_emod (x M : Int) (n : Nat) : x ^ n % M = (x % M) ^ n % M := by
  induction n with
  | zero => simp
  | succ n ih => rw [Int.pow_succ, Int.pow_succ, Int.mul_emod, ih, ← Int.mul_emod, mem']
theorem little_int {p : Nat} (hp : Pr p) (x : Int) (hx : x % (p : Int) ≠ 0) : x ^ (p - 1) % (p : Int) = 1 := by
  have h0 : (p : Int) ≠ 0 := by have := hp.1; omega
  obtain ⟨y, hy⟩ := Int.eq_ofNat_of_zero_le (Int.emod_nonneg x h0)
  rw [pow_emod, hy]
  have hd : ¬ p ∣ y := by
    intro h
    have hlt := Int.emod_lt_of_pos x (by have := hp.1; omega : (0 : Int) < p)
    obtain ⟨k, rfl⟩ := h
    rcases Nat.eq_zero_or_pos k with rfl | hk
    · simp at hy; exact hx hy
    · have : p * 1 ≤ p * k := Nat.mul_le_mul_left p hk
      omega
  have h := hp.little y hd
  have h2 : (((y ^ (p - 1) % p : Nat)) : Int) = 1 := by rw [h]; rfl
  rwa [Int.natCast_emod, Int.natCast_pow] at h2
theorem inv_ok (x : Int) (hx : x % Mr ≠ 0) : x * x ^ Er % Mr = 1 % Mr := by
  have h := little_int pr_r x hx
  have e : x * x ^ Er = x ^ (Er + 1) := by rw [Int.pow_succ, Int.mul_comm]
  rw [e]
  have e2 : Er + 1 = 52435875175126190479447740508185965837690552500527637822603658699938581184513 - 1 := by simp [Er]
  rw [e2]
  exact h.trans (by decide)
theorem emod_mul_cast {a b c M : Int} (h : a % M = b % M) : a * c % M = b * c % M := by rw [Int.mul_emod, h, ← Int.mul_emod]
theorem inv_unit (x : Int) (hx : x % Mr ≠ 0) : x ^ Er % Mr ≠ 0 := by
  intro h
  have h1 := inv_ok x hx
  rw [← mem', h, Int.mul_zero, Int.zero_emod] at h1
  exact absurd h1 (by decide)
theorem inv_inv (x : Int) (hx : x % Mr ≠ 0) : (x ^ Er) ^ Er % Mr = x % Mr := by
  have h1 := inv_ok x hx
  have h2 := inv_ok (x ^ Er) (inv_unit x hx)
  generalize (x ^ Er) ^ Er = b at *
  generalize x ^ Er = a at *
  have h3 : x * (a * b) % Mr = x % Mr := by rw [← mem', h2, mem', Int.mul_one]
  rw [← Int.mul_assoc, ← emm, h1, emm, Int.one_mul] at h3
  exact h3
theorem fv_same (x y : Int) (h : x % Mr = y % Mr) (w : World) : (Op.equalIn 9999 26 (.agg #[.int .u64 (wd (fe Mr (Wd ^ 4) x) 0), .int .u64 (wd (fe Mr (Wd ^ 4) x) 1), .int .u64 (wd (fe Mr (Wd ^ 4) x) 2), .int .u64 (wd (fe Mr (Wd ^ 4) x) 3)]) (.agg #[.int .u64 (wd (fe Mr (Wd ^ 4) y) 0), .int .u64 (wd (fe Mr (Wd ^ 4) y) 1), .int .u64 (wd (fe Mr (Wd ^ 4) y) 2), .int .u64 (wd (fe Mr (Wd ^ 4) y) 3)])).run Tryd.prog w = .ok true w := by
  have e := fv_eq x y w
  rw [decide_eq_true h] at e
  exact e
theorem fv_unlike (x y : Int) (h : ¬ x % Mr = y % Mr) (w : World) : (Op.equalIn 9999 26 (.agg #[.int .u64 (wd (fe Mr (Wd ^ 4) x) 0), .int .u64 (wd (fe Mr (Wd ^ 4) x) 1), .int .u64 (wd (fe Mr (Wd ^ 4) x) 2), .int .u64 (wd (fe Mr (Wd ^ 4) x) 3)]) (.agg #[.int .u64 (wd (fe Mr (Wd ^ 4) y) 0), .int .u64 (wd (fe Mr (Wd ^ 4) y) 1), .int .u64 (wd (fe Mr (Wd ^ 4) y) 2), .int .u64 (wd (fe Mr (Wd ^ 4) y) 3)])).run Tryd.prog w = .ok false w := by
  have e := fv_eq x y w
  rw [decide_eq_false h] at e
  exact e
theorem fv_nought (x : Int) (h : ¬ x % Mr = 0) (w : World) : (Op.equalIn 9999 26 (.agg #[.int .u64 (wd (fe Mr (Wd ^ 4) x) 0), .int .u64 (wd (fe Mr (Wd ^ 4) x) 1), .int .u64 (wd (fe Mr (Wd ^ 4) x) 2), .int .u64 (wd (fe Mr (Wd ^ 4) x) 3)]) (.agg #[.int .u64 0, .int .u64 0, .int .u64 0, .int .u64 0])).run Tryd.prog w = .ok false w := by
  have e := fv_eq x 0 w
  rw [decide_eq_false (by simpa using h)] at e
  unfold fv at e
  rw [fe_zero] at e
  exact e
theorem fv_isNought (x : Int) (h : x % Mr = 0) (w : World) : (Op.equalIn 9999 26 (.agg #[.int .u64 (wd (fe Mr (Wd ^ 4) x) 0), .int .u64 (wd (fe Mr (Wd ^ 4) x) 1), .int .u64 (wd (fe Mr (Wd ^ 4) x) 2), .int .u64 (wd (fe Mr (Wd ^ 4) x) 3)]) (.agg #[.int .u64 0, .int .u64 0, .int .u64 0, .int .u64 0])).run Tryd.prog w = .ok true w := by
  have e := fv_eq x 0 w
  rw [decide_eq_true (by simpa using h)] at e
  unfold fv at e
  rw [fe_zero] at e
  exact e
theorem head_bytes : ∃ l : List Int, l = lo (-1 % Mr) 32 ∧ gt l 0 = 115 ∧ gt l 28 = 0 ∧ gt l 27 = 255 ∧ l.length = 32 :=
  ⟨_, rfl, by decide +kernel, by decide +kernel, by decide +kernel, lo_len _ _⟩
theorem two_inv : (2 * 2 ^ Er : Int) % Mr = 1 % Mr := inv_ok 2 (by decide)
set_option maxRecDepth 100000 in
set_option maxHeartbeats 4000000 in
theorem fr_head (w : World) (hG : GMr w) (hS : GSq w) :
    Calls Tryd.prog 22 #[] w fun e w' => e = .returned (.bool true) ∧ Below w.heap.size w w' := by
  have HG := Lib.hid hG
  have HS := Lib.hid hS
  clear hG hS
  have hinv := fr_inv 2
  have htwo := two_inv
  obtain ⟨i2, hi2⟩ : ∃ i, i = (2 : Int) ^ Er := ⟨_, rfl⟩
  rw [← hi2] at hinv htwo
  have HINV := Lib.hid hinv
  have HTWO := Lib.hid htwo
  clear hi2 hinv htwo
  obtain ⟨L, hL, l0, l28, l27, ll⟩ := head_bytes
  have hby := fr_bytes (-1)
  rw [← hL] at hby
  obtain ⟨D, hD⟩ : ∃ D, D = ag8 L := ⟨_, rfl⟩
  rw [← hD] at hby
  have d0 : D[0]? = some (Value.int .u8 115) := by rw [hD, ag8_at L 0 (by omega), l0]
  have d28 : D[28]? = some (Value.int .u8 0) := by rw [hD, ag8_at L 28 (by omega), l28]
  have d27 : D[27]? = some (Value.int .u8 255) := by rw [hD, ag8_at L 27 (by omega), l27]
  have hDz : D.size = 32 := by rw [hD, ag8_size, ll]
  have hDi : (Tryd.prog.info? 109).map (·.size) = some D.size := by rw [hDz]; kernel_rfl
  have hD1 : D.all (·.oneCell') = true := by rw [hD]; exact ag8_one _
  have HBY := Lib.hid hby
  have D0 := Lib.hid d0
  have D28 := Lib.hid d28
  have D27 := Lib.hid d27
  have DZ := Lib.hid hDz
  have DI := Lib.hid hDi
  have D1 := Lib.hid hD1
  clear hL l0 l28 l27 ll hby hD d0 d28 d27 hDz hDi hD1
  obtain ⟨Z, hZ⟩ : ∃ Z, Z = ag8 (List.replicate 32 0) := ⟨_, rfl⟩
  have hz52 : ∀ W : World, (zeroValue 109).run Tryd.prog W = .ok (.agg Z) W := fun W => by rw [hZ]; exact zero52 W
  have hZz : Z.size = 32 := by rw [hZ, ag8_size]; simp
  have ZZ := Lib.hid hZz
  clear hZ hZz
  go_enter Tryd.func22, Tryd.ntmps22
  go_wp2_with fail
  refine (fr_of 1 _ HG.out HS.out (by omega) (by simp [Wd])).mono ?_
  rintro e w1 ⟨rfl, hb⟩
  have B1 := Lib.hid hb
  clear hb
  go_wp2_with fail
  refine (fr_neg 1 _ (HG.out.keep B1.out)).mono ?_
  rintro e w2 ⟨rfl, hb⟩
  have B2 := Lib.hid (B1.out.trans (hb.mono B1.out.size))
  clear hb B1
  go_wp2_with fail
  refine (HBY.out _ (HG.out.keep B2.out)).mono ?_
  rintro e w3 ⟨rfl, hb⟩
  have B3 := Lib.hid (B2.out.trans (hb.mono B2.out.size))
  clear hb B2
  go_wp2_with (((with_reducible refine wpList_store_at (ty := 109) (x := .tmp 1) (y := .tmp 4) w3.heap.size 0 109 Z D ?_ ?_ ?_ DI.out ?_ D1.out ?_); exact rfl; exact rfl; exact Blk.new w3 _ _; exact (by rw [DZ.out, ZZ.out]; omega); intro w4 HB4 HG4))
  have K4 : Hid (Blk w4 w3.heap.size 109 D) := Lib.hid (HB4.out.cast (by rw [splice_all _ _ (by rw [Array.length_toList, Array.length_toList, DZ.out, ZZ.out]), Array.toArray_toList]))
  have B4 : Hid (Below w.heap.size w w4) := Lib.hid ((B3.out.alloc B3.out.size _).grown HG4.out (by have := B3.out.size; simp; omega) (fun i hi => by cases hi; exact B3.out.size))
  obtain ⟨gd, hgd⟩ : ∃ g, g = w3.heap.size := ⟨_, rfl⟩
  rw [← hgd] at K4 ⊢
  clear HB4 HG4 hgd B3
  refine (fr_of 2 _ (HG.out.keep B4.out) (HS.out.keep B4.out) (by omega) (by simp [Wd])).mono ?_
  rintro e w5 ⟨rfl, hb⟩
  have B5 := Lib.hid (B4.out.trans (hb.mono B4.out.size))
  have K5 := Lib.hid (K4.out.keep hb)
  clear hb B4 K4
  go_wp2_with fail
  refine (fr_of 2 _ (HG.out.keep B5.out) (HS.out.keep B5.out) (by omega) (by simp [Wd])).mono ?_
  rintro e w6 ⟨rfl, hb⟩
  have B6 := Lib.hid (B5.out.trans (hb.mono B5.out.size))
  have K6 := Lib.hid (K5.out.keep hb)
  clear hb B5 K5
  go_wp2_with fail
  refine (HINV.out _ (HG.out.keep B6.out) (HS.out.keep B6.out)).mono ?_
  rintro e w7 ⟨rfl, hb⟩
  have B7 := Lib.hid (B6.out.trans (hb.mono B6.out.size))
  have K7 := Lib.hid (K6.out.keep hb)
  clear hb B6 K6
  go_wp2_with fail
  refine (fr_mul 2 i2 _ (HG.out.keep B7.out)).mono ?_
  rintro e w8 ⟨rfl, hb⟩
  have B8 := Lib.hid (B7.out.trans (hb.mono B7.out.size))
  have K8 := Lib.hid (K7.out.keep hb)
  clear hb B7 K7
  go_wp2_with fail
  refine (fr_of 1 _ (HG.out.keep B8.out) (HS.out.keep B8.out) (by omega) (by simp [Wd])).mono ?_
  rintro e w9 ⟨rfl, hb⟩
  have B9 := Lib.hid (B8.out.trans (hb.mono B8.out.size))
  have K9 := Lib.hid (K8.out.keep hb)
  clear hb B8 K8
  have q1 := fv_same (2 * i2) 1 HTWO.out
  have q2 := fv_nought 1 (by decide)
  have c0 := K9.out.at_ D0.out
  have c28 := K9.out.at_ D28.out
  have c27 := K9.out.at_ D27.out
  unfold fv arr4
  go_wp2_with fail
  refine (fr_of 1 _ (HG.out.keep B9.out) (HS.out.keep B9.out) (by omega) (by simp [Wd])).mono ?_
  rintro e w10 ⟨rfl, hb⟩
  have B10 := Lib.hid (B9.out.trans (hb.mono B9.out.size))
  have K10 := Lib.hid (K9.out.keep hb)
  clear hb B9 K9
  unfold fv arr4
  go_wp2_with fail
  go_ret
  exact ⟨rfl, B10.out⟩
end Go.Proofs.YtclfmdaafpachaaDoor
