/-
  The operations on words: bits.Add64, bits.Sub64, bits.Mul64, as the walks want them.
-/
import Derived.Test.YtclfmdaafpachaaDoorProg
import Derived.Test.YtclfmdaafpachaaDoorMemB
import Derived.Test.YtclfmdaafpachaaDoorMo
import Derived.Laws.Externs
import Derived.Laws.MathBits
import Derived.Shelf.Bits.Mul64
import Derived.Shelf.Spec.BitsCarry
namespace Go.Proofs.YtclfmdaafpachaaDoor
open Go.RowKit
/-- The high word and the low word. -/
def hiW (x : Int) : Int := x / Wd
def loW (x : Int) : Int := x % Wd
theorem hilo (x : Int) : Wd * hiW x + loW x = x := by unfold hiW loW; exact Int.mul_ediv_add_emod x Wd
theorem loW_in (x : Int) : 0 ≤ loW x ∧ loW x < Wd := by unfold loW; simp only [Wd]; omega
theorem wrapU (x : Int) : IntKind.u64.wrap x = loW x := by
  unfold loW Wd
  simp [IntKind.wrap, IntKind.bits, IntKind.signed]
theorem loW_of {x : Int} (h0 : 0 ≤ x) (h : x < Wd) : loW x = x := Int.emod_eq_of_lt h0 h
theorem loW_add (x y : Int) : loW (loW x + y) = loW (x + y) := by unfold loW; exact Int.emod_add_emod x Wd y
theorem loW_mul (x y : Int) : loW (loW x * y) = loW (x * y) := by unfold loW; exact emm x y Wd
theorem hi2 (x y a b : Int) (hx0 : 0 ≤ x) (hx : x < Wd) (hy0 : 0 ≤ y) (hy : y < Wd) (ha0 : 0 ≤ a) (ha : a < Wd) (hb0 : 0 ≤ b) (hb : b < Wd) : 0 ≤ hiW (x * y + a + b) ∧ hiW (x * y + a + b) < Wd := by
  have hp : 0 ≤ x * y := Int.mul_nonneg hx0 hy0
  have hq : x * y ≤ (Wd - 1) * (Wd - 1) := Int.mul_le_mul (by omega) (by omega) hy0 (by simp [Wd])
  unfold hiW Wd at *
  constructor <;> omega
theorem run_addc (x y c : Int) (hx : 0 ≤ x) (hy : 0 ≤ y) (hc0 : 0 ≤ c) (hc : c ≤ 1) (w : World) :
    (callFunc 117 #[.int .u64 x, .int .u64 y, .int .u64 c]).run Tryd.prog w = .ok (.value (.tuple #[.int .u64 (loW (x + y + c)), .int .u64 (hiW (x + y + c))])) w := by
  rw [run_callFunc_extern Tryd.func117 (by kernel_rfl) (by kernel_rfl) (by kernel_rfl) (e := add64Entry) (by kernel_rfl), run_add64 x y c hx hy hc0 hc]
  rfl
theorem run_subc (x y b : Int) (hx : 0 ≤ x) (hy : 0 ≤ y) (hx2 : x < Wd) (hy2 : y < Wd) (hb0 : 0 ≤ b) (hb : b ≤ 1) (w : World) :
    (callFunc 126 #[.int .u64 x, .int .u64 y, .int .u64 b]).run Tryd.prog w = .ok (.value (.tuple #[.int .u64 (loW (x - y - b)), .int .u64 (-hiW (x - y - b))])) w := by
  obtain ⟨X, rfl⟩ := Int.eq_ofNat_of_zero_le hx
  obtain ⟨Y, rfl⟩ := Int.eq_ofNat_of_zero_le hy
  obtain ⟨B, rfl⟩ := Int.eq_ofNat_of_zero_le hb0
  rw [run_callFunc_extern Tryd.func126 (by kernel_rfl) (by kernel_rfl) (by kernel_rfl) (e := sub64Entry) (by kernel_rfl), run_sub64 X Y B (by omega)]
  have e1 : (((X + 18446744073709551616 - Y - B) % 18446744073709551616 : Nat) : Int) = loW ((X : Int) - Y - B) := by
    unfold loW Wd at *
    omega
  have e2 : (((if X < Y + B then 1 else 0 : Nat)) : Int) = -hiW ((X : Int) - Y - B) := by
    unfold hiW Wd at *
    split <;> omega
  rw [e1, e2]
  rfl
theorem addc_ex (x y c : Int) (hx : 0 ≤ x) (hx2 : x < Wd) (hy : 0 ≤ y) (hy2 : y < Wd) (hc0 : 0 ≤ c) (hc : c ≤ 1) :
    ∃ s k, Hid (∀ w, (callFunc 117 #[.int .u64 x, .int .u64 y, .int .u64 c]).run Tryd.prog w = .ok (.value (.tuple #[.int .u64 s, .int .u64 k])) w) ∧ Hid (s + Wd * k = x + y + c) ∧ 0 ≤ s ∧ s < Wd ∧ 0 ≤ k ∧ k ≤ 1 := by
  have h := hilo (x + y + c)
  have h2 := loW_in (x + y + c)
  refine ⟨_, _, Lib.hid (run_addc x y c hx hy hc0 hc), Lib.hid (by omega), h2.1, h2.2, ?_, ?_⟩
  · unfold hiW Wd at *; omega
  · unfold hiW Wd at *; omega
theorem subc_ex (x y b : Int) (hx : 0 ≤ x) (hx2 : x < Wd) (hy : 0 ≤ y) (hy2 : y < Wd) (hb0 : 0 ≤ b) (hb : b ≤ 1) :
    ∃ s k, Hid (∀ w, (callFunc 126 #[.int .u64 x, .int .u64 y, .int .u64 b]).run Tryd.prog w = .ok (.value (.tuple #[.int .u64 s, .int .u64 k])) w) ∧ Hid (s - Wd * k = x - y - b) ∧ 0 ≤ s ∧ s < Wd ∧ 0 ≤ k ∧ k ≤ 1 := by
  have h := hilo (x - y - b)
  have h2 := loW_in (x - y - b)
  refine ⟨_, _, Lib.hid (run_subc x y b hx hy hx2 hy2 hb0 hb), Lib.hid (by rw [Int.mul_neg]; omega), h2.1, h2.2, ?_, ?_⟩
  · unfold hiW Wd at *; omega
  · unfold hiW Wd at *; omega
section
variable {P : Program}
theorem wpList_ext {ops : Array Oper} {rest : List Oper} {dst : Option Tmp} {args : Array Operand} {ats : Array TypeId} {ty : TypeId} {pos : String} {after : Array Edge} {a : Act} {w : World} {Q : Exit → Act → World → Prop}
    {f : FuncId} (vs : Array Value) (v : Value) (hvs : args.map a.eval = vs) (hrun : (callFunc f vs).run P w = .ok (.value v) w) (h : wpList P ops Q rest (a.put dst v) w) :
    wpList P ops Q (⟨dst, .call { callee := .value (.func f), args := args, argTypes := ats }, ty, pos, after, none⟩ :: rest) a w :=
  wpList_plain rfl fun _ hK => by
    have ef : a.eval (.func f) = .func (.func f) #[] #[] := rfl
    unfold Oper.wp execOp
    simp only [resolve, Deferred.ofValue, invoke, ef, hvs, Sem.run_bind, Sem.run_pure, Result.andThen_ok, Array.append_empty, Array.empty_append, hrun]
    exact hK _ _ h
end
set_option maxHeartbeats 1000000 in
theorem mul64_nat (x y : Nat) (hx : x < 18446744073709551616) (hy : y < 18446744073709551616) (w : World) :
    Calls Tryd.prog 127 #[.int .u64 x, .int .u64 y] w fun e w' => e = .returned (.tuple #[.int .u64 ((x * y / 18446744073709551616 : Nat) : Int), .int .u64 ((x * y % 18446744073709551616 : Nat) : Int)]) ∧ w' = w := by
  obtain ⟨bd, bt, bw, hhi⟩ := Lib.mul64_hi x y hx hy
  have ba := Lib.half_mul_le (a := x / 4294967296) (b := y / 4294967296) (by omega) (by omega)
  have bb := Lib.half_mul_le (a := x / 4294967296) (b := y % 4294967296) (by omega) (by omega)
  have bc := Lib.half_mul_le (a := x % 4294967296) (b := y / 4294967296) (by omega) (by omega)
  have ba' : x / 4294967296 * (y / 4294967296) < 18446744073709551616 := by omega
  have bb' : x / 4294967296 * (y % 4294967296) < 18446744073709551616 := by omega
  have bc' : x % 4294967296 * (y / 4294967296) < 18446744073709551616 := by omega
  have bh1 : x / 4294967296 * (y / 4294967296) + (x / 4294967296 * (y % 4294967296) + x % 4294967296 * (y % 4294967296) / 4294967296) / 4294967296 < 18446744073709551616 := by omega
  have bh : x / 4294967296 * (y / 4294967296) + (x / 4294967296 * (y % 4294967296) + x % 4294967296 * (y % 4294967296) / 4294967296) / 4294967296 + ((x / 4294967296 * (y % 4294967296) + x % 4294967296 * (y % 4294967296) / 4294967296) % 4294967296 + x % 4294967296 * (y / 4294967296)) / 4294967296 < 18446744073709551616 := by omega
  go_enter Tryd.func127, Tryd.ntmps127
  go_wp2
  simp only [Mul64.maskN x hx, Mul64.maskN y hy, Mul64.divN, Mul64.mulN, Mul64.addN, Mul64.wrapN _ bd, Mul64.wrapN _ bb', Mul64.wrapN _ bt, Mul64.maskN _ bt, Mul64.wrapN _ bc', Mul64.wrapN _ bw, Mul64.wrapN _ ba', Mul64.wrapN _ bh1, Mul64.wrapN _ bh, Mul64.wrapM (x * y)]
  rw [hhi]
  go_ret2
  exact ⟨rfl, rfl⟩
theorem mul64_any (x y : Int) (w : World) (hx0 : 0 ≤ x) (hx : x < Wd) (hy0 : 0 ≤ y) (hy : y < Wd) :
    Calls Tryd.prog 127 #[.int .u64 x, .int .u64 y] w fun e w' => e = .returned (.tuple #[.int .u64 (hiW (x * y)), .int .u64 (loW (x * y))]) ∧ w = w' := by
  obtain ⟨X, rfl⟩ := Int.eq_ofNat_of_zero_le hx0
  obtain ⟨Y, rfl⟩ := Int.eq_ofNat_of_zero_le hy0
  unfold Wd at hx hy
  refine (mul64_nat X Y (by omega) (by omega) w).mono ?_
  rintro e w' ⟨rfl, rfl⟩
  refine ⟨?_, rfl⟩
  unfold hiW loW Wd
  congr 5
/-- As two letters. -/
theorem mul64_ex (x y : Int) (hx0 : 0 ≤ x) (hx : x < Wd) (hy0 : 0 ≤ y) (hy : y < Wd) :
    ∃ h l, Hid (∀ w, Calls Tryd.prog 127 #[.int .u64 x, .int .u64 y] w fun e w' => e = .returned (.tuple #[.int .u64 h, .int .u64 l]) ∧ w = w') ∧ Hid (Wd * h + l = x * y) ∧ 0 ≤ h ∧ h < Wd ∧ 0 ≤ l ∧ l < Wd := by
  have h1 := loW_in (x * y)
  have hp : 0 ≤ x * y := Int.mul_nonneg hx0 hy0
  have hq : x * y ≤ (Wd - 1) * (Wd - 1) := Int.mul_le_mul (by omega) (by omega) hy0 (by simp [Wd])
  refine ⟨_, _, Lib.hid (fun w => mul64_any x y w hx0 hx hy0 hy), Lib.hid (hilo _), ?_, ?_, h1.1, h1.2⟩
  · unfold hiW Wd at *; omega
  · unfold hiW Wd at *; omega
end Go.Proofs.YtclfmdaafpachaaDoor
