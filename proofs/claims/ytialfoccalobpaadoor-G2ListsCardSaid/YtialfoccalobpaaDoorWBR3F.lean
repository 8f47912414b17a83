/-
  Layer 3's numbers; FrWide, FrReckons: the walks.
-/
import Derived.Test.YtialfoccalobpaaDoorWBR3Z
namespace Go.Proofs.YtialfoccalobpaaDoor
set_option linter.unusedSimpArgs false
set_option linter.unusedVariables false
open Go.RowKit
/-- The cells of an element of the field of the scalars. -/
def frc (x : Int) : Array Value := (fv x).cells
theorem frc_size (x : Int) : (frc x).size = 4 := rfl
theorem frc_one (x : Int) : (frc x).all (·.oneCell') = true := by
  show (#[Value.int .u64 _, .int .u64 _, .int .u64 _, .int .u64 _] : Array Value).all (·.oneCell') = true
  simp [Value.oneCell']
theorem hi_fr (x : Int) : (Tryd.prog.info? 60).map (·.size) = some (frc x).size := by rw [frc_size]; kernel_rfl
theorem frc_zero : frc 0 = #[.int .u64 0, .int .u64 0, .int .u64 0, .int .u64 0] := by
  have e : fv 0 = arr4 0 := by unfold fv; rw [fe_zero]
  rw [frc, e]
  rfl
theorem z_fr : (Tryd.prog.info? 60).map (·.zero) = some (some (.agg (frc 0))) := by rw [frc_zero]; kernel_rfl
def b32c (a : Int) : Array Value := ag8 (lo a 32)
theorem b32c_size (a : Int) : (b32c a).size = 32 := by rw [b32c, ag8_size, lo_len]
theorem b32c_one (a : Int) : (b32c a).all (·.oneCell') = true := ag8_one _
theorem hi_b32 (a : Int) : (Tryd.prog.info? 50).map (·.size) = some (b32c a).size := by rw [b32c_size]; kernel_rfl
theorem z_b32 : (Tryd.prog.info? 50).map (·.zero) = some (some (.agg (b32c 0))) := by kernel_rfl
theorem und_b32 : Tryd.prog.underlying 50 = some (.array 32 5) := by kernel_rfl
structure GloR (w : World) : Prop where
  m : GMr w
  s : GSq w
theorem GloR.keep {w w' : World} (h : GloR w) (hb : Below w.heap.size w w') : GloR w' := ⟨h.m.keep hb, h.s.keep hb⟩
theorem u_add (x y : Int) (w : World) (hG : GloR w) : Rets 33 #[.agg (frc x), .agg (frc y)] w (.agg (frc (x + y))) := fr_add x y w hG.m
theorem u_neg (x : Int) (w : World) (hG : GloR w) : Rets 31 #[.agg (frc x)] w (.agg (frc (-x))) := fr_neg x w hG.m
theorem u_bytes (x : Int) (w : World) (hG : GloR w) : Rets 72 #[.agg (frc x)] w (.agg (b32c (x % Mr))) := fr_bytes x w hG.m
theorem u_wide (A : Option Addr) (L c : Nat) (bs : List Int) (w : World) (hG : GloR w) (hH : GSh w) (hr : Reads w w.heap.size A L (bs.map (Value.int .u8))) (ho : Oct bs) (hLc : L ≤ c) (hc63 : c ≤ 9223372036854775807) :
    Rets 70 #[.slice A L c] w (.agg (frc (num bs))) := fr_wide w hG.m hG.s hH A L c bs hr ho hLc hc63
attribute [local irreducible] wpL wpF fr Code.wp bodyPost
end Go.Proofs.YtialfoccalobpaaDoor
