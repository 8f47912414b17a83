/-
  FpReads: the walk; Read of bytes that are no number.
-/
import Derived.Test.YtialfoccalobpaaDoorWDR3Z
namespace Go.Proofs.YtialfoccalobpaaDoor
open Go.RowKit
end Go.Proofs.YtialfoccalobpaaDoor
namespace Go.Proofs.YtialfoccalobpaaDoor
set_option linter.unusedSimpArgs false
set_option linter.unusedVariables false
open Go.RowKit
theorem u8_zs : (Tryd.prog.info? 5).map (fun i => (i.zero, i.size)) = some (some (.int .u8 0), 1) := by kernel_rfl
section
variable {ops : Array Oper} {late : List Nat} {R : Act → World → Prop} {v : World} {L L0 : List (Nat × TypeId × Array Value)} {n : Nat} {sl : List (Nat × Value)}
theorem wpOp_runG {P : Program} {Q : Exit → Act → World → Prop} {i : Nat} {o : Oper} {a : Act} {w w' : World} {u : Value} {K : Act → World → Prop} (hi : ops[i]? = some o) (hw : Region.wanted o (yielded ops a.tmps) = true)
    (hrun : (execOp a.eval o).run P w = .ok (.value u) w') (hK : K (a.put o.dst u) w') : Go.wpOp P ops Q i K a w := by
  unfold Go.wpOp
  simp only [hi]
  simp only [hw, if_true]
  refine .inl ?_
  unfold Oper.wp
  rw [hrun]
  exact hK
end
section
variable {P : Program} {S : World → Prop}
end
theorem v_read_ok (A : Option Addr) (c : Nat) (bs : List Int) (w : World) (hG : Glo w) (hr : Reads w w.heap.size A 48 (bs.map (Value.int .u8))) (ho : Oct bs) (hc : 48 ≤ c) (h : num bs < Mp) : Rets 71 #[.slice A 48 c] w (.tuple #[.agg (pc (Fp.n (num bs))), .int .i64 0]) := by
  have h := fp_read_ok w hG.m hG.s A c bs hr ho hc h
  rw [pv_n] at h
  exact h
end Go.Proofs.YtialfoccalobpaaDoor
