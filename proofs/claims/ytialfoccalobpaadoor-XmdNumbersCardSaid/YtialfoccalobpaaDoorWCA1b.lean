/-
  FpS, FpBased, FpR, FpQ, in one text.
-/
import Derived.Test.YtialfoccalobpaaDoorWCA1
import Derived.Test.YtialfoccalobpaaDoorWCA0
/-! ## FpS -/
namespace Go.Proofs.YtialfoccalobpaaDoor
open Go.RowKit
end Go.Proofs.YtialfoccalobpaaDoor

/-! ## FpBased -/
namespace Go.Proofs.YtialfoccalobpaaDoor
open Go.RowKit
theorem pv_zero : arr6 0 = pv 0 := by unfold pv; rw [pe_zero]
end Go.Proofs.YtialfoccalobpaaDoor

/-! ## FpR -/
namespace Go.Proofs.YtialfoccalobpaaDoor
open Go.RowKit
end Go.Proofs.YtialfoccalobpaaDoor

/-! ## FpQ -/
namespace Go.Proofs.YtialfoccalobpaaDoor
open Go.RowKit
end Go.Proofs.YtialfoccalobpaaDoor
