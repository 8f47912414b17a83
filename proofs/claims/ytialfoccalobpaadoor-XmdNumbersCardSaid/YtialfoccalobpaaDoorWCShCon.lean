/-
  The constants that the reference reckons are those that the document lists.
-/
import Derived.Test.YtialfoccalobpaaDoorWCShOwn
import Derived.Test.YtialfoccalobpaaDoorWCShNum
import Derived.Test.YtialfoccalobpaaDoorWCShStr
namespace Go.Proofs.YtialfoccalobpaaDoor
open Go.RowKit
theorem cb_all : ∀ i : Fin 64, cbX (gt (sv 310) i.val) 37 % 4294967296 = gt factorsL i.val := by decide +kernel
theorem sq_all : ∀ i : Fin 8, sqX (gt (sv 310) i.val) 41 % 4294967296 = gt [startS.a, startS.b, startS.c, startS.d, startS.e, startS.f, startS.g, startS.h] i.val := by decide +kernel
end Go.Proofs.YtialfoccalobpaaDoor
