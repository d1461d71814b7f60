import Derived.ProofKit
import Derived.OpenShut
namespace Go.Proofs.YtajaiiidafkijaaDoor
set_option maxRecDepth 100000
open Go Go.ChangeShapes Go.WideShapes Go.ChangeAt Go.RowKit
/-! An array of integers that comes in by value. -/
section
variable {P : Program} {H : Type} {enc : TypeId × Value → H} {w : World}
theorem u8_of_wf {x : Int} (h : (Lit.int .u8 x).wf = true) : 0 ≤ x ∧ x < 256 := by
 have := bounds_u8 h
 omega
end
end Go.Proofs.YtajaiiidafkijaaDoor

