/-
  A number within its bounds (no Go in sight).
-/
import Derived.Test.YtiopofemelninaaDoorBase
import Derived.WalkKit
namespace Go.Proofs.YtiopofemelninaaDoor
open Go.RowKit

/-- 'lo' to 'hi'. -/
def inB (v lo hi : Int) : Bool := decide (lo ≤ v) && decide (v ≤ hi)
theorem inB_true {v lo hi : Int} : inB v lo hi = true ↔ lo ≤ v ∧ v ≤ hi := by simp [inB]
theorem inB_false {v lo hi : Int} : inB v lo hi = false ↔ ¬ (lo ≤ v ∧ v ≤ hi) := by
  rw [← inB_true]; simp

end Go.Proofs.YtiopofemelninaaDoor
