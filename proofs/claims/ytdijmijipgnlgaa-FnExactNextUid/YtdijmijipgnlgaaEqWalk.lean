/-
  What the laws' own comparisons answer at two answers that are the same: true.
-/
import Derived.Test.YtdijmijipgnlgaaProg
import Derived.Test.YtdijmijipgnlgaaBase
import Derived.WalkKit
import Derived.WalkLawsBesides
namespace Go.Proofs.Ytdijmijipgnlgaa
open Go.RowKit

set_option maxHeartbeats 1000000 in
theorem eqIntResult_same (a b : Int) (w : World) :
    Calls Try.prog 70 #[.agg #[.int .i64 a, .int .i64 b], .agg #[.int .i64 a, .int .i64 b]] w fun r w' => r = .returned (.bool true) ∧ Below w.heap.size w w' := by
  have h1 := int_neq_self a
  have h2 := int_neq_self b
  go_enter Try.func70, Try.ntmps70
  go_wp2
  go_ret
  refine ⟨rfl, ?_⟩
  repeat (first | exact Below.refl _ _ | refine Below.alloc ?_ (by simp <;> omega) _ | refine Below.setCell ?_ (by simp <;> omega) _ | refine below_drewN ?_ _)

end Go.Proofs.Ytdijmijipgnlgaa
