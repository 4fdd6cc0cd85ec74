/-
  What laws.toHead answers: the same fields.
-/
import Derived.Test.YtomlllpojpbciagProg
import Derived.Test.YtomlllpojpbciagBase
import Derived.WalkKit
import Derived.WalkLawsBesides
namespace Go.Proofs.Ytomlllpojpbciag
open Go.RowKit

set_option maxHeartbeats 1000000 in
theorem toHead_any (k u i e : Int) (w : World) :
    Calls Try.prog 6 #[.agg #[.int .i64 k, .int .i64 u, .int .i64 i, .int .i64 e]] w fun r w' => r = .returned (.agg #[.int .i64 k, .int .i64 u, .int .i64 i, .int .i64 e]) ∧ Below w.heap.size w w' := by
  go_enter Try.func6, Try.ntmps6
  go_wp2
  refine bodyPost_ret (v := .agg #[.int .i64 k, .int .i64 u, .int .i64 i, .int .i64 e]) (by simp [results, Try.results6, go_sem]) rfl ⟨rfl, ?_⟩
  repeat (first | exact Below.refl _ _ | refine Below.alloc ?_ (by simp <;> omega) _)
end Go.Proofs.Ytomlllpojpbciag
