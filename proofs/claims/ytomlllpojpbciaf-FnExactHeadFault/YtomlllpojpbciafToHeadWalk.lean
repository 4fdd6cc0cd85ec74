/-
  What laws.toHead answers: the same fields.
-/
import Derived.Test.YtomlllpojpbciafProg
import Derived.Test.YtomlllpojpbciafBase
import Derived.WalkKit
import Derived.WalkLawsBesides
namespace Go.Proofs.Ytomlllpojpbciaf
open Go.RowKit

set_option maxHeartbeats 1000000 in
theorem toHead_any (k u i e : Int) (w : World) :
    Calls Try.prog 22 #[.agg #[.int .i64 k, .int .i64 u, .int .i64 i, .int .i64 e]] w fun r w' => r = .returned (.agg #[.int .i64 k, .int .i64 u, .int .i64 i, .int .i64 e]) ∧ Below w.heap.size w w' := by
  go_enter Try.func22, Try.ntmps22
  go_wp2
  refine bodyPost_ret (v := .agg #[.int .i64 k, .int .i64 u, .int .i64 i, .int .i64 e]) (by simp [results, Try.results22, go_sem]) rfl ⟨rfl, ?_⟩
  repeat (first | exact Below.refl _ _ | refine Below.alloc ?_ (by simp <;> omega) _)
end Go.Proofs.Ytomlllpojpbciaf
