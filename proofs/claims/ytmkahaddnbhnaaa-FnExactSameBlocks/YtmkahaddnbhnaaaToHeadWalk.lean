/-
  What laws.toHead answers: the same fields.
-/
import Derived.Test.YtmkahaddnbhnaaaProg
import Derived.Test.YtmkahaddnbhnaaaBase
import Derived.WalkKit
import Derived.WalkLawsBesides
namespace Go.Proofs.Ytmkahaddnbhnaaa
open Go.RowKit

set_option maxHeartbeats 1000000 in
theorem toHead_any (k u i e : Int) (w : World) :
    Calls Try.prog 100 #[.agg #[.int .i64 k, .int .i64 u, .int .i64 i, .int .i64 e]] w fun r w' => r = .returned (.agg #[.int .i64 k, .int .i64 u, .int .i64 i, .int .i64 e]) ∧ Below w.heap.size w w' := by
  go_enter Try.func100, Try.ntmps100
  go_wp2
  refine bodyPost_ret (v := .agg #[.int .i64 k, .int .i64 u, .int .i64 i, .int .i64 e]) (by simp [results, Try.results100, go_sem]) rfl ⟨rfl, ?_⟩
  repeat (first | exact Below.refl _ _ | refine Below.alloc ?_ (by simp <;> omega) _)
end Go.Proofs.Ytmkahaddnbhnaaa
