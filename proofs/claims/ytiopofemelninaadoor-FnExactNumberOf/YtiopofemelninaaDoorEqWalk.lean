/-
  What the laws' own comparisons answer at two answers that are the same: true.
-/
import Derived.Test.YtiopofemelninaaDoorProg
import Derived.Test.YtiopofemelninaaDoorBase
import Derived.WalkKit
import Derived.WalkLawsBesides
namespace Go.Proofs.YtiopofemelninaaDoor
open Go.RowKit

set_option maxHeartbeats 1000000 in
theorem eqIntResult_same (a b : Int) (w : World) :
    Calls Tryd.prog 13 #[.agg #[.int .i64 a, .int .i64 b], .agg #[.int .i64 a, .int .i64 b]] w fun r w' => r = .returned (.bool true) ∧ Below w.heap.size w w' := by
  have h1 := int_neq_self a
  have h2 := int_neq_self b
  go_enter Tryd.func13, Tryd.ntmps13
  go_wp2
  go_ret
  refine ⟨rfl, ?_⟩
  repeat (first | exact Below.refl _ _ | refine Below.alloc ?_ (by simp <;> omega) _ | refine Below.setCell ?_ (by simp <;> omega) _ | refine below_drewN ?_ _)

set_option maxHeartbeats 1000000 in
theorem eqTextResult_same (a : Int) (b : ByteArray) (w : World) :
    Calls Tryd.prog 18 #[.agg #[.int .i64 a, .string b], .agg #[.int .i64 a, .string b]] w fun r w' => r = .returned (.bool true) ∧ Below w.heap.size w w' := by
  have h1 := int_neq_self a
  go_enter Tryd.func18, Tryd.ntmps18
  go_wp2
  go_ret
  refine ⟨rfl, ?_⟩
  repeat (first | exact Below.refl _ _ | refine Below.alloc ?_ (by first | omega | (simp <;> omega)) _ | refine Below.setCell ?_ (by first | omega | (simp <;> omega)) _ | refine Below.drew ?_ | refine below_drewN ?_ _)
end Go.Proofs.YtiopofemelninaaDoor
