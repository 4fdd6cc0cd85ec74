/-
  What the laws' own sizes of devices answer.
-/
import Derived.Test.YtiopofemelninaaDoorProg
import Derived.Test.YtiopofemelninaaDoorRowMath
import Derived.WalkKit
import Derived.WalkLawsBesides
namespace Go.Proofs.YtiopofemelninaaDoor
open Go.RowKit

/-- What is left behind n more. -/
def Left (left n r : Int) : Prop := (r < 0 ∧ left < n) ∨ (r = left - n ∧ n ≤ left)

set_option maxHeartbeats 1000000 in
theorem szInt64S_any (a : Option Addr) (n c : Nat) (left : Int) (w : World) (h0 : 0 ≤ left) (h1 : left ≤ 1048576) (hn : n ≤ maxLen) :
    Calls Tryd.prog 28 #[.slice a n c, .int .i64 left] w fun e w' => (∃ r, e = .returned (.int .i64 r) ∧ Left left n r) ∧ w' = w := by
  unfold maxLen at hn
  by_cases h : left - n < 0
  · go_enter Tryd.func28, Tryd.ntmps28
    go_wp2
    go_ret
    exact ⟨⟨-1, rfl, .inl ⟨by omega, by omega⟩⟩, rfl⟩
  · go_enter Tryd.func28, Tryd.ntmps28
    go_wp2
    go_ret
    exact ⟨⟨_, rfl, .inr ⟨rfl, by omega⟩⟩, rfl⟩
end Go.Proofs.YtiopofemelninaaDoor
