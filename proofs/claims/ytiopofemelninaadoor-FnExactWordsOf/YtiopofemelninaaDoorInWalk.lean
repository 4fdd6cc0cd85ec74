/-
  What spec.l1In and impl.isWithin answer.
-/
import Derived.Test.YtiopofemelninaaDoorProg
import Derived.Test.YtiopofemelninaaDoorInMath
import Derived.WalkKit
import Derived.WalkLawsBesides
namespace Go.Proofs.YtiopofemelninaaDoor
open Go.RowKit

theorem l1In_any (v lo hi : Int) (w : World) :
    Calls Tryd.prog 45 #[.int .i64 v, .int .i64 lo, .int .i64 hi] w fun e w' => e = .returned (.bool (inB v lo hi)) ∧ w' = w := by
  by_cases h1 : lo ≤ v
  · by_cases h2 : v ≤ hi
    · have hr : inB v lo hi = true := inB_true.2 ⟨h1, h2⟩
      have HR := hide hr
      clear hr
      go_enter Tryd.func45, Tryd.ntmps45
      go_wp2
      go_ret
      exact ⟨ret_bool (unhide HR).symm, rfl⟩
    · have hr : inB v lo hi = false := inB_false.2 (by omega)
      have HR := hide hr
      clear hr
      go_enter Tryd.func45, Tryd.ntmps45
      go_wp2
      go_ret
      exact ⟨ret_bool (unhide HR).symm, rfl⟩
  · have hr : inB v lo hi = false := inB_false.2 (by omega)
    have HR := hide hr
    clear hr
    go_enter Tryd.func45, Tryd.ntmps45
    go_wp2
    go_ret
    exact ⟨ret_bool (unhide HR).symm, rfl⟩

theorem isWithin_any (v lo hi : Int) (w : World) :
    Calls Tryd.prog 44 #[.int .i64 v, .int .i64 lo, .int .i64 hi] w fun e w' => e = .returned (.bool (inB v lo hi)) ∧ w' = w := by
  by_cases h1 : lo ≤ v
  · by_cases h2 : v ≤ hi
    · have hr : inB v lo hi = true := inB_true.2 ⟨h1, h2⟩
      have HR := hide hr
      clear hr
      go_enter Tryd.func44, Tryd.ntmps44
      go_wp2
      go_ret
      exact ⟨ret_bool (unhide HR).symm, rfl⟩
    · have hr : inB v lo hi = false := inB_false.2 (by omega)
      have HR := hide hr
      clear hr
      go_enter Tryd.func44, Tryd.ntmps44
      go_wp2
      go_ret
      exact ⟨ret_bool (unhide HR).symm, rfl⟩
  · have hr : inB v lo hi = false := inB_false.2 (by omega)
    have HR := hide hr
    clear hr
    go_enter Tryd.func44, Tryd.ntmps44
    go_wp2
    go_ret
    exact ⟨ret_bool (unhide HR).symm, rfl⟩
end Go.Proofs.YtiopofemelninaaDoor
