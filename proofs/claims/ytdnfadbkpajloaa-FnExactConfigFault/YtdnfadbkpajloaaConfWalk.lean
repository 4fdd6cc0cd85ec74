/-
  What spec.ConfigFault, impl.ConfigFault and laws.toConfig answer.
-/
import Derived.Test.YtdnfadbkpajloaaProg
import Derived.Test.YtdnfadbkpajloaaBase
import Derived.Test.YtdnfadbkpajloaaInWalk
import Derived.WalkKit
import Derived.WalkLawsBesides
namespace Go.Proofs.Ytdnfadbkpajloaa
open Go.RowKit
set_option linter.unusedVariables false

def confCode (l t c : Int) : Int := if inB l 4 41 = true then if (inB t 1 4 && inB c 2 9999) = true then 0 else 3 else 2
set_option maxHeartbeats 1000000 in
theorem toConfig_any (l t c : Int) (w : World) :
    Calls Try.prog 47 #[.agg #[.int .i64 l, .int .i64 t, .int .i64 c]] w fun r w' => r = .returned (.agg #[.int .i64 l, .int .i64 t, .int .i64 c]) ∧ Below w.heap.size w w' := by
  go_enter Try.func47, Try.ntmps47
  go_wp2
  refine bodyPost_ret (v := .agg #[.int .i64 l, .int .i64 t, .int .i64 c]) (by simp [results, Try.results47, go_sem]) rfl ⟨rfl, ?_⟩
  repeat (first | exact Below.refl _ _ | refine Below.alloc ?_ (by simp <;> omega) _)
set_option maxHeartbeats 1000000 in
theorem specConfigFault_any (l t c : Int) (w : World) :
    Calls Try.prog 46 #[.agg #[.int .i64 l, .int .i64 t, .int .i64 c]] w fun r w' => r = .returned (.int .i64 (confCode l t c)) ∧ Below w.heap.size w w' := by
  generalize hv : confCode l t c = v
  have HV : Hid (v = if inB l 4 41 = true then if (inB t 1 4 && inB c 2 9999) = true then 0 else 3 else 2) := hv.symm
  clear hv
  cases h1 : inB l 4 41 <;> cases h2 : inB t 1 4 <;> cases h3 : inB c 2 9999
  all_goals
    rw [h1, h2, h3] at HV
    go_enter Try.func46, Try.ntmps46
    go_wp2_with (go_at_call 77; refine (l1In_any _ _ _ _).mono ?_; rintro e w' ⟨rfl, rfl⟩)
    go_ret
    exact ⟨ret_int (unhide HV).symm, (Below.refl _ _).alloc (Nat.le_refl _) _⟩
set_option maxHeartbeats 1000000 in
theorem implConfigFault_any (l t c : Int) (w : World) :
    Calls Try.prog 48 #[.agg #[.int .i64 l, .int .i64 t, .int .i64 c]] w fun r w' => r = .returned (.int .i64 (confCode l t c)) ∧ Below w.heap.size w w' := by
  generalize hv : confCode l t c = v
  have HV : Hid (v = if inB l 4 41 = true then if (inB t 1 4 && inB c 2 9999) = true then 0 else 3 else 2) := hv.symm
  clear hv
  cases h1 : inB l 4 41 <;> cases h2 : inB t 1 4 <;> cases h3 : inB c 2 9999
  all_goals
    rw [h1, h2, h3] at HV
    go_enter Try.func48, Try.ntmps48
    go_wp2_with (go_at_call 103; refine (isWithin_any _ _ _ _).mono ?_; rintro e w' ⟨rfl, rfl⟩)
    go_ret
    exact ⟨ret_int (unhide HV).symm, (Below.refl _ _).alloc (Nat.le_refl _) _⟩
end Go.Proofs.Ytdnfadbkpajloaa
