/-
  The law laws.FnExactBusyIn: for every input the call returns true, and the arguments read as they did (the frame; what the walk gives is in the texts imported).
-/
import Derived.Test.YtaadbgebcknfkaaRows
import Derived.Test.YtaadbgebcknfkaaOpenDev
import Derived.Test.YtaadbgebcknfkaaStateOpen
import Derived.Test.YtaadbgebcknfkaaFnExactBusyInWalk
import Derived.WalkKit
import Derived.ProofKit
import Derived.OpenShut
import Derived.ShutString
import Derived.ChangeOld
import Derived.Below
import Derived.Lib.SmallJoins
namespace Go.Proofs.Ytaadbgebcknfkaa.fnExactBusyIn
open Go.ChangeShapes Go.WideShapes Go.ChangeAt Go.RowKit
set_option linter.unusedVariables false

theorem own : ownKnob Try.prog.godebug = none := by kernel_rfl
theorem laidOut : laidOutB Try.prog = true := by kernel_rfl

set_option maxRecDepth 100000 in
theorem lifted (os : Os) (started : os.Started) (H : Type) (enc : TypeId × Value → H) :
    ReturnsInHanded {} Try.checked os 5 .any (Rows.fnExactBusyInSpec.pre6 enc Try.prog Try.f5 Rows.fnExactBusyInRow.domain false) (Rows.fnExactBusyInSpec.post enc Try.prog Try.f5 false true false false) := by
  refine returnsInHanded_of_change (C := Try.checked) own started (by kernel_rfl) Try.func5
    (ChangeSpec.witness6 (enc := enc) (C := Try.checked) false ⟨#[], #[.agg #[.bool false, .int .i64 0, .int .i64 0, .slice none 0 0, .slice none 0 0, .slice none 0 0, .slice none 0 0, .int .i64 0, .slice none 0 0, .slice none 0 0, .slice none 0 0]], []⟩ 8 (by kernel_rfl) (by kernel_rfl) (by kernel_rfl) (by kernel_rfl)) ?_
  intro W base args ds gs before hval0 hW hcnd _
  have hval : ∀ (j : Nat) t v, Try.f5.params[j]? = some t → args[j]? = some v → Value.okWide Try.prog W .any base t v := hval0
  have hW' := hW
  obtain ⟨p, q, hA0, hV, rfl, hfz, hnd⟩ := hW
  have hA : DataW.TrodAll enc Try.prog W 0 (fun _ => true) true Try.f5.params.toList args.toList ds p := hA0
  rw [Try.params5] at hA hval
  obtain ⟨v0, vs0, d0, ds0, p0, q0, hargs, rfl, rfl, h0, rr0⟩ := trodAll_cons hA
  obtain ⟨rfl, rfl, rfl⟩ := trodAll_nil rr0
  obtain rfl : args = #[v0] := by cases args; simp_all
  obtain ⟨rfl, rfl⟩ := trodVars_none hV
  have lt0 : ∀ x ∈ p0, x.block < W.heap.size := by obtain ⟨m, hm⟩ := h0; exact DataW.trod_lt m _ _ _ hm
  have k0 := h0
  obtain ⟨x0, rfl, r0, e0⟩ := open_sta Try.underlying59 (by kernel_rfl) rfl rfl rfl rfl rfl rfl rfl rfl rfl (by kernel_rfl) (by kernel_rfl) (by kernel_rfl) (by kernel_rfl) (by kernel_rfl) (by kernel_rfl) (by kernel_rfl) (by kernel_rfl) (by kernel_rfl) Try.underlying4 Try.underlying2 Try.underlying2 Try.underlying2 Try.underlying56 Try.underlying4 (by kernel_rfl) Try.underlying24 Try.underlying2 (by kernel_rfl) (fun n cs z hz => open_dev_cells Try.underlying54 (by kernel_rfl) (by kernel_rfl) Try.underlying24 Try.underlying2 (by kernel_rfl) Try.underlying52 Try.underlying52 Try.underlying194 (by kernel_rfl) rfl rfl (by kernel_rfl) (by kernel_rfl) Try.underlying2 Try.underlying2 hz) (fun n u z hz => open_Itms_at Try.underlying55 (by kernel_rfl) (fun n cs z hz => open_Itm_cells Try.underlying155 (by kernel_rfl) (by kernel_rfl) Try.underlying9 Try.underlying4 Try.underlying24 Try.underlying2 (by kernel_rfl) hz) hz) (fun n u z hz => open_Ntes_at Try.underlying57 (by kernel_rfl) (fun n cs z hz => open_Nte_cells Try.underlying163 (by kernel_rfl) rfl rfl rfl rfl rfl (by kernel_rfl) (by kernel_rfl) (by kernel_rfl) (by kernel_rfl) (by kernel_rfl) Try.underlying2 Try.underlying2 Try.underlying2 Try.underlying158 (by kernel_rfl) Try.underlying2 Try.underlying9 Try.underlying9 Try.underlying4 Try.underlying2 Try.underlying24 Try.underlying2 (by kernel_rfl) Try.underlying161 (by kernel_rfl) Try.underlying2 Try.underlying24 Try.underlying2 (by kernel_rfl) Try.underlying159 Try.underlying9 (by kernel_rfl) hz) hz) (hval 0 59 v0 rfl rfl) h0
  clear hA0 hval0
  refine (walk x0 W r0 e0).mono fun e W' ⟨he, bel⟩ => ?_
  subst he
  exact ⟨_, rfl, _, _, _, [], _, [], hW', trodAll_mk1 (shut_bool Try.underlying4 _), (trodAll_cons_mk (Below.trod laidOut (by kernel_rfl) (of_decide_eq_true (by kernel_rfl)) k0 bel lt0) trodAll_mk0), rfl, bel.frame _, fun h => by cases h⟩

theorem over : Rows.fnExactBusyInRow.holds Try.pinned (OpenSpec.ofChange Rows.fnExactBusyInSpec) :=
  OpenClaim.holds_of_wide 5 Try.f5 rfl rfl rfl rfl rfl rfl rfl ⟨rfl, rfl, rfl, rfl, rfl⟩ rfl rfl rfl rfl rfl (by kernel_rfl) Try.func5 (by kernel_rfl)
    (of_decide_eq_true (by kernel_rfl)) (by unfold Func.isWrapper; first | (rw [if_pos (by decide +kernel)]; kernel_rfl) | (rw [if_neg (by decide +kernel)]; exact ⟨rfl, rfl⟩))
    (fun os started H enc _ => lifted os started H enc)

end Go.Proofs.Ytaadbgebcknfkaa.fnExactBusyIn

namespace Go.Proofs.Ytaadbgebcknfkaa
/-- The given statement, and nothing else. -/
theorem fnExactBusyIn_holds : Rows.FnExactBusyInSaid := fnExactBusyIn.over
end Go.Proofs.Ytaadbgebcknfkaa
