/-
  The law laws.FnExactSameStates: for every input the call returns true, and the arguments read as they did (the frame; what the walk gives is in the texts imported).
-/
import Derived.Test.YtdnfadbkpajloaaRows
import Derived.Test.YtdnfadbkpajloaaOpenDev
import Derived.Test.YtdnfadbkpajloaaStateOpen
import Derived.Test.YtdnfadbkpajloaaFnExactSameStatesWalk
import Derived.WalkKit
import Derived.ProofKit
import Derived.OpenShut
import Derived.ShutString
import Derived.ChangeOld
import Derived.Below
import Derived.Lib.SmallJoins
namespace Go.Proofs.Ytdnfadbkpajloaa.fnExactSameStates
open Go.ChangeShapes Go.WideShapes Go.ChangeAt Go.RowKit
set_option linter.unusedVariables false

theorem own : ownKnob Try.prog.godebug = none := by kernel_rfl
theorem laidOut : laidOutB Try.prog = true := by kernel_rfl

set_option maxRecDepth 100000 in
theorem lifted (os : Os) (started : os.Started) (H : Type) (enc : TypeId × Value → H) :
    ReturnsInHanded {} Try.checked os 10 .any (Rows.fnExactSameStatesSpec.pre6 enc Try.prog Try.f10 Rows.fnExactSameStatesRow.domain false) (Rows.fnExactSameStatesSpec.post enc Try.prog Try.f10 false true false false) := by
  refine returnsInHanded_of_change (C := Try.checked) own started (by kernel_rfl) Try.func10
    (ChangeSpec.witness6 (enc := enc) (C := Try.checked) false ⟨#[], #[.agg #[.bool false, .int .i64 0, .int .i64 0, .slice none 0 0, .slice none 0 0, .slice none 0 0, .slice none 0 0, .int .i64 0, .slice none 0 0, .slice none 0 0, .slice none 0 0], .agg #[.bool false, .int .i64 0, .int .i64 0, .slice none 0 0, .slice none 0 0, .slice none 0 0, .slice none 0 0, .int .i64 0, .slice none 0 0, .slice none 0 0, .slice none 0 0]], []⟩ 8 (by kernel_rfl) (by kernel_rfl) (by kernel_rfl) (by kernel_rfl)) ?_
  intro W base args ds gs before hval0 hW hcnd _
  have hval : ∀ (j : Nat) t v, Try.f10.params[j]? = some t → args[j]? = some v → Value.okWide Try.prog W .any base t v := hval0
  have hW' := hW
  obtain ⟨p, q, hA0, hV, rfl, hfz, hnd⟩ := hW
  have hA : DataW.TrodAll enc Try.prog W 0 (fun _ => true) true Try.f10.params.toList args.toList ds p := hA0
  rw [Try.params10] at hA hval
  obtain ⟨v0, vs0, d0, ds0, p0, q0, hargs, rfl, rfl, h0, rr0⟩ := trodAll_cons hA
  obtain ⟨v1, vs1, d1, ds1, p1, q1, rfl, rfl, rfl, h1, rr1⟩ := trodAll_cons rr0
  obtain ⟨rfl, rfl, rfl⟩ := trodAll_nil rr1
  obtain rfl : args = #[v0, v1] := by cases args; simp_all
  obtain ⟨rfl, rfl⟩ := trodVars_none hV
  have lt0 : ∀ x ∈ p0, x.block < W.heap.size := by obtain ⟨m, hm⟩ := h0; exact DataW.trod_lt m _ _ _ hm
  have lt1 : ∀ x ∈ p1, x.block < W.heap.size := by obtain ⟨m, hm⟩ := h1; exact DataW.trod_lt m _ _ _ hm
  have k0 := h0
  obtain ⟨x0, rfl, r0, e0⟩ := open_sta Try.underlying90 (by kernel_rfl) rfl rfl rfl rfl rfl rfl rfl rfl rfl (by kernel_rfl) (by kernel_rfl) (by kernel_rfl) (by kernel_rfl) (by kernel_rfl) (by kernel_rfl) (by kernel_rfl) (by kernel_rfl) (by kernel_rfl) Try.underlying4 Try.underlying2 Try.underlying2 Try.underlying2 Try.underlying87 Try.underlying4 (by kernel_rfl) Try.underlying24 Try.underlying2 (by kernel_rfl) (fun n cs z hz => open_dev_cells Try.underlying70 (by kernel_rfl) (by kernel_rfl) Try.underlying24 Try.underlying2 (by kernel_rfl) Try.underlying68 Try.underlying68 Try.underlying231 (by kernel_rfl) rfl rfl (by kernel_rfl) (by kernel_rfl) Try.underlying2 Try.underlying2 hz) (fun n u z hz => open_Itms_at Try.underlying86 (by kernel_rfl) (fun n cs z hz => open_Itm_cells Try.underlying235 (by kernel_rfl) (by kernel_rfl) Try.underlying9 Try.underlying4 Try.underlying24 Try.underlying2 (by kernel_rfl) hz) hz) (fun n u z hz => open_Ntes_at Try.underlying88 (by kernel_rfl) (fun n cs z hz => open_Nte_cells Try.underlying180 (by kernel_rfl) rfl rfl rfl rfl rfl (by kernel_rfl) (by kernel_rfl) (by kernel_rfl) (by kernel_rfl) (by kernel_rfl) Try.underlying2 Try.underlying2 Try.underlying2 Try.underlying175 (by kernel_rfl) Try.underlying2 Try.underlying9 Try.underlying9 Try.underlying4 Try.underlying2 Try.underlying24 Try.underlying2 (by kernel_rfl) Try.underlying178 (by kernel_rfl) Try.underlying2 Try.underlying24 Try.underlying2 (by kernel_rfl) Try.underlying176 Try.underlying9 (by kernel_rfl) hz) hz) (hval 0 90 v0 rfl rfl) h0
  have k1 := h1
  obtain ⟨x1, rfl, r1, e1⟩ := open_sta Try.underlying90 (by kernel_rfl) rfl rfl rfl rfl rfl rfl rfl rfl rfl (by kernel_rfl) (by kernel_rfl) (by kernel_rfl) (by kernel_rfl) (by kernel_rfl) (by kernel_rfl) (by kernel_rfl) (by kernel_rfl) (by kernel_rfl) Try.underlying4 Try.underlying2 Try.underlying2 Try.underlying2 Try.underlying87 Try.underlying4 (by kernel_rfl) Try.underlying24 Try.underlying2 (by kernel_rfl) (fun n cs z hz => open_dev_cells Try.underlying70 (by kernel_rfl) (by kernel_rfl) Try.underlying24 Try.underlying2 (by kernel_rfl) Try.underlying68 Try.underlying68 Try.underlying231 (by kernel_rfl) rfl rfl (by kernel_rfl) (by kernel_rfl) Try.underlying2 Try.underlying2 hz) (fun n u z hz => open_Itms_at Try.underlying86 (by kernel_rfl) (fun n cs z hz => open_Itm_cells Try.underlying235 (by kernel_rfl) (by kernel_rfl) Try.underlying9 Try.underlying4 Try.underlying24 Try.underlying2 (by kernel_rfl) hz) hz) (fun n u z hz => open_Ntes_at Try.underlying88 (by kernel_rfl) (fun n cs z hz => open_Nte_cells Try.underlying180 (by kernel_rfl) rfl rfl rfl rfl rfl (by kernel_rfl) (by kernel_rfl) (by kernel_rfl) (by kernel_rfl) (by kernel_rfl) Try.underlying2 Try.underlying2 Try.underlying2 Try.underlying175 (by kernel_rfl) Try.underlying2 Try.underlying9 Try.underlying9 Try.underlying4 Try.underlying2 Try.underlying24 Try.underlying2 (by kernel_rfl) Try.underlying178 (by kernel_rfl) Try.underlying2 Try.underlying24 Try.underlying2 (by kernel_rfl) Try.underlying176 Try.underlying9 (by kernel_rfl) hz) hz) (hval 1 90 v1 rfl rfl) h1
  clear hA0 hval0
  refine (walk x0 x1 W r0 e0 r1 e1).mono fun e W' ⟨he, bel⟩ => ?_
  subst he
  exact ⟨_, rfl, _, _, _, [], _, [], hW', trodAll_mk1 (shut_bool Try.underlying4 _), (trodAll_cons_mk (Below.trod laidOut (by kernel_rfl) (of_decide_eq_true (by kernel_rfl)) k0 bel lt0) (trodAll_cons_mk (Below.trod laidOut (by kernel_rfl) (of_decide_eq_true (by kernel_rfl)) k1 bel lt1) trodAll_mk0)), rfl, bel.frame _, fun h => by cases h⟩

theorem over : Rows.fnExactSameStatesRow.holds Try.pinned (OpenSpec.ofChange Rows.fnExactSameStatesSpec) :=
  OpenClaim.holds_of_wide 10 Try.f10 rfl rfl rfl rfl rfl rfl rfl ⟨rfl, rfl, rfl, rfl, rfl⟩ rfl rfl rfl rfl rfl (by kernel_rfl) Try.func10 (by kernel_rfl)
    (of_decide_eq_true (by kernel_rfl)) (by unfold Func.isWrapper; first | (rw [if_pos (by decide +kernel)]; kernel_rfl) | (rw [if_neg (by decide +kernel)]; exact ⟨rfl, rfl⟩))
    (fun os started H enc _ => lifted os started H enc)

end Go.Proofs.Ytdnfadbkpajloaa.fnExactSameStates

namespace Go.Proofs.Ytdnfadbkpajloaa
/-- The given statement, and nothing else. -/
theorem fnExactSameStates_holds : Rows.FnExactSameStatesSaid := fnExactSameStates.over
end Go.Proofs.Ytdnfadbkpajloaa
