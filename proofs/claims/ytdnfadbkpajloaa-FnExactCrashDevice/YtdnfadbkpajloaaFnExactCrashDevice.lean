/-
  The law laws.FnExactCrashDevice: for every input the call returns true, and the arguments read as they did (the frame; what the walk gives is in the texts imported).
-/
import Derived.Test.YtdnfadbkpajloaaRows
import Derived.Test.YtdnfadbkpajloaaOpenDev
import Derived.Test.YtdnfadbkpajloaaFnExactCrashDeviceWalk
import Derived.WalkKit
import Derived.ProofKit
import Derived.OpenShut
import Derived.ShutString
import Derived.ChangeOld
import Derived.Below
import Derived.Lib.SmallJoins
namespace Go.Proofs.Ytdnfadbkpajloaa.fnExactCrashDevice
open Go.ChangeShapes Go.WideShapes Go.ChangeAt Go.RowKit
set_option linter.unusedVariables false

theorem own : ownKnob Try.prog.godebug = none := by kernel_rfl
theorem laidOut : laidOutB Try.prog = true := by kernel_rfl

set_option maxHeartbeats 1000000 in
set_option maxRecDepth 100000 in
theorem lifted (os : Os) (started : os.Started) (H : Type) (enc : TypeId × Value → H) :
    ReturnsInHanded {} Try.checked os 6 .any (Rows.fnExactCrashDeviceSpec.pre6 enc Try.prog Try.f6 Rows.fnExactCrashDeviceRow.domain false) (Rows.fnExactCrashDeviceSpec.post enc Try.prog Try.f6 false true false false) := by
  refine returnsInHanded_of_change (C := Try.checked) own started (by kernel_rfl) Try.func6
    (ChangeSpec.witness6 (enc := enc) (C := Try.checked) false ⟨#[], #[.agg #[.slice none 0 0, .slice none 0 0, .slice none 0 0], .slice none 0 0], []⟩ 8 (by kernel_rfl) (by kernel_rfl) (by kernel_rfl) (by kernel_rfl)) ?_
  intro W base args ds gs before hval0 hW hcnd _
  have hval : ∀ (j : Nat) t v, Try.f6.params[j]? = some t → args[j]? = some v → Value.okWide Try.prog W .any base t v := hval0
  have hW' := hW
  obtain ⟨p, q, hA0, hV, rfl, hfz, hnd⟩ := hW
  have hA : DataW.TrodAll enc Try.prog W 0 (fun _ => true) true Try.f6.params.toList args.toList ds p := hA0
  rw [Try.params6] at hA hval
  obtain ⟨v0, vs0, d0, ds0, p0, q0, hargs, rfl, rfl, h0, rr0⟩ := trodAll_cons hA
  obtain ⟨v1, vs1, d1, ds1, p1, q1, rfl, rfl, rfl, h1, rr1⟩ := trodAll_cons rr0
  obtain ⟨rfl, rfl, rfl⟩ := trodAll_nil rr1
  obtain rfl : args = #[v0, v1] := by cases args; simp_all
  obtain ⟨rfl, rfl⟩ := trodVars_none hV
  have lt0 : ∀ x ∈ p0, x.block < W.heap.size := by obtain ⟨m, hm⟩ := h0; exact DataW.trod_lt m _ _ _ hm
  have lt1 : ∀ x ∈ p1, x.block < W.heap.size := by obtain ⟨m, hm⟩ := h1; exact DataW.trod_lt m _ _ _ hm
  have k0 := h0
  obtain ⟨x0a, x0b, x0c, y0a, y0b, y0c, m0, rfl, rfl, rfl, hy0a, hy0b, hy0c⟩ := Go.Joins.open_agg3 Try.underlying70 (by kernel_rfl) (by kernel_rfl) (hval 0 70 v0 rfl rfl) h0
  obtain ⟨a0a, c0a, l0a, rfl, r0a, e0a, f0a⟩ := open_ints_at Try.underlying24 Try.underlying2 (by kernel_rfl) hy0a
  obtain ⟨a0b, c0b, l0b, rfl, r0b, e0b, f0b⟩ := open_pairs_at Try.underlying68 Try.underlying231 (by kernel_rfl) rfl rfl (by kernel_rfl) (by kernel_rfl) Try.underlying2 Try.underlying2 hy0b
  obtain ⟨a0c, c0c, l0c, rfl, r0c, e0c, f0c⟩ := open_pairs_at Try.underlying68 Try.underlying231 (by kernel_rfl) rfl rfl (by kernel_rfl) (by kernel_rfl) Try.underlying2 Try.underlying2 hy0c
  have k1 := h1
  obtain ⟨u1, len1, cap1, rfl⟩ := okWide_slice Try.underlying24 (hval 1 24 v1 rfl rfl)
  obtain ⟨fu1, hf1⟩ := h1
  rw [show Value.cells (.slice u1 len1 cap1) = #[.slice u1 len1 cap1] from rfl] at hf1
  obtain ⟨a1, c1, l1, hq1, r1, e1, f1⟩ := open_ints_at Try.underlying24 Try.underlying2 (by kernel_rfl) hf1
  cases hq1
  clear hA0 hval0
  refine (walk a0a a0b a0c c0a c0b c0c ⟨l0a, l0b, l0c⟩ u1 cap1 l1 W ⟨r0a, r0b, r0c⟩ (Nat.le_trans e0a f0a) (Nat.le_trans e0b f0b) (Nat.le_trans e0c f0c) r1 (Nat.le_trans e1 f1)).mono fun e W' ⟨he, bel⟩ => ?_
  subst he
  exact ⟨_, rfl, _, _, _, [], _, [], hW', trodAll_mk1 (shut_bool Try.underlying4 _), (trodAll_cons_mk (Below.trod laidOut (by kernel_rfl) (of_decide_eq_true (by kernel_rfl)) k0 bel lt0) (trodAll_cons_mk (Below.trod laidOut (by kernel_rfl) (of_decide_eq_true (by kernel_rfl)) k1 bel lt1) trodAll_mk0)), rfl, bel.frame _, fun h => by cases h⟩

theorem over : Rows.fnExactCrashDeviceRow.holds Try.pinned (OpenSpec.ofChange Rows.fnExactCrashDeviceSpec) :=
  OpenClaim.holds_of_wide 6 Try.f6 rfl rfl rfl rfl rfl rfl rfl ⟨rfl, rfl, rfl, rfl, rfl⟩ rfl rfl rfl rfl rfl (by kernel_rfl) Try.func6 (by kernel_rfl)
    (of_decide_eq_true (by kernel_rfl)) (by unfold Func.isWrapper; first | (rw [if_pos (by decide +kernel)]; kernel_rfl) | (rw [if_neg (by decide +kernel)]; exact ⟨rfl, rfl⟩))
    (fun os started H enc _ => lifted os started H enc)

end Go.Proofs.Ytdnfadbkpajloaa.fnExactCrashDevice

namespace Go.Proofs.Ytdnfadbkpajloaa
/-- The given statement, and nothing else. -/
theorem fnExactCrashDevice_holds : Rows.FnExactCrashDeviceSaid := fnExactCrashDevice.over
end Go.Proofs.Ytdnfadbkpajloaa
