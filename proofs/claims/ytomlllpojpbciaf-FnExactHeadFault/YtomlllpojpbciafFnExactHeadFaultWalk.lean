/-
  The walk of laws.FnExactHeadFault: it returns true, and writes nothing that was there.
-/
import Derived.Test.YtomlllpojpbciafHeadFaultWalk
import Derived.Test.YtomlllpojpbciafToHeadWalk
namespace Go.Proofs.Ytomlllpojpbciaf.fnExactHeadFault
open Go.RowKit
set_option linter.unusedVariables false

set_option maxHeartbeats 1000000 in
theorem walk (k u i e : Int) (w : World) (w0 : (Lit.int .i64 k).wf = true) (w1 : (Lit.int .i64 u).wf = true) (w2 : (Lit.int .i64 i).wf = true) (w3 : (Lit.int .i64 e).wf = true) :
    Calls Try.prog 7 #[.agg #[.int .i64 k, .int .i64 u, .int .i64 i, .int .i64 e]] w fun r w' => r = .returned (.bool true) ∧ Below w.heap.size w w' := by
  clear w0 w1 w2 w3
  have hn := int_neq_self (headCode k u i e)
  go_enter Try.func7, Try.ntmps7
  go_wp2_with fail
  refine (toHead_any k u i e _).mono ?_
  rintro r w1 ⟨rfl, hb1⟩
  go_wp2_with fail
  refine (specHeadFault_any k u i e _).mono ?_
  rintro r w2 ⟨rfl, c2, t2, rfl⟩
  obtain ⟨hc1, hf1⟩ := bcell hb1
  have hz1 : w.heap.size < w1.heap.size := by have := hb1.size; simp at this; omega
  have HB1 := hide hb1
  clear hb1
  go_wp2_with fail
  refine (toHead_any k u i e _).mono ?_
  rintro r w3 ⟨rfl, hb3⟩
  go_wp2_with fail
  refine (implHeadFault_any k u i e _).mono ?_
  rintro r w4 ⟨rfl, hb4⟩
  go_wp2_with fail
  go_ret
  refine ⟨rfl, ?_⟩
  have g1 := (unhide HB1).mono (B' := w.heap.size) (by simp)
  have g3 := hb3.mono (B' := w.heap.size) (by simp; omega)
  have g4 := hb4.mono (B' := w.heap.size) (by have := hb3.size; simp at this; omega)
  exact ((((Below.refl _ _).alloc (Nat.le_refl _) _).trans g1).alloc (by omega) _).trans (g3.trans g4)
end Go.Proofs.Ytomlllpojpbciaf.fnExactHeadFault
