/-
  The walk of laws.FnExactWordHead: it returns true, and writes nothing that was there.
-/
import Derived.Test.YtomlllpojpbciagWordHeadWalk
namespace Go.Proofs.Ytomlllpojpbciag.fnExactWordHead
open Go.RowKit
set_option linter.unusedVariables false

theorem whVal_agg (n : Int) : ∃ x a b c d : Int, whVal n = .agg #[.int .i64 x, .int .i64 a, .int .i64 b, .int .i64 c, .int .i64 d] := by
  unfold whVal
  split
  · exact ⟨_, _, _, _, _, rfl⟩
  · exact ⟨_, _, _, _, _, rfl⟩

set_option maxHeartbeats 1000000 in
theorem walk (n : Int) (w : World) (w0 : (Lit.int .i64 n).wf = true) :
    Calls Try.prog 4 #[.int .i64 n] w fun r w' => r = .returned (.bool true) ∧ Below w.heap.size w w' := by
  clear w0
  obtain ⟨x, a, b, c, d, hv⟩ := whVal_agg n
  have HV := hide hv
  clear hv
  go_enter Try.func4, Try.ntmps4
  go_wp2_with fail
  refine (specWordHead_any n _).mono ?_
  rintro r w1 ⟨rfl, hb1⟩
  rw [unhide HV]
  have hz1 := hb1.size
  have G1 := hide hb1
  clear hb1
  go_wp2_with fail
  refine (implWordHead_any n _).mono ?_
  rintro r w2 ⟨rfl, hb2⟩
  rw [unhide HV]
  have hz2 : w1.heap.size < w2.heap.size := by have := hb2.size; simp at this; omega
  have hc2 := (bcell hb2).1
  have G2 := hide (below_step ((unhide G1).alloc (by omega) _) hb2 (by simp; omega))
  clear hb2
  go_wp2_with fail
  refine (eqHeadResult_same x a b c d _).mono ?_
  rintro r w3 ⟨rfl, hb3⟩
  go_wp2_with fail
  go_ret
  exact ⟨rfl, below_step ((unhide G2).alloc (by omega) _) hb3 (by simp; omega)⟩
end Go.Proofs.Ytomlllpojpbciag.fnExactWordHead
