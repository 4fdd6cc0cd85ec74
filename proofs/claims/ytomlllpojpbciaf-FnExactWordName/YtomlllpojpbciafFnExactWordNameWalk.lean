/-
  The walk of laws.FnExactWordName: it returns true, and writes nothing that was there.
-/
import Derived.Test.YtomlllpojpbciafWordNameWalk
import Derived.Test.YtomlllpojpbciafEqWalk
namespace Go.Proofs.Ytomlllpojpbciaf.fnExactWordName
open Go.RowKit
set_option linter.unusedVariables false

theorem wnVal_agg (n : Int) : ∃ (x : Int) (b : ByteArray), wnVal n = .agg #[.int .i64 x, .string b] := by
  unfold wnVal
  split
  · exact ⟨_, _, rfl⟩
  · exact ⟨_, _, rfl⟩

set_option maxHeartbeats 1000000 in
theorem walk (n : Int) (w : World) (w0 : (Lit.int .i64 n).wf = true) :
    Calls Try.prog 5 #[.int .i64 n] w fun r w' => r = .returned (.bool true) ∧ Below w.heap.size w w' := by
  have hwf : -9223372036854775808 ≤ n ∧ n ≤ 9223372036854775807 := by simpa [Lit.wf, IntKind.min, IntKind.max, IntKind.signed, IntKind.bits] using w0
  clear w0
  obtain ⟨x, b, hv⟩ := wnVal_agg n
  have HV := hide hv
  clear hv
  go_enter Try.func5, Try.ntmps5
  go_wp2_with fail
  refine (specWordName_any n _ hwf.1 hwf.2).mono ?_
  rintro r w1 ⟨rfl, hb1⟩
  rw [unhide HV]
  have hz1 := hb1.size
  have G1 := hide hb1
  clear hb1
  go_wp2_with fail
  refine (implWordName_any n _).mono ?_
  rintro r w2 ⟨rfl, hb2⟩
  rw [unhide HV]
  have hz2 : w1.heap.size < w2.heap.size := by have := hb2.size; simp at this; omega
  have hc2 := (bcell hb2).1
  have G2 := hide (below_step ((unhide G1).alloc (by omega) _) hb2 (by simp; omega))
  clear hb2
  go_wp2_with fail
  refine (eqTextResult_same x b _).mono ?_
  rintro r w3 ⟨rfl, hb3⟩
  go_wp2_with fail
  go_ret
  exact ⟨rfl, below_step ((unhide G2).alloc (by omega) _) hb3 (by simp; omega)⟩
end Go.Proofs.Ytomlllpojpbciaf.fnExactWordName
