/-
  The walk of laws.FnExactNameWord: it returns true, and writes nothing that was there.
-/
import Derived.Test.YtomlllpojpbciafNameWordWalk
import Derived.Test.YtomlllpojpbciafEqWalk
namespace Go.Proofs.Ytomlllpojpbciaf.fnExactNameWord
open Go.RowKit

set_option maxHeartbeats 1000000 in
theorem walk (s : ByteArray) (w : World) (hs : s.size ≤ maxLen) :
    Calls Try.prog 4 #[.string s] w fun r w' => r = .returned (.bool true) ∧ Below w.heap.size w w' := by
  by_cases h : 1048576 < (s.size : Int)
  · go_enter Try.func4, Try.ntmps4
    go_wp2
    go_ret
    exact ⟨rfl, Below.refl _ _⟩
  obtain ⟨a, b, hv⟩ : ∃ a b, nwVal s.data.toList = .agg #[.int .i64 a, .int .i64 b] := ⟨_, _, rfl⟩
  have HV := hide hv
  clear hv
  go_enter Try.func4, Try.ntmps4
  go_wp2_with fail
  refine (specNameWord_any s _ hs).mono ?_
  rintro r w1 ⟨rfl, hb1⟩
  rw [unhide HV]
  have hz1 := hb1.size
  have G1 := hide hb1
  clear hb1
  go_wp2_with fail
  refine (implNameWord_any s _ hs).mono ?_
  rintro r w2 ⟨rfl, hb2⟩
  rw [unhide HV]
  have hz2 : w1.heap.size < w2.heap.size := by have := hb2.size; simp at this; omega
  have hc2 := (bcell hb2).1
  have G2 := hide (below_step ((unhide G1).alloc (by omega) _) hb2 (by simp; omega))
  clear hb2
  go_wp2_with fail
  refine (eqIntResult_same a b _).mono ?_
  rintro r w3 ⟨rfl, hb3⟩
  go_wp2_with fail
  go_ret
  exact ⟨rfl, below_step ((unhide G2).alloc (by omega) _) hb3 (by simp; omega)⟩
end Go.Proofs.Ytomlllpojpbciaf.fnExactNameWord
