/-
  The walk of laws.FnExactHeadWord: it returns true, and writes nothing that was there.
-/
import Derived.Test.YtomlllpojpbciagHeadWordWalk
import Derived.Test.YtomlllpojpbciagToHeadWalk
namespace Go.Proofs.Ytomlllpojpbciag.fnExactHeadWord
open Go.RowKit
set_option linter.unusedVariables false

set_option maxHeartbeats 1000000 in
theorem walk (k u i e : Int) (w : World) (w0 : (Lit.int .i64 k).wf = true) (w1 : (Lit.int .i64 u).wf = true) (w2 : (Lit.int .i64 i).wf = true) (w3 : (Lit.int .i64 e).wf = true) :
    Calls Try.prog 3 #[.agg #[.int .i64 k, .int .i64 u, .int .i64 i, .int .i64 e]] w fun r w' => r = .returned (.bool true) ∧ Below w.heap.size w w' := by
  clear w0 w1 w2 w3
  obtain ⟨a, b, hv⟩ : ∃ a b, hwVal k u i e = .agg #[.int .i64 a, .int .i64 b] := ⟨_, _, rfl⟩
  have HV := hide hv
  clear hv
  go_enter Try.func3, Try.ntmps3
  go_wp2_with fail
  refine (toHead_any k u i e _).mono ?_
  rintro r w1 ⟨rfl, hb1⟩
  go_wp2_with fail
  refine (specHeadWord_any k u i e _).mono ?_
  rintro r w2 ⟨rfl, hb2⟩
  rw [unhide HV]
  have hz1 : w.heap.size < w1.heap.size := by have := hb1.size; simp at this; omega
  have hz2 : w1.heap.size ≤ w2.heap.size := hb2.size
  have hy2 : w.heap.size < w2.heap.size := by omega
  have g2 : Below w.heap.size w w2 := below_step (below_step ((Below.refl _ _).alloc (Nat.le_refl _) _) hb1 (by simp)) hb2 (by omega)
  have hc1 := (bcell hb1).1
  have hc2 := (bcell hb2).1
  have G2 := hide g2
  clear hb1 hb2 g2
  go_wp2_with fail
  refine (toHead_any k u i e _).mono ?_
  rintro r w3 ⟨rfl, hb3⟩
  go_wp2_with fail
  refine (implHeadWord_any k u i e _).mono ?_
  rintro r w4 ⟨rfl, hb4⟩
  rw [unhide HV]
  have hz3 : w2.heap.size < w3.heap.size := by have := hb3.size; simp at this; omega
  have hz4 : w3.heap.size ≤ w4.heap.size := hb4.size
  have hy3 : w.heap.size < w3.heap.size := by omega
  have hy4 : w.heap.size < w4.heap.size := by omega
  have hx4 : w2.heap.size < w4.heap.size := by omega
  have g4 : Below w.heap.size w w4 := below_step (below_step ((unhide G2).alloc (by omega) _) hb3 (by simp; omega)) hb4 (by omega)
  have hc3 := (bcell hb3).1
  have hc4 := (bcell hb4).1
  have G4 := hide g4
  clear hb3 hb4 g4
  go_wp2_with fail
  refine (eqIntResult_same a b _).mono ?_
  rintro r w5 ⟨rfl, hb5⟩
  go_wp2_with fail
  go_ret
  exact ⟨rfl, below_step ((unhide G4).alloc (by omega) _) hb5 (by simp; omega)⟩
end Go.Proofs.Ytomlllpojpbciag.fnExactHeadWord
