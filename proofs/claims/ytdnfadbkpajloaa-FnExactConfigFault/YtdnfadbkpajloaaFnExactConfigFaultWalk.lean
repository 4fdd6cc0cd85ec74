/-
  The walk of laws.FnExactConfigFault: it returns true, and writes nothing that was there.
-/
import Derived.Test.YtdnfadbkpajloaaConfWalk
import Derived.Test.YtdnfadbkpajloaaRowMath
namespace Go.Proofs.Ytdnfadbkpajloaa.fnExactConfigFault
open Go.RowKit
set_option linter.unusedVariables false

set_option maxHeartbeats 1000000 in
theorem walk (k u i : Int) (w : World) (w0 : (Lit.int .i64 k).wf = true) (w1 : (Lit.int .i64 u).wf = true) (w2 : (Lit.int .i64 i).wf = true) :
    Calls Try.prog 7 #[.agg #[.int .i64 k, .int .i64 u, .int .i64 i]] w fun r w' => r = .returned (.bool true) ∧ Below w.heap.size w w' := by
  clear w0 w1 w2
  have hn := int_neq_self (confCode k u i)
  go_enter Try.func7, Try.ntmps7
  go_wp2_with fail
  obtain ⟨W, hW, hWz, HB0, HX0⟩ := boxes1 w [.int .i64 k, .int .i64 u, .int .i64 i] 81
  rw [← hW]
  clear hW
  refine (toConfig_any k u i _).mono ?_
  rintro r w1 ⟨rfl, hb1⟩
  have X1 := hide ((unhide HX0).below hb1)
  have B1 := hide (below_step (unhide HB0) hb1 (by omega))
  have z1 := hb1.size
  clear hb1 HX0 HB0
  go_wp2_with fail
  refine (specConfigFault_any k u i _).mono ?_
  rintro r w2 ⟨rfl, hb2⟩
  have X2 := hide ((unhide X1).below hb2)
  have B2 := hide (below_step (unhide B1) hb2 (by omega))
  have z2 := hb2.size
  clear hb2 X1 B1
  have x0 := (unhide X2).cell 0
  have x1 := (unhide X2).cell 1
  have x2 := (unhide X2).cell 2
  simp only [List.getElem?_cons_zero, List.getElem?_cons_succ] at x0 x1 x2
  go_wp2_with fail
  refine (toConfig_any k u i _).mono ?_
  rintro r w3 ⟨rfl, hb3⟩
  have B3 := hide (below_step (unhide B2) hb3 (by omega))
  have z3 := hb3.size
  clear hb3 x0 x1 x2 X2 B2
  go_wp2_with fail
  refine (implConfigFault_any k u i _).mono ?_
  rintro r w4 ⟨rfl, hb4⟩
  have B4 := hide (below_step (unhide B3) hb4 (by omega))
  clear hb4 B3
  go_wp2_with fail
  go_ret
  exact ⟨rfl, unhide B4⟩
end Go.Proofs.Ytdnfadbkpajloaa.fnExactConfigFault
