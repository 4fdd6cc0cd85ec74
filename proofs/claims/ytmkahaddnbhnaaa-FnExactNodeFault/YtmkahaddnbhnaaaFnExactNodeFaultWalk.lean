/-
  The walk of laws.FnExactNodeFault: it returns true, and writes nothing that was there.
-/
import Derived.Test.YtmkahaddnbhnaaaNodeWalk
import Derived.Test.YtmkahaddnbhnaaaToNodeWalk
namespace Go.Proofs.Ytmkahaddnbhnaaa.fnExactNodeFault
open Go.RowKit
set_option linter.unusedVariables false

set_option maxHeartbeats 1000000 in
theorem walk (u : Int) (d : Bool) (p : Int) (nm : ByteArray) (s : Int) (w : World) (hs : nm.size ≤ maxLen) :
    Calls Try.prog 5 #[.agg #[.int .i64 u, .bool d, .int .i64 p, .string nm, .int .i64 s]] w fun r w' => r = .returned (.bool true) ∧ Below w.heap.size w w' := by
  have hn := int_neq_self (nodeCode u d p nm.data.toList s)
  obtain ⟨W, hW, hWz, HB0, HX0⟩ := boxes1 w [.int .i64 u, .bool d, .int .i64 p, .string nm, .int .i64 s] 53
  go_enter Try.func5, Try.ntmps5
  go_wp2_with fail
  rw [← hW]
  have q0 := (unhide HX0).cell 0
  have q1 := (unhide HX0).cell 1
  have q2 := (unhide HX0).cell 2
  have q3 := (unhide HX0).cell 3
  have q4 := (unhide HX0).cell 4
  simp only [List.getElem?_cons_zero, List.getElem?_cons_succ] at q0 q1 q2 q3 q4
  clear hW
  refine (szNode_any u d p nm s _ _ (by decide) (by decide) hs).mono ?_
  rintro e w1 ⟨⟨r, rfl, hl⟩, hb1⟩
  have HB1 := hide (below_step (unhide HB0) hb1 (by omega))
  obtain ⟨c1, -⟩ := bcell hb1
  have hz1 : w.heap.size < w1.heap.size := by have := hb1.size; omega
  rw [← c1 _ _ (by omega)] at q0 q1 q2 q3 q4
  clear c1 hb1
  by_cases hr : r < 0
  · clear hl
    go_wp2_with fail
    go_ret
    exact ⟨rfl, unhide HB1⟩
  clear hl
  go_wp2_with fail
  refine (toNode_any u d p nm s _).mono ?_
  rintro e w2 ⟨rfl, hb2⟩
  go_wp2_with fail
  refine (specNodeFault_any u d p nm s _ hs).mono ?_
  rintro e w3 ⟨rfl, hb3⟩
  have hb23 := below_step hb2 hb3 hb2.size
  have HB3 := hide (below_step (unhide HB1) hb23 (by omega))
  obtain ⟨c1, -⟩ := bcell hb23
  have hz3 : w.heap.size < w3.heap.size := by have := hb23.size; omega
  rw [← c1 _ _ (by omega)] at q0 q1 q2 q3 q4
  clear c1 hb2 hb3 hb23
  go_wp2_with fail
  refine (toNode_any u d p nm s _).mono ?_
  rintro e w4 ⟨rfl, hb4⟩
  go_wp2_with fail
  refine (implNodeFault_any u d p nm s _ hs).mono ?_
  rintro e w5 ⟨rfl, hb5⟩
  have hb45 := below_step hb4 hb5 hb4.size
  have HB5 := hide (below_step (unhide HB3) hb45 (by omega))
  clear q0 q1 q2 q3 q4 hb4 hb5 hb45
  go_wp2_with fail
  go_ret
  exact ⟨rfl, unhide HB5⟩
end Go.Proofs.Ytmkahaddnbhnaaa.fnExactNodeFault
