/-
  The walk of laws.FnExactNumberOf: it returns true, and writes nothing that was there.
-/
import Derived.Test.YtiopofemelninaaDoorNumWalk
import Derived.Test.YtiopofemelninaaDoorEqWalk
namespace Go.Proofs.YtiopofemelninaaDoor.fnExactNumberOf
open Go.RowKit
set_option linter.unusedVariables false
theorem num_form (l : List UInt8) : ∃ x y, numVal l = .agg #[.int .i64 x, .int .i64 y] := by
  unfold numVal
  split
  · exact ⟨_, _, rfl⟩
  · exact ⟨_, _, rfl⟩
set_option maxRecDepth 20000 in
set_option maxHeartbeats 4000000 in
theorem walk (s : ByteArray) (w : World) (hs : s.size ≤ maxLen) (hG : NumG w) :
    Calls Tryd.prog 4 #[.string s] w fun r w' => r = .returned (.bool true) ∧ Below w.heap.size w w' := by
  unfold maxLen at hs
  obtain ⟨xv, yv, hv⟩ := num_form s.data.toList
  have HV := hide hv
  have HG := hide hG
  clear hv hG
  by_cases hb : s.size ≤ 1048576
  case neg =>
    have hb' : (1048576 : Int) < s.size := by omega
    go_enter Tryd.func4, Tryd.ntmps4
    go_wp2_with fail
    go_ret
    exact ⟨rfl, Below.refl _ _⟩
  have hb' : ¬ (1048576 : Int) < s.size := by omega
  go_enter Tryd.func4, Tryd.ntmps4
  go_wp2_with fail
  refine (specNumberOf_any s _ hb).mono ?_
  rintro e w1 ⟨rfl, hb1⟩
  rw [unhide HV]
  have HG1 := hide ((unhide HG).below hb1)
  have B1 := hide hb1
  clear hb1 HG
  go_upto_region 4 with fail
  obtain ⟨W2, hW, z2, hbx, hx⟩ := boxes1 w1 [.int .i64 xv, .int .i64 yv] 30
  rw [← hW]
  clear hW
  have HG2 := hide ((unhide HG1).below (unhide hbx))
  have B2 := hide (below_step (unhide B1) (unhide hbx) (unhide B1).size)
  have X2 := hx
  have u2 : w1.heap.size < W2.heap.size := by omega
  generalize w1.heap.size = bX at *
  clear hbx hx HG1 B1
  go_wp2_with fail
  refine (implNumberOf_any s _ hb (unhide HG2)).mono ?_
  rintro e w3 ⟨rfl, hb3⟩
  rw [unhide HV]
  have z3 : W2.heap.size ≤ w3.heap.size := hb3.size
  have X3 := hide ((unhide X2).below hb3)
  have B3 := hide (below_step (unhide B2) hb3 (unhide B2).size)
  clear hb3 X2 B2 HG2
  go_upto_region 5 with fail
  obtain ⟨W4, hW, z4, hbx, hx⟩ := boxes1 w3 [.int .i64 xv, .int .i64 yv] 30
  rw [← hW]
  clear hW
  have X4 := hide ((unhide X3).below (unhide hbx))
  have B4 := hide (below_step (unhide B3) (unhide hbx) (unhide B3).size)
  have u4 : w3.heap.size < W4.heap.size := by omega
  have x0 := (unhide X4).cell 0
  have x1 := (unhide X4).cell 1
  have y0 := (unhide hx).cell 0
  have y1 := (unhide hx).cell 1
  simp only [List.getElem?_cons_zero, List.getElem?_cons_succ] at x0 x1 y0 y1
  generalize w3.heap.size = bY at *
  clear hbx hx X3 B3
  go_wp2_with fail
  clear x0 x1 y0 y1
  refine (eqIntResult_same xv yv _).mono ?_
  rintro e w5 ⟨rfl, hb5⟩
  have B5 := hide (below_step (unhide B4) hb5 (unhide B4).size)
  clear hb5
  go_wp2_with fail
  go_ret
  exact ⟨rfl, unhide B5⟩
end Go.Proofs.YtiopofemelninaaDoor.fnExactNumberOf
