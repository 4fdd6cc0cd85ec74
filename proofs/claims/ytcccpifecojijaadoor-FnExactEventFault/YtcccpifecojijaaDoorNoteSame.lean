/-
  What impl.sameOp, impl.sameReply, impl.sameNote and impl.SameNotes answer.
-/
import Derived.Test.YtcccpifecojijaaDoorNoteMath
import Derived.Test.YtcccpifecojijaaDoorEqB
import Derived.Test.YtcccpifecojijaaDoorNodeEq
import Derived.BigQuiet
import Derived.Deep.QuietTactic
namespace Go.Proofs.YtcccpifecojijaaDoor
open Go.RowKit
set_option linter.unusedVariables false

set_option maxRecDepth 20000 in
set_option maxHeartbeats 4000000 in
theorem sameOpG_any (ok ok' : Int) (op op' ot ot' : ByteArray) (od od' : Bool) (oi oi' : Int) (on on' : List Int) (a1 a1' : Option Addr) (c1 c1' : Nat) (w : World) (h : IntsAt w a1 on) (h2 : IntsAt w a1' on') (hn : on.length ≤ 1048576) :
    Calls Tryd.prog 40 #[.agg #[.int .i64 ok, .string op, .string ot, .bool od, .int .i64 oi, .slice a1 on.length c1], .agg #[.int .i64 ok', .string op', .string ot', .bool od', .int .i64 oi', .slice a1' on'.length c1']] w fun r w' => r = .returned (.bool (sameO ok ok' op op' ot ot' od od' oi oi' on on')) ∧ Below w.heap.size w w' := by
  obtain ⟨W, hW, hWz, HB0, HX0, HY0⟩ := boxes2 w [.int .i64 ok, .string op, .string ot, .bool od, .int .i64 oi, .slice a1 on.length c1] [.int .i64 ok', .string op', .string ot', .bool od', .int .i64 oi', .slice a1' on'.length c1'] 34 34
  have H := hide (h.below (unhide HB0))
  have H2 := hide (h2.below (unhide HB0))
  clear h h2
  cases hk : (ok == ok')
  · have HV : Hid (sameO ok ok' op op' ot ot' od od' oi oi' on on' = false) := by simp [Hid, sameO, hk]
    go_enter Tryd.func40, Tryd.ntmps40
    go_wp2_with fail
    go_ret
    exact ⟨ret_bool (unhide HV).symm, by rw [← hW]; exact unhide HB0⟩
  cases hp : (op.toList == op'.toList)
  · have HV : Hid (sameO ok ok' op op' ot ot' od od' oi oi' on on' = false) := by simp [Hid, sameO, hk, hp]
    go_enter Tryd.func40, Tryd.ntmps40
    go_wp2_with fail
    go_ret
    exact ⟨ret_bool (unhide HV).symm, by rw [← hW]; exact unhide HB0⟩
  cases ht : (ot.toList == ot'.toList)
  · have HV : Hid (sameO ok ok' op op' ot ot' od od' oi oi' on on' = false) := by simp [Hid, sameO, hk, hp, ht]
    go_enter Tryd.func40, Tryd.ntmps40
    go_wp2_with fail
    go_ret
    exact ⟨ret_bool (unhide HV).symm, by rw [← hW]; exact unhide HB0⟩
  cases hd : (od == od')
  · have HV : Hid (sameO ok ok' op op' ot ot' od od' oi oi' on on' = false) := by simp [Hid, sameO, hk, hp, ht, hd]
    go_enter Tryd.func40, Tryd.ntmps40
    go_wp2_with fail
    go_ret
    exact ⟨ret_bool (unhide HV).symm, by rw [← hW]; exact unhide HB0⟩
  cases hi : (oi == oi')
  · have HV : Hid (sameO ok ok' op op' ot ot' od od' oi oi' on on' = false) := by simp [Hid, sameO, hk, hp, ht, hd, hi]
    go_enter Tryd.func40, Tryd.ntmps40
    go_wp2_with fail
    go_ret
    exact ⟨ret_bool (unhide HV).symm, by rw [← hW]; exact unhide HB0⟩
  have HV : Hid (sameO ok ok' op op' ot ot' od od' oi oi' on on' = decide (on = on')) := by rw [Hid, sameO, hk, hp, ht, hd, hi]; simp
  go_enter Tryd.func40, Tryd.ntmps40
  go_wp2_with fail
  rw [← hW]
  clear hW
  refine (eqInts_any a1 a1' c1 c1' on on' _ (unhide H) (unhide H2) hn).mono ?_
  rintro r w3 ⟨rfl, hb3⟩
  have B3 := hide (below_step (unhide HB0) hb3 (by omega))
  clear hb3
  generalize decide (on = on') = bq at *
  go_wp2_with fail
  go_ret
  exact ⟨ret_bool (unhide HV).symm, unhide B3⟩
end Go.Proofs.YtcccpifecojijaaDoor
