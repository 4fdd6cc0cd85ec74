/-
  What spec.l7NoOp and spec.l7Form answer.
-/
import Derived.Test.YtcccpifecojijaaDoorEvMath
import Derived.Test.YtcccpifecojijaaDoorOpSpec2
namespace Go.Proofs.YtcccpifecojijaaDoor
open Go.RowKit
set_option linter.unusedVariables false

set_option maxRecDepth 20000 in
set_option maxHeartbeats 4000000 in
theorem l7NoOp_any (b o : Nat) (ok : Int) (op ot : ByteArray) (od : Bool) (oi : Int) (on : List Int) (a1 : Option Addr) (c1 : Nat) (w : World) (x0 : w.cell? ⟨b, o, none⟩ = some (.int .i64 ok)) (x1 : w.cell? ⟨b, o + 1, none⟩ = some (.string op)) (x2 : w.cell? ⟨b, o + 2, none⟩ = some (.string ot)) (x3 : w.cell? ⟨b, o + 3, none⟩ = some (.bool od)) (x4 : w.cell? ⟨b, o + 4, none⟩ = some (.int .i64 oi)) (x5 : w.cell? ⟨b, o + 5, none⟩ = some (.slice a1 on.length c1)) :
    Calls Tryd.prog 59 #[.pointer (some ⟨b, o, none⟩)] w fun r w' => r = .returned (.bool (noOp ok op ot od oi on)) ∧ w' = w := by
  have ep := noB_is op
  have ep2 : op.toList.isEmpty = noB op := by rw [noB]; cases op.toList <;> simp
  have et := noB_is ot
  have et2 : ot.toList.isEmpty = noB ot := by rw [noB]; cases ot.toList <;> simp
  have HV0 : Hid (noOp ok op ot od oi on = ((ok == 0) && noB op && noB ot && !od && (oi == 0) && ((on.length : Int) == 0))) := rfl
  generalize noB op = xp at *
  generalize noB ot = xt at *
  generalize ho : (ok == 0) = xo at *
  generalize hi : (oi == 0) = xi at *
  generalize hn : ((on.length : Int) == 0) = xn at *
  cases xo
  · have HV := HV0
    clear HV0
    go_enter Tryd.func59, Tryd.ntmps59
    go_wp2_with fail
    go_ret
    exact ⟨ret_bool (by rw [unhide HV]; simp), rfl⟩
  · cases xp
    · have HV := HV0
      clear HV0
      replace ep := ep.trans (by simp : (false = true) = False)
      go_enter Tryd.func59, Tryd.ntmps59
      go_wp2_with fail
      go_ret
      exact ⟨ret_bool (by rw [unhide HV]; simp), rfl⟩
    · cases xt
      · have HV := HV0
        clear HV0
        replace ep := ep.trans (by simp : (true = true) = True)
        replace et := et.trans (by simp : (false = true) = False)
        go_enter Tryd.func59, Tryd.ntmps59
        go_wp2_with fail
        go_ret
        exact ⟨ret_bool (by rw [unhide HV]; simp), rfl⟩
      · cases od
        · cases xi
          · have HV := HV0
            clear HV0
            replace ep := ep.trans (by simp : (true = true) = True)
            replace et := et.trans (by simp : (true = true) = True)
            go_enter Tryd.func59, Tryd.ntmps59
            go_wp2_with fail
            go_ret
            exact ⟨ret_bool (by rw [unhide HV]; simp), rfl⟩
          · cases xn
            · have HV := HV0
              clear HV0
              replace ep := ep.trans (by simp : (true = true) = True)
              replace et := et.trans (by simp : (true = true) = True)
              go_enter Tryd.func59, Tryd.ntmps59
              go_wp2_with fail
              go_ret
              exact ⟨ret_bool (by rw [unhide HV]; simp), rfl⟩
            · have HV := HV0
              clear HV0
              replace ep := ep.trans (by simp : (true = true) = True)
              replace et := et.trans (by simp : (true = true) = True)
              go_enter Tryd.func59, Tryd.ntmps59
              go_wp2_with fail
              go_ret
              exact ⟨ret_bool (by rw [unhide HV]; simp), rfl⟩
        · have HV := HV0
          clear HV0
          replace ep := ep.trans (by simp : (true = true) = True)
          replace et := et.trans (by simp : (true = true) = True)
          go_enter Tryd.func59, Tryd.ntmps59
          go_wp2_with fail
          go_ret
          exact ⟨ret_bool (by rw [unhide HV]; simp), rfl⟩
end Go.Proofs.YtcccpifecojijaaDoor
