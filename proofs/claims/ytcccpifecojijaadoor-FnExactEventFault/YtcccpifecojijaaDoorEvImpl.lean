/-
  What impl's small functions about events answer.
-/
import Derived.Test.YtcccpifecojijaaDoorEvMath
import Derived.Test.YtcccpifecojijaaDoorOpImpl2
import Derived.Test.YtcccpifecojijaaDoorNoteSame
import Derived.Test.YtcccpifecojijaaDoorWideBox
namespace Go.Proofs.YtcccpifecojijaaDoor
open Go.RowKit
set_option linter.unusedVariables false

set_option maxHeartbeats 1000000 in
theorem areFates_any (a : Option Addr) (c : Nat) (fl : List Int) (w : World) (h : IntsAt w a fl) (hl : fl.length ≤ 1048576) :
    Calls Tryd.prog 49 #[.slice a fl.length c] w fun r w' => r = .returned (.bool (fatesB fl)) ∧ w' = w := by
  have HF := hide h
  clear h
  go_enter Tryd.func49, Tryd.ntmps49
  go_wp2_with fail
  go_loop [7] (fun i => ∃ n : Nat, n ≤ fl.length ∧ i = .int .i64 n ∧ Hid (fatesB fl = fatesB (fl.drop n))) (fun i => fl.length - (intOf i).toNat)
  case atStart => exact ⟨0, Nat.zero_le _, rfl, rfl⟩
  case round =>
    obtain ⟨n, hn2, rfl, HX⟩ := hrel
    by_cases hlt : n < fl.length
    · obtain ⟨b1, o1, rfl, hb1, hc1⟩ := (unhide HF).at hlt
      have hc := hc1 n hlt
      have hst := fatesB_drop hlt
      clear hc1
      generalize fl[n] = x at *
      cases hx : inB x 0 1
      · have HV : Hid (fatesB fl = false) := by rw [Hid, unhide HX, hst, hx]; rfl
        clear hst HX
        go_wp2_with (go_at_call 39; refine (isWithin_any _ _ _ _).mono ?_; rintro r w1 ⟨rfl, rfl⟩; rw [hx])
        go_ret
        exact ⟨ret_bool (unhide HV).symm, rfl⟩
      · have HY : Hid (fatesB fl = fatesB (fl.drop (n + 1))) := by rw [Hid, unhide HX, hst, hx]; rfl
        clear hst HX
        go_wp2_with (go_at_call 39; refine (isWithin_any _ _ _ _).mono ?_; rintro r w1 ⟨rfl, rfl⟩; rw [hx])
        go_round
        case rel => exact ⟨n + 1, by omega, by go_num, HY⟩
        case measure => simp [intOf]; omega
    · have HV : Hid (fatesB fl = true) := by rw [Hid, unhide HX, fatesB_end (by omega)]
      clear HX
      go_wp2_with fail
      go_ret
      exact ⟨ret_bool (unhide HV).symm, rfl⟩
def nW (k wo : Int) : Int := if k = 1 then wo else if k = 2 then wo else 0
def nA (k at_ : Int) : Int := if k = 4 then at_ else 0
def nF (k : Int) (fl : List Int) : List Int := if k = 5 then fl else []
def zI (k i : Int) : Int := if k = 1 then i else 0
def zS (k : Int) (s : ByteArray) : ByteArray := if k = 1 then s else ⟨#[]⟩
def zB (k : Int) (d : Bool) : Bool := if k = 1 then d else false
def zL (k : Int) (l : List Int) : List Int := if k = 1 then l else []
theorem ev_form_is (k wo at_ : Int) (fl : List Int) (ok : Int) (op ot : ByteArray) (od : Bool) (oi : Int) (on : List Int) (h : inB k 1 6 = true) : ((wo == nW k wo) && ((at_ == nA k at_) && (decide (fl = nF k fl) && sameO ok (zI k ok) op (zS k op) ot (zS k ot) od (zB k od) oi (zI k oi) on (zL k on)))) = evForm k wo at_ fl ok op ot od oi on := by
  have hl : decide (fl = []) = ((fl.length : Int) == 0) := by cases fl <;> simp; omega
  have hl2 : decide (on = []) = ((on.length : Int) == 0) := by cases on <;> simp; omega
  have hp := noB_eq op
  have ht := noB_eq ot
  rcases evKinds h with rfl | rfl | rfl | rfl | rfl | rfl
  all_goals
    rw [evForm, h]
    simp only [nW, nA, nF, zI, zS, zB, zL, sameO, noOp]
    simp only [reduceIte, Int.reduceEq, hp, ht, hl, hl2, beq_self_eq_true, decide_true, Int.reduceBEq]
    generalize noB op = xp
    generalize noB ot = xt
    generalize ((fl.length : Int) == 0) = xf
    generalize ((on.length : Int) == 0) = xn
    generalize (oi == 0) = xi
    generalize (ok == 0) = xo
    generalize (wo == 0) = xw
    generalize (at_ == 0) = xa
    revert xp xt xf xn xi xo xw xa od
    decide
set_option maxRecDepth 20000 in
set_option maxHeartbeats 4000000 in
theorem sameEvent_any (k wo wo' at_ at_' : Int) (fl fl' : List Int) (ok ok' : Int) (op op' ot ot' : ByteArray) (od od' : Bool) (oi oi' : Int) (on on' : List Int) (af af' a1 a1' : Option Addr) (cf cf' c1 c1' : Nat) (w : World) (hf : IntsAt w af fl) (hf2 : IntsAt w af' fl') (h : IntsAt w a1 on) (h2 : IntsAt w a1' on') (hn : on.length ≤ 1048576) (hl : fl.length ≤ 1048576) :
    Calls Tryd.prog 47 #[.agg #[.int .i64 k, .int .i64 wo, .int .i64 at_, .slice af fl.length cf, .int .i64 ok, .string op, .string ot, .bool od, .int .i64 oi, .slice a1 on.length c1], .agg #[.int .i64 k, .int .i64 wo', .int .i64 at_', .slice af' fl'.length cf', .int .i64 ok', .string op', .string ot', .bool od', .int .i64 oi', .slice a1' on'.length c1']] w fun r w' => r = .returned (.bool ((wo == wo') && ((at_ == at_') && (decide (fl = fl') && sameO ok ok' op op' ot ot' od od' oi oi' on on')))) ∧ Below w.heap.size w w' := by
  obtain ⟨W, hW, hWz, HB0, HX0, HY0⟩ := boxes2 w [.int .i64 k, .int .i64 wo, .int .i64 at_, .slice af fl.length cf, .int .i64 ok, .string op, .string ot, .bool od, .int .i64 oi, .slice a1 on.length c1] [.int .i64 k, .int .i64 wo', .int .i64 at_', .slice af' fl'.length cf', .int .i64 ok', .string op', .string ot', .bool od', .int .i64 oi', .slice a1' on'.length c1'] 44 44
  have H := hide (h.below (unhide HB0))
  have H2 := hide (h2.below (unhide HB0))
  have F := hide (hf.below (unhide HB0))
  have F2 := hide (hf2.below (unhide HB0))
  clear h h2 hf hf2
  have hkk : (k == k) = true := by simp
  cases hw0 : (wo == wo')
  · go_enter Tryd.func47, Tryd.ntmps47
    go_wp2_with fail
    go_ret
    exact ⟨rfl, by rw [← hW]; exact unhide HB0⟩
  cases ha0 : (at_ == at_')
  · go_enter Tryd.func47, Tryd.ntmps47
    go_wp2_with fail
    go_ret
    exact ⟨rfl, by rw [← hW]; exact unhide HB0⟩
  go_enter Tryd.func47, Tryd.ntmps47
  go_wp2_with fail
  rw [← hW]
  clear hW
  refine (eqInts_any af af' cf cf' fl fl' _ (unhide F) (unhide F2) hl).mono ?_
  rintro r w3 ⟨rfl, hb3⟩
  have X3 := hide ((unhide HX0).below hb3)
  have Y3 := hide ((unhide HY0).below hb3)
  have I3 := hide ((unhide H).below hb3)
  have I4 := hide ((unhide H2).below hb3)
  have B3 := hide (below_step (unhide HB0) hb3 (by omega))
  have z3 := hb3.size
  clear hb3 HX0 HY0 H H2 HB0 F F2
  have x4 := (unhide X3).cell 4
  have y4 := (unhide Y3).cell 4
  have x5 := (unhide X3).cell 5
  have y5 := (unhide Y3).cell 5
  have x6 := (unhide X3).cell 6
  have y6 := (unhide Y3).cell 6
  have x7 := (unhide X3).cell 7
  have y7 := (unhide Y3).cell 7
  have x8 := (unhide X3).cell 8
  have y8 := (unhide Y3).cell 8
  have x9 := (unhide X3).cell 9
  have y9 := (unhide Y3).cell 9
  simp only [List.getElem?_cons_zero, List.getElem?_cons_succ] at x4 x5 x6 x7 x8 x9 y4 y5 y6 y7 y8 y9
  cases hq : decide (fl = fl')
  · go_wp2_with fail
    go_ret
    exact ⟨ret_bool (by rw [hq]; simp), unhide B3⟩
  have HQ := hide hq
  clear hq
  go_wp2_with fail
  refine (sameOpG_any ok ok' op op' ot ot' od od' oi oi' on on' a1 a1' c1 c1' _ (unhide I3) (unhide I4) hn).mono ?_
  rintro r w4 ⟨rfl, hb4⟩
  have B4 := hide (below_step (unhide B3) hb4 (by omega))
  clear hb4 B3 X3 Y3 x4 x5 x6 x7 x8 x9 y4 y5 y6 y7 y8 y9
  go_wp2_with fail
  go_ret
  exact ⟨ret_bool (by rw [unhide HQ]; simp), unhide B4⟩
end Go.Proofs.YtcccpifecojijaaDoor
