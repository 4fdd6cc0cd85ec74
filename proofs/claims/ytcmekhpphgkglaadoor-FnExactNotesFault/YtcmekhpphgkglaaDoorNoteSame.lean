/-
  What impl.sameOp, impl.sameReply, impl.sameNote and impl.SameNotes answer.
-/
import Derived.Test.YtcmekhpphgkglaaDoorNoteMath
import Derived.Test.YtcmekhpphgkglaaDoorEqB
import Derived.Test.YtcmekhpphgkglaaDoorNodeEq
import Derived.BigQuiet
import Derived.Deep.QuietTactic
namespace Go.Proofs.YtcmekhpphgkglaaDoor
open Go.RowKit
set_option linter.unusedVariables false

set_option maxHeartbeats 1000000 in
theorem eqTexts_any (a b : Option Addr) (c d : Nat) (l m : List ByteArray) (w : World) (h : StrsAt w a l) (h2 : StrsAt w b m) (hn : l.length ≤ 1048576) :
    Calls Tryd.prog 82 #[.slice a l.length c, .slice b m.length d] w fun e w' => e = .returned (.bool (decide (l = m))) ∧ Below w.heap.size w w' := by
  by_cases hl : l.length = m.length
  case neg =>
    have hne : ((l.length : Int) != (m.length : Int)) = true := by simp; omega
    have HR : Hid (decide (l = m) = false) := decide_eq_false (fun e => hl (by rw [e]))
    clear h h2
    go_enter Tryd.func82, Tryd.ntmps82
    go_wp2
    go_ret
    exact ⟨ret_bool (unhide HR).symm, Below.refl _ _⟩
  have hne : ((l.length : Int) != (m.length : Int)) = false := by simp; omega
  go_enter Tryd.func82, Tryd.ntmps82
  go_wp2
  go_loopw [13] (fun i wr => ∃ (k n : Nat), k ≤ l.length ∧ i = .int .i64 k ∧ wr = w.drewN n ∧ Hid (∀ j, j < k → l[j]? = m[j]?)) (fun i _ => l.length - (intOf i).toNat)
  case atStart => exact ⟨0, 0, Nat.zero_le _, rfl, rfl, fun j hj => absurd hj (Nat.not_lt_zero j)⟩
  case round =>
    obtain ⟨k, n, hk, rfl, rfl, HX⟩ := hrel
    by_cases hlt : k < l.length
    · have hltm : k < m.length := by omega
      obtain ⟨b1, o1, rfl, _, hc1⟩ := h.at hlt
      obtain ⟨b2, o2, rfl, _, hc2⟩ := h2.at hltm
      have hk1 := hc1 k hlt
      have hk2 := hc2 k hltm
      have hlt' : (k : Int) < l.length := by omega
      have hltm' : (k : Int) < m.length := by omega
      clear hc1 hc2 h h2
      by_cases he : l[k] = m[k]
      · have HX2 : Hid (∀ j, j < k + 1 → l[j]? = m[j]?) := by
          intro j hj
          by_cases e : j = k
          · subst e; rw [List.getElem?_eq_getElem hlt, List.getElem?_eq_getElem hltm, he]
          · exact unhide HX j (by omega)
        have hq : (l[k].toList == m[k].toList) = true := by rw [he]; simp
        clear HX
        generalize l[k] = x at *
        generalize m[k] = y at *
        clear he
        go_wp2
        go_quiet (fail)
        go_wp2
        exact ⟨⟨k + 1, _, by omega, by go_num, rfl, HX2⟩, by simp [intOf]; omega⟩
      · have HR : Hid (decide (l = m) = false) := decide_eq_false (fun e => he (by simp [e]))
        have hq : (l[k].toList == m[k].toList) = false := by simpa using fun e => he (bytes_toList_inj e)
        clear HX he
        generalize l[k] = x at *
        generalize m[k] = y at *
        go_wp2
        go_quiet (fail)
        go_wp2
        go_ret
        exact ⟨ret_bool (unhide HR).symm, below_drewN (below_drewN (Below.refl _ _) _) _⟩
    · have HR : Hid (decide (l = m) = true) := decide_eq_true (by
        apply List.ext_getElem?
        intro j
        by_cases hj : j < k
        · exact unhide HX j hj
        · rw [List.getElem?_eq_none (by omega), List.getElem?_eq_none (by omega)])
      clear HX h h2
      go_wp2
      go_ret
      exact ⟨ret_bool (unhide HR).symm, below_drewN (Below.refl _ _) _⟩
set_option maxRecDepth 20000 in
set_option maxHeartbeats 4000000 in
theorem sameOpG_any (ok ok' : Int) (op op' ot ot' : ByteArray) (od od' : Bool) (oi oi' : Int) (on on' : List Int) (a1 a1' : Option Addr) (c1 c1' : Nat) (w : World) (h : IntsAt w a1 on) (h2 : IntsAt w a1' on') (hn : on.length ≤ 1048576) :
    Calls Tryd.prog 67 #[.agg #[.int .i64 ok, .string op, .string ot, .bool od, .int .i64 oi, .slice a1 on.length c1], .agg #[.int .i64 ok', .string op', .string ot', .bool od', .int .i64 oi', .slice a1' on'.length c1']] w fun r w' => r = .returned (.bool (sameO ok ok' op op' ot ot' od od' oi oi' on on')) ∧ Below w.heap.size w w' := by
  obtain ⟨W, hW, hWz, HB0, HX0, HY0⟩ := boxes2 w [.int .i64 ok, .string op, .string ot, .bool od, .int .i64 oi, .slice a1 on.length c1] [.int .i64 ok', .string op', .string ot', .bool od', .int .i64 oi', .slice a1' on'.length c1'] 61 61
  have H := hide (h.below (unhide HB0))
  have H2 := hide (h2.below (unhide HB0))
  clear h h2
  cases hk : (ok == ok')
  · have HV : Hid (sameO ok ok' op op' ot ot' od od' oi oi' on on' = false) := by simp [Hid, sameO, hk]
    go_enter Tryd.func67, Tryd.ntmps67
    go_wp2_with fail
    go_ret
    exact ⟨ret_bool (unhide HV).symm, by rw [← hW]; exact unhide HB0⟩
  cases hp : (op.toList == op'.toList)
  · have HV : Hid (sameO ok ok' op op' ot ot' od od' oi oi' on on' = false) := by simp [Hid, sameO, hk, hp]
    go_enter Tryd.func67, Tryd.ntmps67
    go_wp2_with fail
    go_ret
    exact ⟨ret_bool (unhide HV).symm, by rw [← hW]; exact unhide HB0⟩
  cases ht : (ot.toList == ot'.toList)
  · have HV : Hid (sameO ok ok' op op' ot ot' od od' oi oi' on on' = false) := by simp [Hid, sameO, hk, hp, ht]
    go_enter Tryd.func67, Tryd.ntmps67
    go_wp2_with fail
    go_ret
    exact ⟨ret_bool (unhide HV).symm, by rw [← hW]; exact unhide HB0⟩
  cases hd : (od == od')
  · have HV : Hid (sameO ok ok' op op' ot ot' od od' oi oi' on on' = false) := by simp [Hid, sameO, hk, hp, ht, hd]
    go_enter Tryd.func67, Tryd.ntmps67
    go_wp2_with fail
    go_ret
    exact ⟨ret_bool (unhide HV).symm, by rw [← hW]; exact unhide HB0⟩
  cases hi : (oi == oi')
  · have HV : Hid (sameO ok ok' op op' ot ot' od od' oi oi' on on' = false) := by simp [Hid, sameO, hk, hp, ht, hd, hi]
    go_enter Tryd.func67, Tryd.ntmps67
    go_wp2_with fail
    go_ret
    exact ⟨ret_bool (unhide HV).symm, by rw [← hW]; exact unhide HB0⟩
  have HV : Hid (sameO ok ok' op op' ot ot' od od' oi oi' on on' = decide (on = on')) := by rw [Hid, sameO, hk, hp, ht, hd, hi]; simp
  go_enter Tryd.func67, Tryd.ntmps67
  go_wp2_with fail
  rw [← hW]
  clear hW
  refine (eqInts_any a1 a1' c1 c1' on on' _ (unhide H) (unhide H2) hn).mono ?_
  rintro r w3 ⟨rfl, hb3⟩
  have B3 := hide (below_step (unhide HB0) hb3 (by omega))
  clear hb3
  generalize decide (on = on') = bq at *
  go_wp2_with fail
  go_ret
  exact ⟨ret_bool (unhide HV).symm, unhide B3⟩
set_option maxRecDepth 20000 in
set_option maxHeartbeats 4000000 in
theorem sameReply_any (rc rc' : Int) (rn rn' : List Int) (rs rs' : List ByteArray) (a2 a2' a3 a3' : Option Addr) (c2 c2' c3 c3' : Nat) (w : World) (h : IntsAt w a2 rn) (h2 : IntsAt w a2' rn') (h3 : StrsAt w a3 rs) (h4 : StrsAt w a3' rs') (hn : rn.length ≤ 1048576) (hs : rs.length ≤ 1048576) :
    Calls Tryd.prog 68 #[.agg #[.int .i64 rc, .slice a2 rn.length c2, .slice a3 rs.length c3], .agg #[.int .i64 rc', .slice a2' rn'.length c2', .slice a3' rs'.length c3']] w fun r w' => r = .returned (.bool ((rc == rc') && decide (rn = rn') && decide (rs = rs'))) ∧ Below w.heap.size w w' := by
  obtain ⟨W, hW, hWz, HB0, HX0, HY0⟩ := boxes2 w [.int .i64 rc, .slice a2 rn.length c2, .slice a3 rs.length c3] [.int .i64 rc', .slice a2' rn'.length c2', .slice a3' rs'.length c3'] 62 62
  have H := hide (h.below (unhide HB0))
  have H2 := hide (h2.below (unhide HB0))
  have H3 := hide (h3.below (unhide HB0))
  have H4 := hide (h4.below (unhide HB0))
  clear h h2 h3 h4
  cases hc : (rc == rc')
  · go_enter Tryd.func68, Tryd.ntmps68
    go_wp2_with fail
    go_ret
    exact ⟨ret_bool (by simp), by rw [← hW]; exact unhide HB0⟩
  go_enter Tryd.func68, Tryd.ntmps68
  go_wp2_with fail
  rw [← hW]
  clear hW
  refine (eqInts_any a2 a2' c2 c2' rn rn' _ (unhide H) (unhide H2) hn).mono ?_
  rintro r w3 ⟨rfl, hb3⟩
  have X3 := hide ((unhide HX0).below hb3)
  have Y3 := hide ((unhide HY0).below hb3)
  have I3 := hide ((unhide H3).below hb3)
  have I4 := hide ((unhide H4).below hb3)
  have B3 := hide (below_step (unhide HB0) hb3 (by omega))
  have z3 := hb3.size
  clear hb3 HX0 HY0 H H2 H3 H4 HB0
  cases hq : decide (rn = rn')
  · go_wp2_with fail
    go_ret
    exact ⟨ret_bool (by first | rw [hq, Bool.true_and, Bool.false_and] | simp_all), unhide B3⟩
  have HQ := hide hq
  clear hq
  have x2 := (unhide X3).cell 2
  have y2 := (unhide Y3).cell 2
  simp only [List.getElem?_cons_zero, List.getElem?_cons_succ] at x2 y2
  go_wp2_with fail
  refine (eqTexts_any a3 a3' c3 c3' rs rs' _ (unhide I3) (unhide I4) hs).mono ?_
  rintro r w4 ⟨rfl, hb4⟩
  have B4 := hide (below_step (unhide B3) hb4 (by omega))
  clear hb4 B3 X3 Y3 x2 y2
  generalize hbq : decide (rs = rs') = bq at *
  have HR3 := hide hbq
  clear hbq
  go_wp2_with fail
  go_ret
  exact ⟨ret_bool (by have h1 := unhide HQ; have h2 := unhide HR3; simp only [h1, h2, Bool.true_and]), unhide B4⟩
set_option maxRecDepth 20000 in
set_option maxHeartbeats 4000000 in
theorem sameNote_any (x y : NteA) (w : World) (h : x.side w) (h2 : y.side w) (hm : x.small) :
    Calls Tryd.prog 48 #[.agg x.cells.toArray, .agg y.cells.toArray] w fun r w' => r = .returned (.bool (sameNte x.b y.b)) ∧ Below w.heap.size w w' := by
  obtain ⟨⟨k, wo, e, ok, op, ot, od, oi, on, rc, rn, rs⟩, a1, c1, a2, c2, a3, c3⟩ := x
  obtain ⟨⟨k', wo', e', ok', op', ot', od', oi', on', rc', rn', rs'⟩, a1', c1', a2', c2', a3', c3'⟩ := y
  simp only [NteA.cells] at *
  obtain ⟨W, hW, hWz, HB0, HX0, HY0⟩ := boxes2 w [.int .i64 k, .int .i64 wo, .int .i64 e, .int .i64 ok, .string op, .string ot, .bool od, .int .i64 oi, .slice a1 on.length c1, .int .i64 rc, .slice a2 rn.length c2, .slice a3 rs.length c3] [.int .i64 k', .int .i64 wo', .int .i64 e', .int .i64 ok', .string op', .string ot', .bool od', .int .i64 oi', .slice a1' on'.length c1', .int .i64 rc', .slice a2' rn'.length c2', .slice a3' rs'.length c3'] 64 64
  have H := hide (h.below (unhide HB0))
  have H2 := hide (h2.below (unhide HB0))
  have HM := hide hm
  clear h h2 hm
  have hr : sameNte ⟨k, wo, e, ok, op, ot, od, oi, on, rc, rn, rs⟩ ⟨k', wo', e', ok', op', ot', od', oi', on', rc', rn', rs'⟩ = ((k == k') && (wo == wo') && (e == e') && sameO ok ok' op op' ot ot' od od' oi oi' on on' && ((rc == rc') && decide (rn = rn') && decide (rs = rs'))) := by
    simp only [sameNte, Bool.and_assoc]
  generalize hv : sameNte _ _ = v at *
  have HR := hide hr
  clear hr hv
  cases hb0 : (k == k')
  · have HV : Hid (v = false) := by rw [Hid, unhide HR, hb0]; simp
    go_enter Tryd.func48, Tryd.ntmps48
    go_wp2_with fail
    go_ret
    exact ⟨ret_bool (unhide HV).symm, by rw [← hW]; exact unhide HB0⟩
  cases hb1 : (wo == wo')
  · have HV : Hid (v = false) := by rw [Hid, unhide HR, hb0, hb1]; simp
    go_enter Tryd.func48, Tryd.ntmps48
    go_wp2_with fail
    go_ret
    exact ⟨ret_bool (unhide HV).symm, by rw [← hW]; exact unhide HB0⟩
  cases hb2 : (e == e')
  · have HV : Hid (v = false) := by rw [Hid, unhide HR, hb0, hb1, hb2]; simp
    go_enter Tryd.func48, Tryd.ntmps48
    go_wp2_with fail
    go_ret
    exact ⟨ret_bool (unhide HV).symm, by rw [← hW]; exact unhide HB0⟩
  have HV : Hid (v = (sameO ok ok' op op' ot ot' od od' oi oi' on on' && ((rc == rc') && decide (rn = rn') && decide (rs = rs')))) := by rw [Hid, unhide HR, hb0, hb1, hb2]; simp
  clear HR
  go_enter Tryd.func48, Tryd.ntmps48
  go_wp2_with fail
  rw [← hW]
  clear hW
  refine (sameOpG_any ok ok' op op' ot ot' od od' oi oi' on on' a1 a1' c1 c1' _ (unhide H).1 (unhide H2).1 (unhide HM).1).mono ?_
  rintro r w3 ⟨rfl, hb3⟩
  have X3 := hide ((unhide HX0).below hb3)
  have Y3 := hide ((unhide HY0).below hb3)
  have I3 := hide ((unhide H).below hb3)
  have I4 := hide ((unhide H2).below hb3)
  have B3 := hide (below_step (unhide HB0) hb3 (by omega))
  have z3 := hb3.size
  clear hb3 HX0 HY0 H H2 HB0
  cases hq : sameO ok ok' op op' ot ot' od od' oi oi' on on'
  · have HV2 : Hid (v = false) := by rw [Hid, unhide HV, hq]; rfl
    clear HV hq
    go_wp2_with fail
    go_ret
    exact ⟨ret_bool (unhide HV2).symm, unhide B3⟩
  have HV2 : Hid (v = ((rc == rc') && decide (rn = rn') && decide (rs = rs'))) := by rw [Hid, unhide HV, hq]; rfl
  clear hq HV
  have x9 := (unhide X3).cell 9
  have y9 := (unhide Y3).cell 9
  have x10 := (unhide X3).cell 10
  have y10 := (unhide Y3).cell 10
  have x11 := (unhide X3).cell 11
  have y11 := (unhide Y3).cell 11
  simp only [List.getElem?_cons_zero, List.getElem?_cons_succ] at x9 y9 x10 y10 x11 y11
  go_wp2_with fail
  refine (sameReply_any rc rc' rn rn' rs rs' a2 a2' a3 a3' c2 c2' c3 c3' _ (unhide I3).2.1 (unhide I4).2.1 (unhide I3).2.2 (unhide I4).2.2 (unhide HM).2.1 (unhide HM).2.2).mono ?_
  rintro r w4 ⟨rfl, hb4⟩
  have B4 := hide (below_step (unhide B3) hb4 (by omega))
  clear hb4 B3 X3 Y3 x9 y9 x10 y10 x11 y11
  generalize ((rc == rc') && decide (rn = rn') && decide (rs = rs')) = bq at *
  go_wp2_with fail
  go_ret
  exact ⟨ret_bool (unhide HV2).symm, unhide B4⟩
end Go.Proofs.YtcmekhpphgkglaaDoor
