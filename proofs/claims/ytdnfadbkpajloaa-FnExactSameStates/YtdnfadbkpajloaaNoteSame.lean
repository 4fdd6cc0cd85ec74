/-
  What impl.sameOp, impl.sameReply, impl.sameNote and impl.SameNotes answer.
-/
import Derived.Test.YtdnfadbkpajloaaNoteMath
import Derived.Test.YtdnfadbkpajloaaEqB
import Derived.Test.YtdnfadbkpajloaaNodeEq
import Derived.BigQuiet
import Derived.Deep.QuietTactic
namespace Go.Proofs.Ytdnfadbkpajloaa
open Go.RowKit
set_option linter.unusedVariables false

set_option maxHeartbeats 1000000 in
theorem eqTexts_any (a b : Option Addr) (c d : Nat) (l m : List ByteArray) (w : World) (h : StrsAt w a l) (h2 : StrsAt w b m) (hn : l.length ≤ 1048576) :
    Calls Try.prog 214 #[.slice a l.length c, .slice b m.length d] w fun e w' => e = .returned (.bool (decide (l = m))) ∧ Below w.heap.size w w' := by
  by_cases hl : l.length = m.length
  case neg =>
    have hne : ((l.length : Int) != (m.length : Int)) = true := by simp; omega
    have HR : Hid (decide (l = m) = false) := decide_eq_false (fun e => hl (by rw [e]))
    clear h h2
    go_enter Try.func214, Try.ntmps214
    go_wp2
    go_ret
    exact ⟨ret_bool (unhide HR).symm, Below.refl _ _⟩
  have hne : ((l.length : Int) != (m.length : Int)) = false := by simp; omega
  go_enter Try.func214, Try.ntmps214
  go_wp2
  go_loopw [13] (fun i wr => ∃ (k n : Nat), k ≤ l.length ∧ i = .int .i64 k ∧ wr = w.drewN n ∧ Hid (∀ j, j < k → l[j]? = m[j]?)) (fun i _ => l.length - (intOf i).toNat)
  case atStart => exact ⟨0, 0, Nat.zero_le _, rfl, rfl, fun j hj => absurd hj (Nat.not_lt_zero j)⟩
  case round =>
    obtain ⟨k, n, hk, rfl, rfl, HX⟩ := hrel
    by_cases hlt : k < l.length
    · have hltm : k < m.length := by omega
      obtain ⟨b1, o1, rfl, _, hc1⟩ := h.at hlt
      obtain ⟨b2, o2, rfl, _, hc2⟩ := h2.at hltm
      have hk1 := hc1 k hlt
      have hk2 := hc2 k hltm
      have hlt' : (k : Int) < l.length := by omega
      have hltm' : (k : Int) < m.length := by omega
      clear hc1 hc2 h h2
      by_cases he : l[k] = m[k]
      · have HX2 : Hid (∀ j, j < k + 1 → l[j]? = m[j]?) := by
          intro j hj
          by_cases e : j = k
          · subst e; rw [List.getElem?_eq_getElem hlt, List.getElem?_eq_getElem hltm, he]
          · exact unhide HX j (by omega)
        have hq : (l[k].toList == m[k].toList) = true := by rw [he]; simp
        clear HX
        generalize l[k] = x at *
        generalize m[k] = y at *
        clear he
        go_wp2
        go_quiet (fail)
        go_wp2
        exact ⟨⟨k + 1, _, by omega, by go_num, rfl, HX2⟩, by simp [intOf]; omega⟩
      · have HR : Hid (decide (l = m) = false) := decide_eq_false (fun e => he (by simp [e]))
        have hq : (l[k].toList == m[k].toList) = false := by simpa using fun e => he (bytes_toList_inj e)
        clear HX he
        generalize l[k] = x at *
        generalize m[k] = y at *
        go_wp2
        go_quiet (fail)
        go_wp2
        go_ret
        exact ⟨ret_bool (unhide HR).symm, below_drewN (below_drewN (Below.refl _ _) _) _⟩
    · have HR : Hid (decide (l = m) = true) := decide_eq_true (by
        apply List.ext_getElem?
        intro j
        by_cases hj : j < k
        · exact unhide HX j hj
        · rw [List.getElem?_eq_none (by omega), List.getElem?_eq_none (by omega)])
      clear HX h h2
      go_wp2
      go_ret
      exact ⟨ret_bool (unhide HR).symm, below_drewN (Below.refl _ _) _⟩
set_option maxRecDepth 20000 in
set_option maxHeartbeats 4000000 in
theorem sameOpG_any (ok ok' : Int) (op op' ot ot' : ByteArray) (od od' : Bool) (oi oi' : Int) (on on' : List Int) (a1 a1' : Option Addr) (c1 c1' : Nat) (w : World) (h : IntsAt w a1 on) (h2 : IntsAt w a1' on') (hn : on.length ≤ 1048576) :
    Calls Try.prog 182 #[.agg #[.int .i64 ok, .string op, .string ot, .bool od, .int .i64 oi, .slice a1 on.length c1], .agg #[.int .i64 ok', .string op', .string ot', .bool od', .int .i64 oi', .slice a1' on'.length c1']] w fun r w' => r = .returned (.bool (sameO ok ok' op op' ot ot' od od' oi oi' on on')) ∧ Below w.heap.size w w' := by
  obtain ⟨W, hW, hWz, HB0, HX0, HY0⟩ := boxes2 w [.int .i64 ok, .string op, .string ot, .bool od, .int .i64 oi, .slice a1 on.length c1] [.int .i64 ok', .string op', .string ot', .bool od', .int .i64 oi', .slice a1' on'.length c1'] 182 182
  have H := hide (h.below (unhide HB0))
  have H2 := hide (h2.below (unhide HB0))
  clear h h2
  cases hk : (ok == ok')
  · have HV : Hid (sameO ok ok' op op' ot ot' od od' oi oi' on on' = false) := by simp [Hid, sameO, hk]
    go_enter Try.func182, Try.ntmps182
    go_wp2_with fail
    go_ret
    exact ⟨ret_bool (unhide HV).symm, by rw [← hW]; exact unhide HB0⟩
  cases hp : (op.toList == op'.toList)
  · have HV : Hid (sameO ok ok' op op' ot ot' od od' oi oi' on on' = false) := by simp [Hid, sameO, hk, hp]
    go_enter Try.func182, Try.ntmps182
    go_wp2_with fail
    go_ret
    exact ⟨ret_bool (unhide HV).symm, by rw [← hW]; exact unhide HB0⟩
  cases ht : (ot.toList == ot'.toList)
  · have HV : Hid (sameO ok ok' op op' ot ot' od od' oi oi' on on' = false) := by simp [Hid, sameO, hk, hp, ht]
    go_enter Try.func182, Try.ntmps182
    go_wp2_with fail
    go_ret
    exact ⟨ret_bool (unhide HV).symm, by rw [← hW]; exact unhide HB0⟩
  cases hd : (od == od')
  · have HV : Hid (sameO ok ok' op op' ot ot' od od' oi oi' on on' = false) := by simp [Hid, sameO, hk, hp, ht, hd]
    go_enter Try.func182, Try.ntmps182
    go_wp2_with fail
    go_ret
    exact ⟨ret_bool (unhide HV).symm, by rw [← hW]; exact unhide HB0⟩
  cases hi : (oi == oi')
  · have HV : Hid (sameO ok ok' op op' ot ot' od od' oi oi' on on' = false) := by simp [Hid, sameO, hk, hp, ht, hd, hi]
    go_enter Try.func182, Try.ntmps182
    go_wp2_with fail
    go_ret
    exact ⟨ret_bool (unhide HV).symm, by rw [← hW]; exact unhide HB0⟩
  have HV : Hid (sameO ok ok' op op' ot ot' od od' oi oi' on on' = decide (on = on')) := by rw [Hid, sameO, hk, hp, ht, hd, hi]; simp
  go_enter Try.func182, Try.ntmps182
  go_wp2_with fail
  rw [← hW]
  clear hW
  refine (eqInts_any a1 a1' c1 c1' on on' _ (unhide H) (unhide H2) hn).mono ?_
  rintro r w3 ⟨rfl, hb3⟩
  have B3 := hide (below_step (unhide HB0) hb3 (by omega))
  clear hb3
  generalize decide (on = on') = bq at *
  go_wp2_with fail
  go_ret
  exact ⟨ret_bool (unhide HV).symm, unhide B3⟩
set_option maxRecDepth 20000 in
set_option maxHeartbeats 4000000 in
theorem sameReply_any (rc rc' : Int) (rn rn' : List Int) (rs rs' : List ByteArray) (a2 a2' a3 a3' : Option Addr) (c2 c2' c3 c3' : Nat) (w : World) (h : IntsAt w a2 rn) (h2 : IntsAt w a2' rn') (h3 : StrsAt w a3 rs) (h4 : StrsAt w a3' rs') (hn : rn.length ≤ 1048576) (hs : rs.length ≤ 1048576) :
    Calls Try.prog 183 #[.agg #[.int .i64 rc, .slice a2 rn.length c2, .slice a3 rs.length c3], .agg #[.int .i64 rc', .slice a2' rn'.length c2', .slice a3' rs'.length c3']] w fun r w' => r = .returned (.bool ((rc == rc') && decide (rn = rn') && decide (rs = rs'))) ∧ Below w.heap.size w w' := by
  obtain ⟨W, hW, hWz, HB0, HX0, HY0⟩ := boxes2 w [.int .i64 rc, .slice a2 rn.length c2, .slice a3 rs.length c3] [.int .i64 rc', .slice a2' rn'.length c2', .slice a3' rs'.length c3'] 183 183
  have H := hide (h.below (unhide HB0))
  have H2 := hide (h2.below (unhide HB0))
  have H3 := hide (h3.below (unhide HB0))
  have H4 := hide (h4.below (unhide HB0))
  clear h h2 h3 h4
  cases hc : (rc == rc')
  · go_enter Try.func183, Try.ntmps183
    go_wp2_with fail
    go_ret
    exact ⟨ret_bool (by simp), by rw [← hW]; exact unhide HB0⟩
  go_enter Try.func183, Try.ntmps183
  go_wp2_with fail
  rw [← hW]
  clear hW
  refine (eqInts_any a2 a2' c2 c2' rn rn' _ (unhide H) (unhide H2) hn).mono ?_
  rintro r w3 ⟨rfl, hb3⟩
  have X3 := hide ((unhide HX0).below hb3)
  have Y3 := hide ((unhide HY0).below hb3)
  have I3 := hide ((unhide H3).below hb3)
  have I4 := hide ((unhide H4).below hb3)
  have B3 := hide (below_step (unhide HB0) hb3 (by omega))
  have z3 := hb3.size
  clear hb3 HX0 HY0 H H2 H3 H4 HB0
  cases hq : decide (rn = rn')
  · go_wp2_with fail
    go_ret
    exact ⟨ret_bool (by first | rw [hq, Bool.true_and, Bool.false_and] | simp_all), unhide B3⟩
  have HQ := hide hq
  clear hq
  have x2 := (unhide X3).cell 2
  have y2 := (unhide Y3).cell 2
  simp only [List.getElem?_cons_zero, List.getElem?_cons_succ] at x2 y2
  go_wp2_with fail
  refine (eqTexts_any a3 a3' c3 c3' rs rs' _ (unhide I3) (unhide I4) hs).mono ?_
  rintro r w4 ⟨rfl, hb4⟩
  have B4 := hide (below_step (unhide B3) hb4 (by omega))
  clear hb4 B3 X3 Y3 x2 y2
  generalize hbq : decide (rs = rs') = bq at *
  have HR3 := hide hbq
  clear hbq
  go_wp2_with fail
  go_ret
  exact ⟨ret_bool (by have h1 := unhide HQ; have h2 := unhide HR3; simp only [h1, h2, Bool.true_and]), unhide B4⟩
set_option maxRecDepth 20000 in
set_option maxHeartbeats 4000000 in
theorem sameNote_any (x y : NteA) (w : World) (h : x.side w) (h2 : y.side w) (hm : x.small) :
    Calls Try.prog 130 #[.agg x.cells.toArray, .agg y.cells.toArray] w fun r w' => r = .returned (.bool (sameNte x.b y.b)) ∧ Below w.heap.size w w' := by
  obtain ⟨⟨k, wo, e, ok, op, ot, od, oi, on, rc, rn, rs⟩, a1, c1, a2, c2, a3, c3⟩ := x
  obtain ⟨⟨k', wo', e', ok', op', ot', od', oi', on', rc', rn', rs'⟩, a1', c1', a2', c2', a3', c3'⟩ := y
  simp only [NteA.cells] at *
  obtain ⟨W, hW, hWz, HB0, HX0, HY0⟩ := boxes2 w [.int .i64 k, .int .i64 wo, .int .i64 e, .int .i64 ok, .string op, .string ot, .bool od, .int .i64 oi, .slice a1 on.length c1, .int .i64 rc, .slice a2 rn.length c2, .slice a3 rs.length c3] [.int .i64 k', .int .i64 wo', .int .i64 e', .int .i64 ok', .string op', .string ot', .bool od', .int .i64 oi', .slice a1' on'.length c1', .int .i64 rc', .slice a2' rn'.length c2', .slice a3' rs'.length c3'] 185 185
  have H := hide (h.below (unhide HB0))
  have H2 := hide (h2.below (unhide HB0))
  have HM := hide hm
  clear h h2 hm
  have hr : sameNte ⟨k, wo, e, ok, op, ot, od, oi, on, rc, rn, rs⟩ ⟨k', wo', e', ok', op', ot', od', oi', on', rc', rn', rs'⟩ = ((k == k') && (wo == wo') && (e == e') && sameO ok ok' op op' ot ot' od od' oi oi' on on' && ((rc == rc') && decide (rn = rn') && decide (rs = rs'))) := by
    simp only [sameNte, Bool.and_assoc]
  generalize hv : sameNte _ _ = v at *
  have HR := hide hr
  clear hr hv
  cases hb0 : (k == k')
  · have HV : Hid (v = false) := by rw [Hid, unhide HR, hb0]; simp
    go_enter Try.func130, Try.ntmps130
    go_wp2_with fail
    go_ret
    exact ⟨ret_bool (unhide HV).symm, by rw [← hW]; exact unhide HB0⟩
  cases hb1 : (wo == wo')
  · have HV : Hid (v = false) := by rw [Hid, unhide HR, hb0, hb1]; simp
    go_enter Try.func130, Try.ntmps130
    go_wp2_with fail
    go_ret
    exact ⟨ret_bool (unhide HV).symm, by rw [← hW]; exact unhide HB0⟩
  cases hb2 : (e == e')
  · have HV : Hid (v = false) := by rw [Hid, unhide HR, hb0, hb1, hb2]; simp
    go_enter Try.func130, Try.ntmps130
    go_wp2_with fail
    go_ret
    exact ⟨ret_bool (unhide HV).symm, by rw [← hW]; exact unhide HB0⟩
  have HV : Hid (v = (sameO ok ok' op op' ot ot' od od' oi oi' on on' && ((rc == rc') && decide (rn = rn') && decide (rs = rs')))) := by rw [Hid, unhide HR, hb0, hb1, hb2]; simp
  clear HR
  go_enter Try.func130, Try.ntmps130
  go_wp2_with fail
  rw [← hW]
  clear hW
  refine (sameOpG_any ok ok' op op' ot ot' od od' oi oi' on on' a1 a1' c1 c1' _ (unhide H).1 (unhide H2).1 (unhide HM).1).mono ?_
  rintro r w3 ⟨rfl, hb3⟩
  have X3 := hide ((unhide HX0).below hb3)
  have Y3 := hide ((unhide HY0).below hb3)
  have I3 := hide ((unhide H).below hb3)
  have I4 := hide ((unhide H2).below hb3)
  have B3 := hide (below_step (unhide HB0) hb3 (by omega))
  have z3 := hb3.size
  clear hb3 HX0 HY0 H H2 HB0
  cases hq : sameO ok ok' op op' ot ot' od od' oi oi' on on'
  · have HV2 : Hid (v = false) := by rw [Hid, unhide HV, hq]; rfl
    clear HV hq
    go_wp2_with fail
    go_ret
    exact ⟨ret_bool (unhide HV2).symm, unhide B3⟩
  have HV2 : Hid (v = ((rc == rc') && decide (rn = rn') && decide (rs = rs'))) := by rw [Hid, unhide HV, hq]; rfl
  clear hq HV
  have x9 := (unhide X3).cell 9
  have y9 := (unhide Y3).cell 9
  have x10 := (unhide X3).cell 10
  have y10 := (unhide Y3).cell 10
  have x11 := (unhide X3).cell 11
  have y11 := (unhide Y3).cell 11
  simp only [List.getElem?_cons_zero, List.getElem?_cons_succ] at x9 y9 x10 y10 x11 y11
  go_wp2_with fail
  refine (sameReply_any rc rc' rn rn' rs rs' a2 a2' a3 a3' c2 c2' c3 c3' _ (unhide I3).2.1 (unhide I4).2.1 (unhide I3).2.2 (unhide I4).2.2 (unhide HM).2.1 (unhide HM).2.2).mono ?_
  rintro r w4 ⟨rfl, hb4⟩
  have B4 := hide (below_step (unhide B3) hb4 (by omega))
  clear hb4 B3 X3 Y3 x9 y9 x10 y10 x11 y11
  generalize ((rc == rc') && decide (rn = rn') && decide (rs = rs')) = bq at *
  go_wp2_with fail
  go_ret
  exact ⟨ret_bool (unhide HV2).symm, unhide B4⟩
set_option maxRecDepth 20000 in
set_option maxHeartbeats 4000000 in
theorem equalFuncNte_any (a b : Option Addr) (c d : Nat) (L M : List NteA) (w : World) (h : NtesAt w a L) (h2 : NtesAt w b M) (hn : L.length ≤ 1048576) (hm : M.length ≤ 1048576) :
    Calls Try.prog 129 #[.slice a L.length c, .slice b M.length d, .func (.func 130) #[] #[]] w fun r w' => r = .returned (.bool (sameNtes L M)) ∧ Below w.heap.size w w' := by
  by_cases hl : L.length = M.length
  · have hlb : ((L.length : Int) != (M.length : Int)) = false := by simp; omega
    have HL := hide hl
    clear hl
    go_enter Try.func129, Try.ntmps129
    go_wp2
    go_loopw [17] (fun i wr => ∃ k : Nat, k ≤ L.length ∧ i = .int .i64 k ∧ Hid (Below w.heap.size w wr) ∧ Hid (sameNtes L M = sameNtes (L.drop k) (M.drop k))) (fun i _ => L.length - (intOf i).toNat)
    case atStart => exact ⟨0, Nat.zero_le _, rfl, Below.refl _ _, by simp [Hid]⟩
    case round =>
      obtain ⟨k, hk, rfl, HB, HX⟩ := hrel
      by_cases hlt : k < L.length
      · have hlt2 : k < M.length := by have := unhide HL; omega
        have hst := sameNtes_drop hlt hlt2
        obtain ⟨b1, o1, rfl, hb1, hc1⟩ := h.at hlt
        obtain ⟨b2, o2, rfl, hb2, hc2⟩ := h2.at hlt2
        have hbw := unhide HB
        have hx := hc1 k hlt
        have hy := hc2 k hlt2
        generalize L[k] = x at *
        generalize M[k] = y at *
        have I1 := hide (hx.2.1.below hbw)
        have I2 := hide (hy.2.1.below hbw)
        have SM := hide hx.2.2
        have z0 := hbw.size
        have zb1 : b1 < wr.heap.size := by omega
        have zb2 : b2 < wr.heap.size := by omega
        have x0 : wr.cell? ⟨b1, o1 + k * 12, none⟩ = some (.int .i64 x.b.k) := (hbw.cell (p := ⟨b1, o1 + k * 12, none⟩) hb1).trans (hx.1 0 _ rfl)
        have x1 : wr.cell? ⟨b1, o1 + k * 12 + 1, none⟩ = some (.int .i64 x.b.wo) := (hbw.cell (p := ⟨b1, o1 + k * 12 + 1, none⟩) hb1).trans (hx.1 1 _ rfl)
        have x2 : wr.cell? ⟨b1, o1 + k * 12 + 2, none⟩ = some (.int .i64 x.b.e) := (hbw.cell (p := ⟨b1, o1 + k * 12 + 2, none⟩) hb1).trans (hx.1 2 _ rfl)
        have x3 : wr.cell? ⟨b1, o1 + k * 12 + 3, none⟩ = some (.int .i64 x.b.ok) := (hbw.cell (p := ⟨b1, o1 + k * 12 + 3, none⟩) hb1).trans (hx.1 3 _ rfl)
        have x4 : wr.cell? ⟨b1, o1 + k * 12 + 4, none⟩ = some (.string x.b.op) := (hbw.cell (p := ⟨b1, o1 + k * 12 + 4, none⟩) hb1).trans (hx.1 4 _ rfl)
        have x5 : wr.cell? ⟨b1, o1 + k * 12 + 5, none⟩ = some (.string x.b.ot) := (hbw.cell (p := ⟨b1, o1 + k * 12 + 5, none⟩) hb1).trans (hx.1 5 _ rfl)
        have x6 : wr.cell? ⟨b1, o1 + k * 12 + 6, none⟩ = some (.bool x.b.od) := (hbw.cell (p := ⟨b1, o1 + k * 12 + 6, none⟩) hb1).trans (hx.1 6 _ rfl)
        have x7 : wr.cell? ⟨b1, o1 + k * 12 + 7, none⟩ = some (.int .i64 x.b.oi) := (hbw.cell (p := ⟨b1, o1 + k * 12 + 7, none⟩) hb1).trans (hx.1 7 _ rfl)
        have x8 : wr.cell? ⟨b1, o1 + k * 12 + 8, none⟩ = some (.slice x.a1 x.b.on.length x.c1) := (hbw.cell (p := ⟨b1, o1 + k * 12 + 8, none⟩) hb1).trans (hx.1 8 _ rfl)
        have x9 : wr.cell? ⟨b1, o1 + k * 12 + 9, none⟩ = some (.int .i64 x.b.rc) := (hbw.cell (p := ⟨b1, o1 + k * 12 + 9, none⟩) hb1).trans (hx.1 9 _ rfl)
        have x10 : wr.cell? ⟨b1, o1 + k * 12 + 10, none⟩ = some (.slice x.a2 x.b.rn.length x.c2) := (hbw.cell (p := ⟨b1, o1 + k * 12 + 10, none⟩) hb1).trans (hx.1 10 _ rfl)
        have x11 : wr.cell? ⟨b1, o1 + k * 12 + 11, none⟩ = some (.slice x.a3 x.b.rs.length x.c3) := (hbw.cell (p := ⟨b1, o1 + k * 12 + 11, none⟩) hb1).trans (hx.1 11 _ rfl)
        have y0 : wr.cell? ⟨b2, o2 + k * 12, none⟩ = some (.int .i64 y.b.k) := (hbw.cell (p := ⟨b2, o2 + k * 12, none⟩) hb2).trans (hy.1 0 _ rfl)
        have y1 : wr.cell? ⟨b2, o2 + k * 12 + 1, none⟩ = some (.int .i64 y.b.wo) := (hbw.cell (p := ⟨b2, o2 + k * 12 + 1, none⟩) hb2).trans (hy.1 1 _ rfl)
        have y2 : wr.cell? ⟨b2, o2 + k * 12 + 2, none⟩ = some (.int .i64 y.b.e) := (hbw.cell (p := ⟨b2, o2 + k * 12 + 2, none⟩) hb2).trans (hy.1 2 _ rfl)
        have y3 : wr.cell? ⟨b2, o2 + k * 12 + 3, none⟩ = some (.int .i64 y.b.ok) := (hbw.cell (p := ⟨b2, o2 + k * 12 + 3, none⟩) hb2).trans (hy.1 3 _ rfl)
        have y4 : wr.cell? ⟨b2, o2 + k * 12 + 4, none⟩ = some (.string y.b.op) := (hbw.cell (p := ⟨b2, o2 + k * 12 + 4, none⟩) hb2).trans (hy.1 4 _ rfl)
        have y5 : wr.cell? ⟨b2, o2 + k * 12 + 5, none⟩ = some (.string y.b.ot) := (hbw.cell (p := ⟨b2, o2 + k * 12 + 5, none⟩) hb2).trans (hy.1 5 _ rfl)
        have y6 : wr.cell? ⟨b2, o2 + k * 12 + 6, none⟩ = some (.bool y.b.od) := (hbw.cell (p := ⟨b2, o2 + k * 12 + 6, none⟩) hb2).trans (hy.1 6 _ rfl)
        have y7 : wr.cell? ⟨b2, o2 + k * 12 + 7, none⟩ = some (.int .i64 y.b.oi) := (hbw.cell (p := ⟨b2, o2 + k * 12 + 7, none⟩) hb2).trans (hy.1 7 _ rfl)
        have y8 : wr.cell? ⟨b2, o2 + k * 12 + 8, none⟩ = some (.slice y.a1 y.b.on.length y.c1) := (hbw.cell (p := ⟨b2, o2 + k * 12 + 8, none⟩) hb2).trans (hy.1 8 _ rfl)
        have y9 : wr.cell? ⟨b2, o2 + k * 12 + 9, none⟩ = some (.int .i64 y.b.rc) := (hbw.cell (p := ⟨b2, o2 + k * 12 + 9, none⟩) hb2).trans (hy.1 9 _ rfl)
        have y10 : wr.cell? ⟨b2, o2 + k * 12 + 10, none⟩ = some (.slice y.a2 y.b.rn.length y.c2) := (hbw.cell (p := ⟨b2, o2 + k * 12 + 10, none⟩) hb2).trans (hy.1 10 _ rfl)
        have y11 : wr.cell? ⟨b2, o2 + k * 12 + 11, none⟩ = some (.slice y.a3 y.b.rs.length y.c3) := (hbw.cell (p := ⟨b2, o2 + k * 12 + 11, none⟩) hb2).trans (hy.1 11 _ rfl)
        have HST := hide ((unhide HX).trans hst)
        clear hst hc1 hc2 hx hy h h2 hbw
        go_wp2_with fail
        clear x0 y0 x1 y1 x2 y2 x3 y3 x4 y4 x5 y5 x6 y6 x7 y7 x8 y8 x9 y9 x10 y10 x11 y11
        obtain ⟨W, hW, hWz, HBw, -, -⟩ := boxes2 wr [.int .i64 x.b.k, .int .i64 x.b.wo, .int .i64 x.b.e, .int .i64 x.b.ok, .string x.b.op, .string x.b.ot, .bool x.b.od, .int .i64 x.b.oi, .slice x.a1 x.b.on.length x.c1, .int .i64 x.b.rc, .slice x.a2 x.b.rn.length x.c2, .slice x.a3 x.b.rs.length x.c3] [.int .i64 y.b.k, .int .i64 y.b.wo, .int .i64 y.b.e, .int .i64 y.b.ok, .string y.b.op, .string y.b.ot, .bool y.b.od, .int .i64 y.b.oi, .slice y.a1 y.b.on.length y.c1, .int .i64 y.b.rc, .slice y.a2 y.b.rn.length y.c2, .slice y.a3 y.b.rs.length y.c3] 185 185
        rw [← hW]
        clear hW
        refine (sameNote_any x y _ ((unhide I1).below (unhide HBw)) ((unhide I2).below (unhide HBw)) (unhide SM)).mono ?_
        rintro r w1 ⟨rfl, hb1'⟩
        have B1 := hide (below_step (unhide HB) (below_step (unhide HBw) hb1' (unhide HBw).size) z0)
        clear hb1' I1 I2 HBw
        cases hq : sameNte x.b y.b
        · have HV : Hid (sameNtes L M = false) := by rw [Hid, unhide HST, hq]; rfl
          go_wp2_with fail
          go_ret
          exact ⟨ret_bool (unhide HV).symm, unhide B1⟩
        · have HV : Hid (sameNtes L M = sameNtes (L.drop (k + 1)) (M.drop (k + 1))) := by rw [Hid, unhide HST, hq]; rfl
          clear hq
          go_wp2_with fail
          go_roundw
          case rel => exact ⟨k + 1, by omega, by go_num, B1, HV⟩
          case measure => simp [intOf]; omega
      · have HV : Hid (sameNtes L M = true) := by
          have hle := unhide HL
          rw [Hid, unhide HX, List.drop_of_length_le (by omega), List.drop_of_length_le (by omega)]; rfl
        go_wp2_with fail
        go_ret
        exact ⟨ret_bool (unhide HV).symm, unhide HB⟩
  · have hlb : ((L.length : Int) != (M.length : Int)) = true := by simp; omega
    have HV := hide (sameNtes_len hl)
    clear hl
    go_enter Try.func129, Try.ntmps129
    go_wp2
    go_ret
    exact ⟨ret_bool (unhide HV).symm, Below.refl _ _⟩
set_option maxRecDepth 20000 in
set_option maxHeartbeats 1000000 in
theorem implSameNotes_any (a b : Option Addr) (c d : Nat) (L M : List NteA) (w : World) (h : NtesAt w a L) (h2 : NtesAt w b M) (hn : L.length ≤ 1048576) (hm : M.length ≤ 1048576) :
    Calls Try.prog 61 #[.slice a L.length c, .slice b M.length d] w fun r w' => r = .returned (.bool (sameNtes L M)) ∧ Below w.heap.size w w' := by
  have H := hide h
  have H2 := hide h2
  clear h h2
  go_enter Try.func61, Try.ntmps61
  go_wp2_with fail
  refine (equalFuncNte_any a b c d L M _ (unhide H) (unhide H2) hn hm).mono ?_
  rintro r w1 ⟨rfl, hb1⟩
  have B1 := hide hb1
  clear hb1
  generalize hq : sameNtes L M = q at *
  have HQ := hide hq
  clear hq
  go_wp2_with fail
  go_ret
  exact ⟨ret_bool (unhide HQ).symm, unhide B1⟩
end Go.Proofs.Ytdnfadbkpajloaa
