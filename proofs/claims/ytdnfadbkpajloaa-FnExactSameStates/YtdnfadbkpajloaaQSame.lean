/-
  What only reads and draws answers: two lists of numbers, of strings, two ops held against each other.
-/
import Derived.Test.YtdnfadbkpajloaaNoteMath
import Derived.Test.YtdnfadbkpajloaaEqB
import Derived.Test.YtdnfadbkpajloaaNodeEq
import Derived.BigQuiet
import Derived.Deep.QuietTactic
namespace Go.Proofs.Ytdnfadbkpajloaa
open Go.RowKit
set_option linter.unusedVariables false

/-- Nothing but the order that is drawn has turned. -/
def Drawn (w w' : World) : Prop := ∃ m, w' = w.drewN m
theorem Drawn.refl (w : World) : Drawn w w := ⟨0, rfl⟩
theorem Drawn.drewN {a w : World} (h : Drawn a w) (n : Nat) : Drawn a (w.drewN n) := by
  obtain ⟨m, rfl⟩ := h
  exact ⟨m + n, by simp [World.drewN, Nat.add_assoc]⟩
theorem Drawn.below {B : Nat} {w w' : World} (h : Drawn w w') : Below B w w' := by
  obtain ⟨m, rfl⟩ := h
  exact below_drewN (Below.refl _ _) _
set_option maxHeartbeats 1000000 in
theorem l1SameQ_any (a b : Option Addr) (c d : Nat) (l m : List Int) (w : World) (h : IntsAt w a l) (h2 : IntsAt w b m) (hn : l.length ≤ 1048576) :
    Calls Try.prog 101 #[.slice a l.length c, .slice b m.length d] w fun e w' => e = .returned (.bool (decide (l = m))) ∧ Drawn w w' := by
  by_cases hl : l.length = m.length
  case neg =>
    have hne : ((l.length : Int) != (m.length : Int)) = true := by simp; omega
    have HR : Hid (decide (l = m) = false) := decide_eq_false (fun e => hl (by rw [e]))
    clear h h2
    go_enter Try.func101, Try.ntmps101
    go_wp2
    go_ret
    exact ⟨ret_bool (unhide HR).symm, Drawn.refl _⟩
  have hne : ((l.length : Int) != (m.length : Int)) = false := by simp; omega
  go_enter Try.func101, Try.ntmps101
  go_wp2
  go_loopw [5] (fun i wr => ∃ (k n : Nat), k ≤ l.length ∧ i = .int .i64 k ∧ wr = w.drewN n ∧ Hid (∀ j, j < k → l[j]? = m[j]?)) (fun i _ => l.length - (intOf i).toNat)
  case atStart => exact ⟨0, 0, Nat.zero_le _, rfl, rfl, fun j hj => absurd hj (Nat.not_lt_zero j)⟩
  case round =>
    obtain ⟨k, n, hk, rfl, rfl, HX⟩ := hrel
    by_cases hlt : k < l.length
    · have hltm : k < m.length := by omega
      obtain ⟨b1, o1, rfl, _, hc1⟩ := h.at hlt
      obtain ⟨b2, o2, rfl, _, hc2⟩ := h2.at hltm
      have hk1 := hc1 k hlt
      have hk2 := hc2 k hltm
      have hlt' : (k : Int) < l.length := by omega
      have hltm' : (k : Int) < m.length := by omega
      clear hc1 hc2 h h2
      by_cases he : l[k] = m[k]
      · have HX2 : Hid (∀ j, j < k + 1 → l[j]? = m[j]?) := by
          intro j hj
          by_cases e : j = k
          · subst e; rw [List.getElem?_eq_getElem hlt, List.getElem?_eq_getElem hltm, he]
          · exact unhide HX j (by omega)
        have hq : (l[k] != m[k]) = false := by rw [he]; simp
        clear HX
        generalize l[k] = x at *
        generalize m[k] = y at *
        clear he
        go_wp2
        go_quiet (fail)
        go_wp2
        exact ⟨⟨k + 1, _, by omega, by go_num, rfl, HX2⟩, by simp [intOf]; omega⟩
      · have HR : Hid (decide (l = m) = false) := decide_eq_false (fun e => he (by simp [e]))
        have hq : (l[k] != m[k]) = true := by simpa using he
        clear HX he
        generalize l[k] = x at *
        generalize m[k] = y at *
        go_wp2
        go_quiet (fail)
        go_wp2
        go_ret
        exact ⟨ret_bool (unhide HR).symm, Drawn.drewN (Drawn.drewN (Drawn.refl _) _) _⟩
    · have HR : Hid (decide (l = m) = true) := decide_eq_true (by
        apply List.ext_getElem?
        intro j
        by_cases hj : j < k
        · exact unhide HX j hj
        · rw [List.getElem?_eq_none (by omega), List.getElem?_eq_none (by omega)])
      clear HX h h2
      go_wp2
      go_ret
      exact ⟨ret_bool (unhide HR).symm, Drawn.drewN (Drawn.refl _) _⟩
set_option maxHeartbeats 1000000 in
theorem l7SameTextsQ_any (a b : Option Addr) (c d : Nat) (l m : List ByteArray) (w : World) (h : StrsAt w a l) (h2 : StrsAt w b m) (hn : l.length ≤ 1048576) :
    Calls Try.prog 127 #[.slice a l.length c, .slice b m.length d] w fun e w' => e = .returned (.bool (decide (l = m))) ∧ Drawn w w' := by
  by_cases hl : l.length = m.length
  case neg =>
    have hne : ((l.length : Int) != (m.length : Int)) = true := by simp; omega
    have HR : Hid (decide (l = m) = false) := decide_eq_false (fun e => hl (by rw [e]))
    clear h h2
    go_enter Try.func127, Try.ntmps127
    go_wp2
    go_ret
    exact ⟨ret_bool (unhide HR).symm, Drawn.refl _⟩
  have hne : ((l.length : Int) != (m.length : Int)) = false := by simp; omega
  go_enter Try.func127, Try.ntmps127
  go_wp2
  go_loopw [5] (fun i wr => ∃ (k n : Nat), k ≤ l.length ∧ i = .int .i64 k ∧ wr = w.drewN n ∧ Hid (∀ j, j < k → l[j]? = m[j]?)) (fun i _ => l.length - (intOf i).toNat)
  case atStart => exact ⟨0, 0, Nat.zero_le _, rfl, rfl, fun j hj => absurd hj (Nat.not_lt_zero j)⟩
  case round =>
    obtain ⟨k, n, hk, rfl, rfl, HX⟩ := hrel
    by_cases hlt : k < l.length
    · have hltm : k < m.length := by omega
      obtain ⟨b1, o1, rfl, _, hc1⟩ := h.at hlt
      obtain ⟨b2, o2, rfl, _, hc2⟩ := h2.at hltm
      have hk1 := hc1 k hlt
      have hk2 := hc2 k hltm
      have hlt' : (k : Int) < l.length := by omega
      have hltm' : (k : Int) < m.length := by omega
      clear hc1 hc2 h h2
      by_cases he : l[k] = m[k]
      · have HX2 : Hid (∀ j, j < k + 1 → l[j]? = m[j]?) := by
          intro j hj
          by_cases e : j = k
          · subst e; rw [List.getElem?_eq_getElem hlt, List.getElem?_eq_getElem hltm, he]
          · exact unhide HX j (by omega)
        have hq : (l[k].toList == m[k].toList) = true := by rw [he]; simp
        clear HX
        generalize l[k] = x at *
        generalize m[k] = y at *
        clear he
        go_wp2
        go_quiet (fail)
        go_wp2
        exact ⟨⟨k + 1, _, by omega, by go_num, rfl, HX2⟩, by simp [intOf]; omega⟩
      · have HR : Hid (decide (l = m) = false) := decide_eq_false (fun e => he (by simp [e]))
        have hq : (l[k].toList == m[k].toList) = false := by simpa using fun e => he (bytes_toList_inj e)
        clear HX he
        generalize l[k] = x at *
        generalize m[k] = y at *
        go_wp2
        go_quiet (fail)
        go_wp2
        go_ret
        exact ⟨ret_bool (unhide HR).symm, Drawn.drewN (Drawn.drewN (Drawn.refl _) _) _⟩
    · have HR : Hid (decide (l = m) = true) := decide_eq_true (by
        apply List.ext_getElem?
        intro j
        by_cases hj : j < k
        · exact unhide HX j hj
        · rw [List.getElem?_eq_none (by omega), List.getElem?_eq_none (by omega)])
      clear HX h h2
      go_wp2
      go_ret
      exact ⟨ret_bool (unhide HR).symm, Drawn.drewN (Drawn.refl _) _⟩
set_option maxRecDepth 20000 in
set_option maxHeartbeats 4000000 in
theorem l7SameOpsQ_any (b o b' o' : Nat) (ok ok' : Int) (op op' ot ot' : ByteArray) (od od' : Bool) (oi oi' : Int) (on on' : List Int) (a1 a1' : Option Addr) (c1 c1' : Nat) (w : World) (x0 : w.cell? ⟨b, o, none⟩ = some (.int .i64 ok)) (x1 : w.cell? ⟨b, o + 1, none⟩ = some (.string op)) (x2 : w.cell? ⟨b, o + 2, none⟩ = some (.string ot)) (x3 : w.cell? ⟨b, o + 3, none⟩ = some (.bool od)) (x4 : w.cell? ⟨b, o + 4, none⟩ = some (.int .i64 oi)) (x5 : w.cell? ⟨b, o + 5, none⟩ = some (.slice a1 on.length c1)) (y0 : w.cell? ⟨b', o', none⟩ = some (.int .i64 ok')) (y1 : w.cell? ⟨b', o' + 1, none⟩ = some (.string op')) (y2 : w.cell? ⟨b', o' + 2, none⟩ = some (.string ot')) (y3 : w.cell? ⟨b', o' + 3, none⟩ = some (.bool od')) (y4 : w.cell? ⟨b', o' + 4, none⟩ = some (.int .i64 oi')) (y5 : w.cell? ⟨b', o' + 5, none⟩ = some (.slice a1' on'.length c1')) (h : IntsAt w a1 on) (h2 : IntsAt w a1' on') (hn : on.length ≤ 1048576) :
    Calls Try.prog 126 #[.pointer (some ⟨b, o, none⟩), .pointer (some ⟨b', o', none⟩)] w fun r w' => r = .returned (.bool (sameO ok ok' op op' ot ot' od od' oi oi' on on')) ∧ Drawn w w' := by
  have H := hide h
  have H2 := hide h2
  clear h h2
  cases hk : (ok == ok')
  · have HV : Hid (sameO ok ok' op op' ot ot' od od' oi oi' on on' = false) := by simp [Hid, sameO, hk]
    go_enter Try.func126, Try.ntmps126
    go_wp2_with fail
    try simp only [List.append_eq, List.cons_append, List.nil_append]
    go_quiet (fail)
    all_goals
      go_wp2_with fail
      go_ret
      exact ⟨ret_bool (unhide HV).symm, Drawn.drewN (Drawn.refl _) _⟩
  cases hp : (op.toList == op'.toList)
  · have HV : Hid (sameO ok ok' op op' ot ot' od od' oi oi' on on' = false) := by simp [Hid, sameO, hk, hp]
    go_enter Try.func126, Try.ntmps126
    go_wp2_with fail
    try simp only [List.append_eq, List.cons_append, List.nil_append]
    go_quiet (fail)
    all_goals
      go_wp2_with fail
      go_ret
      exact ⟨ret_bool (unhide HV).symm, Drawn.drewN (Drawn.refl _) _⟩
  cases ht : (ot.toList == ot'.toList)
  · have HV : Hid (sameO ok ok' op op' ot ot' od od' oi oi' on on' = false) := by simp [Hid, sameO, hk, hp, ht]
    go_enter Try.func126, Try.ntmps126
    go_wp2_with fail
    try simp only [List.append_eq, List.cons_append, List.nil_append]
    go_quiet (fail)
    all_goals
      go_wp2_with fail
      go_ret
      exact ⟨ret_bool (unhide HV).symm, Drawn.drewN (Drawn.refl _) _⟩
  cases hd : (od == od')
  · have HV : Hid (sameO ok ok' op op' ot ot' od od' oi oi' on on' = false) := by simp [Hid, sameO, hk, hp, ht, hd]
    go_enter Try.func126, Try.ntmps126
    go_wp2_with fail
    try simp only [List.append_eq, List.cons_append, List.nil_append]
    go_quiet (fail)
    all_goals
      go_wp2_with fail
      go_ret
      exact ⟨ret_bool (unhide HV).symm, Drawn.drewN (Drawn.refl _) _⟩
  cases hi : (oi == oi')
  · have HV : Hid (sameO ok ok' op op' ot ot' od od' oi oi' on on' = false) := by simp [Hid, sameO, hk, hp, ht, hd, hi]
    go_enter Try.func126, Try.ntmps126
    go_wp2_with fail
    try simp only [List.append_eq, List.cons_append, List.nil_append]
    go_quiet (fail)
    all_goals
      go_wp2_with fail
      go_ret
      exact ⟨ret_bool (unhide HV).symm, Drawn.drewN (Drawn.refl _) _⟩
  have HV : Hid (sameO ok ok' op op' ot ot' od od' oi oi' on on' = decide (on = on')) := by rw [Hid, sameO, hk, hp, ht, hd, hi]; simp
  go_enter Try.func126, Try.ntmps126
  go_wp2_with fail
  try simp only [List.append_eq, List.cons_append, List.nil_append]
  go_quiet (first | (go_at_call 101; exact Calls.quiet_of (l1SameQ_any a1 a1' c1 c1' on on' _ ((unhide H).below (below_drewN (Below.refl _ _) _)) ((unhide H2).below (below_drewN (Below.refl _ _) _)) hn)))
  generalize decide (on = on') = bq at *
  go_wp2_with fail
  go_ret
  exact ⟨ret_bool (unhide HV).symm, Drawn.drewN (Drawn.refl _) _⟩
end Go.Proofs.Ytdnfadbkpajloaa
