/-
  Two rows of numbers, two rows of pairs: are they the same?
-/
import Derived.Test.YtiopofemelninaaGreatProg
import Derived.Test.YtiopofemelninaaGreatRowMath
import Derived.WalkKit
import Derived.WalkLawsBesides
import Derived.BigQuiet
import Derived.Deep.QuietTactic
import Derived.Laws.StructEq
namespace Go.Proofs.YtiopofemelninaaGreat
open Go.RowKit


set_option maxHeartbeats 1000000 in
theorem l1Same_any (a b : Option Addr) (c d : Nat) (l m : List Int) (w : World) (h : IntsAt w a l) (h2 : IntsAt w b m) (hn : l.length ≤ 1048576) :
    Calls Tryz.prog 94 #[.slice a l.length c, .slice b m.length d] w fun e w' => e = .returned (.bool (decide (l = m))) ∧ Below w.heap.size w w' := by
  by_cases hl : l.length = m.length
  case neg =>
    have hne : ((l.length : Int) != (m.length : Int)) = true := by simp; omega
    have HR : Hid (decide (l = m) = false) := decide_eq_false (fun e => hl (by rw [e]))
    clear h h2
    go_enter Tryz.func94, Tryz.ntmps94
    go_wp2
    go_ret
    exact ⟨ret_bool (unhide HR).symm, Below.refl _ _⟩
  have hne : ((l.length : Int) != (m.length : Int)) = false := by simp; omega
  go_enter Tryz.func94, Tryz.ntmps94
  go_wp2
  go_loopw [5] (fun i wr => ∃ (k n : Nat), k ≤ l.length ∧ i = .int .i64 k ∧ wr = w.drewN n ∧ Hid (∀ j, j < k → l[j]? = m[j]?)) (fun i _ => l.length - (intOf i).toNat)
  case atStart => exact ⟨0, 0, Nat.zero_le _, rfl, rfl, fun j hj => absurd hj (Nat.not_lt_zero j)⟩
  case round =>
    obtain ⟨k, n, hk, rfl, rfl, HX⟩ := hrel
    by_cases hlt : k < l.length
    · have hltm : k < m.length := by omega
      obtain ⟨b1, o1, rfl, _, hc1⟩ := h.at hlt
      obtain ⟨b2, o2, rfl, _, hc2⟩ := h2.at hltm
      have hk1 := hc1 k hlt
      have hk2 := hc2 k hltm
      have hlt' : (k : Int) < l.length := by omega
      have hltm' : (k : Int) < m.length := by omega
      clear hc1 hc2 h h2
      by_cases he : l[k] = m[k]
      · have HX2 : Hid (∀ j, j < k + 1 → l[j]? = m[j]?) := by
          intro j hj
          by_cases e : j = k
          · subst e; rw [List.getElem?_eq_getElem hlt, List.getElem?_eq_getElem hltm, he]
          · exact unhide HX j (by omega)
        have hq : (l[k] != m[k]) = false := by rw [he]; simp
        clear HX
        generalize l[k] = x at *
        generalize m[k] = y at *
        clear he
        go_wp2
        go_quiet (fail)
        go_wp2
        exact ⟨⟨k + 1, _, by omega, by go_num, rfl, HX2⟩, by simp [intOf]; omega⟩
      · have HR : Hid (decide (l = m) = false) := decide_eq_false (fun e => he (by simp [e]))
        have hq : (l[k] != m[k]) = true := by simpa using he
        clear HX he
        generalize l[k] = x at *
        generalize m[k] = y at *
        go_wp2
        go_quiet (fail)
        go_wp2
        go_ret
        exact ⟨ret_bool (unhide HR).symm, below_drewN (below_drewN (Below.refl _ _) _) _⟩
    · have HR : Hid (decide (l = m) = true) := decide_eq_true (by
        apply List.ext_getElem?
        intro j
        by_cases hj : j < k
        · exact unhide HX j hj
        · rw [List.getElem?_eq_none (by omega), List.getElem?_eq_none (by omega)])
      clear HX h h2
      go_wp2
      go_ret
      exact ⟨ret_bool (unhide HR).symm, below_drewN (Below.refl _ _) _⟩

set_option maxHeartbeats 1000000 in
theorem eqInts_any (a b : Option Addr) (c d : Nat) (l m : List Int) (w : World) (h : IntsAt w a l) (h2 : IntsAt w b m) (hn : l.length ≤ 1048576) :
    Calls Tryz.prog 108 #[.slice a l.length c, .slice b m.length d] w fun e w' => e = .returned (.bool (decide (l = m))) ∧ Below w.heap.size w w' := by
  by_cases hl : l.length = m.length
  case neg =>
    have hne : ((l.length : Int) != (m.length : Int)) = true := by simp; omega
    have HR : Hid (decide (l = m) = false) := decide_eq_false (fun e => hl (by rw [e]))
    clear h h2
    go_enter Tryz.func108, Tryz.ntmps108
    go_wp2
    go_ret
    exact ⟨ret_bool (unhide HR).symm, Below.refl _ _⟩
  have hne : ((l.length : Int) != (m.length : Int)) = false := by simp; omega
  go_enter Tryz.func108, Tryz.ntmps108
  go_wp2
  go_loopw [13] (fun i wr => ∃ (k n : Nat), k ≤ l.length ∧ i = .int .i64 k ∧ wr = w.drewN n ∧ Hid (∀ j, j < k → l[j]? = m[j]?)) (fun i _ => l.length - (intOf i).toNat)
  case atStart => exact ⟨0, 0, Nat.zero_le _, rfl, rfl, fun j hj => absurd hj (Nat.not_lt_zero j)⟩
  case round =>
    obtain ⟨k, n, hk, rfl, rfl, HX⟩ := hrel
    by_cases hlt : k < l.length
    · have hltm : k < m.length := by omega
      obtain ⟨b1, o1, rfl, _, hc1⟩ := h.at hlt
      obtain ⟨b2, o2, rfl, _, hc2⟩ := h2.at hltm
      have hk1 := hc1 k hlt
      have hk2 := hc2 k hltm
      have hlt' : (k : Int) < l.length := by omega
      have hltm' : (k : Int) < m.length := by omega
      clear hc1 hc2 h h2
      by_cases he : l[k] = m[k]
      · have HX2 : Hid (∀ j, j < k + 1 → l[j]? = m[j]?) := by
          intro j hj
          by_cases e : j = k
          · subst e; rw [List.getElem?_eq_getElem hlt, List.getElem?_eq_getElem hltm, he]
          · exact unhide HX j (by omega)
        have hq : (l[k] != m[k]) = false := by rw [he]; simp
        clear HX
        generalize l[k] = x at *
        generalize m[k] = y at *
        clear he
        go_wp2
        go_quiet (fail)
        go_wp2
        exact ⟨⟨k + 1, _, by omega, by go_num, rfl, HX2⟩, by simp [intOf]; omega⟩
      · have HR : Hid (decide (l = m) = false) := decide_eq_false (fun e => he (by simp [e]))
        have hq : (l[k] != m[k]) = true := by simpa using he
        clear HX he
        generalize l[k] = x at *
        generalize m[k] = y at *
        go_wp2
        go_quiet (fail)
        go_wp2
        go_ret
        exact ⟨ret_bool (unhide HR).symm, below_drewN (below_drewN (Below.refl _ _) _) _⟩
    · have HR : Hid (decide (l = m) = true) := decide_eq_true (by
        apply List.ext_getElem?
        intro j
        by_cases hj : j < k
        · exact unhide HX j hj
        · rw [List.getElem?_eq_none (by omega), List.getElem?_eq_none (by omega)])
      clear HX h h2
      go_wp2
      go_ret
      exact ⟨ret_bool (unhide HR).symm, below_drewN (Below.refl _ _) _⟩



end Go.Proofs.YtiopofemelninaaGreat
