/-
  What the laws' own copies, sizes and comparisons of lists of truths, and slices.Equal over them, answer.
-/
import Derived.Test.YtaadbgebcknfkaaBoolMath
import Derived.Test.YtaadbgebcknfkaaDevSz
import Derived.Test.YtaadbgebcknfkaaDevTo
import Derived.Test.YtaadbgebcknfkaaDevEq
import Derived.Test.YtaadbgebcknfkaaEqB
namespace Go.Proofs.Ytaadbgebcknfkaa
open Go.RowKit
set_option linter.unusedVariables false

theorem infoBool : (Try.prog.info? 4).map (fun i => (i.zero, i.size, i.bytes)) = some (some (.bool false), 1, 1) := by kernel_rfl
set_option maxHeartbeats 1000000 in
theorem toBoolS_any (a : Option Addr) (c : Nat) (l : List Bool) (w : World) (h : BoolsAt w a l) (hn : l.length ≤ 1048576) :
    Calls Try.prog 64 #[.slice a l.length c] w fun e w' => e = .returned (.slice (some ⟨w.heap.size, 0, none⟩) l.length l.length) ∧ w'.ownsRow w.heap.size 4 1 (.slice (some ⟨w.heap.size, 0, none⟩) l.length l.length) l.length (bols l) ∧ Below w.heap.size w w' := by
  obtain ⟨i0, hi, hz0, hz1, hz2⟩ := info_parts infoBool
  go_enter Try.func64, Try.ntmps64
  go_wp2_with (at_make; refine wpList_make_full _ rfl _ _ 56 rfl w.heap.size 4 i0 (.bool false) 1 Try.underlying56 hi hz0 hz1 .i64 .i64 _ _ l.length rfl rfl rfl rfl (by rw [hz2]; omega) (by unfold maxLen; omega) (Nat.le_refl _) ?_; intro w1 hown hgrow)
  have hxs : (madeCells (Value.bool false).cells (l.length * 1)).toList.length = l.length := by
    have := hown.1
    omega
  generalize (madeCells (Value.bool false).cells (l.length * 1)).toList = xs0 at *
  have hbel : Below w.heap.size w w1 := (Below.refl _ _).grown hgrow (Nat.le_refl _) (fun k hk => by cases hk)
  clear hgrow
  go_loopw [4] (fun i wr => ∃ (k : Nat) (xs : List Value), k ≤ l.length ∧ i = .int .i64 k ∧ xs.length = l.length ∧ wr.ownsRow w.heap.size 4 1 (.slice (some ⟨w.heap.size, 0, none⟩) l.length l.length) l.length xs ∧ Below w.heap.size w wr ∧ Hid (∀ j (h : j < l.length), j < k → xs[j]? = some (.bool l[j]))) (fun i _ => l.length - (intOf i).toNat)
  case atStart => exact ⟨0, xs0, Nat.zero_le _, rfl, hxs, hown, hbel, fun j _ hj => absurd hj (Nat.not_lt_zero j)⟩
  case round =>
    obtain ⟨k, xs, hk, rfl, hxl, how, hbw, HX⟩ := hrel
    clear hbel hown hxs
    by_cases hlt : k < l.length
    · obtain ⟨b, o, rfl, hb, hc⟩ := h.at hlt
      have hck : wr.cell? ⟨b, o + k, none⟩ = some (.bool l[k]) := by
        rw [hbw.cell (p := ⟨b, o + k, none⟩) hb]
        exact hc k hlt
      have hfz := how.frozenAt k
      have hkc := how.cellAt k (by omega)
      rw [List.getElem?_eq_getElem (by omega)] at hkc
      obtain ⟨hst, hgr⟩ := how.stored k (.bool l[k])
      have hbw2 := hbw.setCell (p := ⟨w.heap.size, k, none⟩) (Nat.le_refl _) (.bool l[k])
      have HS := hide hst
      have HB2 := hide hbw2
      have HX2 : Hid (∀ j (h : j < l.length), j < k + 1 → (xs.set k (.bool l[k]))[j]? = some (.bool l[j])) := by
        intro j hj hj1
        rw [List.getElem?_set]
        by_cases e : k = j
        · subst e
          simp [hxl, hlt]
        · rw [if_neg e]
          exact unhide HX j hj (by omega)
      clear hst hgr hbw2 hc h how hbw
      go_wp2
      go_roundw
      case rel => exact ⟨k + 1, xs.set k (.bool l[k]), by omega, by go_num, by simpa using hxl, unhide HS, unhide HB2, HX2⟩
      case measure => simp [intOf]; omega
    · have HS := hide how
      have HB := hide hbw
      clear how hbw
      go_wp2
      go_ret
      refine ⟨rfl, ?_, unhide HB⟩
      have hxe : xs = bols l := by
        apply List.ext_getElem?
        intro j
        by_cases hj : j < l.length
        · rw [unhide HX j hj (by omega), bols_at hj]
        · rw [List.getElem?_eq_none (by omega), List.getElem?_eq_none (by rw [bols_length]; omega)]
      rw [← hxe]
      exact unhide HS
set_option maxHeartbeats 1000000 in
theorem szBoolS_any (a : Option Addr) (n c : Nat) (left : Int) (w : World) (h0 : 0 ≤ left) (h1 : left ≤ 1048576) (hn : n ≤ maxLen) :
    Calls Try.prog 59 #[.slice a n c, .int .i64 left] w fun e w' => (∃ r, e = .returned (.int .i64 r) ∧ Left left n r) ∧ w' = w := by
  unfold maxLen at hn
  by_cases h : left - n < 0
  · go_enter Try.func59, Try.ntmps59
    go_wp2
    go_ret
    exact ⟨⟨-1, rfl, .inl ⟨by omega, by omega⟩⟩, rfl⟩
  · go_enter Try.func59, Try.ntmps59
    go_wp2
    go_ret
    exact ⟨⟨_, rfl, .inr ⟨rfl, by omega⟩⟩, rfl⟩
set_option maxHeartbeats 1000000 in
theorem eqBoolS_same (a b : Option Addr) (c d : Nat) (l : List Bool) (w : World) (h : BoolsAt w a l) (h2 : BoolsAt w b l) (hn : l.length ≤ 1048576) :
    Calls Try.prog 70 #[.slice a l.length c, .slice b l.length d] w fun e w' => e = .returned (.bool true) ∧ Below w.heap.size w w' := by
  have hne := int_neq_self (l.length : Int)
  go_enter Try.func70, Try.ntmps70
  go_wp2
  go_loopw [5] (fun i wr => ∃ (k n : Nat), k ≤ l.length ∧ i = .int .i64 k ∧ wr = w.drewN n) (fun i _ => l.length - (intOf i).toNat)
  case atStart => exact ⟨0, 0, Nat.zero_le _, rfl, rfl⟩
  case round =>
    obtain ⟨k, n, hk, rfl, rfl⟩ := hrel
    by_cases hlt : k < l.length
    · obtain ⟨b1, o1, rfl, _, hc1⟩ := h.at hlt
      obtain ⟨b2, o2, rfl, _, hc2⟩ := h2.at hlt
      have hk1 := hc1 k hlt
      have hk2 := hc2 k hlt
      have hlt' : (k : Int) < l.length := by omega
      generalize l[k] = x at *
      clear hc1 hc2 h h2
      cases x
      all_goals
        go_wp2
        go_quiet (fail)
        go_wp2
        exact ⟨⟨k + 1, _, by omega, by go_num, rfl⟩, by simp [intOf]; omega⟩
    · clear h h2
      go_wp2
      go_ret
      exact ⟨rfl, below_drewN (Below.refl _ _) _⟩
end Go.Proofs.Ytaadbgebcknfkaa
