/-
  What the laws' own sizes of records (Item) answer.
-/
import Derived.Test.YtcmekhpphgkglaaDoorItemMath
import Derived.Test.YtcmekhpphgkglaaDoorDevSz
namespace Go.Proofs.YtcmekhpphgkglaaDoor
open Go.RowKit
set_option linter.unusedVariables false

set_option maxRecDepth 20000 in
set_option maxHeartbeats 2000000 in
theorem szItem_any (p : ByteArray) (d : Bool) (n : Nat) (a : Option Addr) (c : Nat) (left : Int) (w : World) (h0 : 0 ≤ left) (h1 : left ≤ 1048576) (hs : p.size ≤ maxLen) (hn : n ≤ maxLen) :
    Calls Tryd.prog 15 #[.agg #[.string p, .bool d, .slice a n c], .int .i64 left] w fun r w' => (∃ x : Int, r = .returned (.int .i64 x) ∧ (x < 0 ∨ (0 ≤ x ∧ x ≤ left ∧ (n : Int) ≤ left))) ∧ Below w.heap.size w w' := by
  obtain ⟨W, hW, hWz, HB0, HP0⟩ := boxes1 w [.string p, .bool d, .slice a n c] 39
  unfold maxLen at hs
  by_cases hl : left - (p.size : Int) < 0
  · go_enter Tryd.func15, Tryd.ntmps15
    go_wp2_with fail
    go_ret
    exact ⟨⟨_, rfl, .inl (by decide)⟩, by rw [← hW]; exact unhide HB0⟩
  go_enter Tryd.func15, Tryd.ntmps15
  go_wp2_with fail
  rw [← hW]
  clear hW
  refine (szInt64S_any a n c (left - (p.size : Int)) _ (by omega) (by omega) hn).mono ?_
  rintro r w2 ⟨⟨y, rfl, hy⟩, rfl⟩
  by_cases hy0 : y < 0
  · clear hy
    go_wp2_with fail
    go_ret
    exact ⟨⟨_, rfl, .inl (by decide)⟩, unhide HB0⟩
  have hy1 : 0 ≤ y ∧ y ≤ left ∧ (n : Int) ≤ left := by
    rcases hy with ⟨h, _⟩ | ⟨h, h'⟩
    · omega
    · omega
  have HY := hide hy1
  clear hy hy1
  go_wp2_with fail
  go_ret
  exact ⟨⟨_, rfl, .inr (unhide HY)⟩, unhide HB0⟩
set_option maxRecDepth 20000 in
set_option maxHeartbeats 2000000 in
theorem szItemS_any (a : Option Addr) (c : Nat) (L : List ItmA) (left : Int) (w : World) (h : ItmsR w a L) (hn : L.length ≤ maxLen) (h0 : 0 ≤ left) (h1 : left ≤ 1048576) :
    Calls Tryd.prog 5 #[.slice a L.length c, .int .i64 left] w fun r w' => (∃ x : Int, r = .returned (.int .i64 x) ∧ (x < 0 ∨ (0 ≤ x ∧ x ≤ left ∧ (L.length : Int) ≤ left ∧ ∀ y ∈ L, y.b.l.length ≤ 1048576))) ∧ Below w.heap.size w w' := by
  unfold maxLen at hn
  by_cases hl : left - (L.length : Int) < 0
  · go_enter Tryd.func5, Tryd.ntmps5
    go_wp2
    go_ret
    exact ⟨⟨_, rfl, .inl (by decide)⟩, Below.refl _ _⟩
  · go_enter Tryd.func5, Tryd.ntmps5
    go_wp2
    go_loopw [1, 5] (fun t i wr => ∃ (k : Nat) (v : Int), k ≤ L.length ∧ i = .int .i64 k ∧ t = .int .i64 v ∧ 0 ≤ v ∧ v ≤ left ∧ Hid (Below w.heap.size w wr) ∧ Hid (∀ j (hj : j < L.length), j < k → L[j].b.l.length ≤ 1048576)) (fun _ i _ => L.length - (intOf i).toNat)
    case atStart => exact ⟨0, left - L.length, Nat.zero_le _, rfl, rfl, by omega, by omega, Below.refl _ _, fun j _ hj => absurd hj (Nat.not_lt_zero j)⟩
    case round =>
      obtain ⟨k, v, hk, rfl, rfl, v0, v1, HB, HI⟩ := hrel
      by_cases hlt : k < L.length
      · obtain ⟨b1, o1, rfl, hb1, hc1⟩ := h.at hlt
        have hbw := unhide HB
        have hx := hc1 k hlt
        obtain ⟨x, hxe⟩ : ∃ x, L[k] = x := ⟨_, rfl⟩
        rw [hxe] at hx
        have HXE := hide hxe
        clear hxe
        obtain ⟨⟨xp, xd, xl⟩, xa, xc⟩ := x
        have zb1 : b1 < wr.heap.size := by have := hbw.size; omega
        have x0 := (hbw.cell (p := ⟨b1, o1 + k * 3, none⟩) hb1).trans (hx.1 0 _ rfl)
        have x1 := (hbw.cell (p := ⟨b1, o1 + k * 3 + 1, none⟩) hb1).trans (hx.1 1 _ rfl)
        have x2 := (hbw.cell (p := ⟨b1, o1 + k * 3 + 2, none⟩) hb1).trans (hx.1 2 _ rfl)
        have s1 := hx.2.2.1
        have s2 := hx.2.2.2
        clear hc1 hx h hbw
        simp only at x0 x1 x2 s1 s2
        go_wp2_with fail
        clear x0 x1 x2
        refine (szItem_any xp xd xl.length xa xc v _ v0 (by omega) s2 s1).mono ?_
        rintro r w2 ⟨⟨y, rfl, hy⟩, hb2⟩
        have B2 := hide (below_step (unhide HB) hb2 (unhide HB).size)
        clear hb2 HB
        by_cases hy0 : y < 0
        · clear hy
          go_wp2_with fail
          go_ret
          exact ⟨⟨_, rfl, .inl (by decide)⟩, unhide B2⟩
        have hy1 : 0 ≤ y ∧ y ≤ v ∧ (xl.length : Int) ≤ v := by
          rcases hy with h | h
          · omega
          · exact h
        obtain ⟨y1, y2, y3⟩ := hy1
        have HI2 : Hid (∀ j (hj : j < L.length), j < k + 1 → L[j].b.l.length ≤ 1048576) := by
          intro j hj hj1
          by_cases e : j = k
          · subst e
            rw [unhide HXE]
            show xl.length ≤ 1048576
            omega
          · exact unhide HI j hj (by omega)
        clear hy y3
        go_wp2_with fail
        go_roundw
        case rel => exact ⟨k + 1, y, by omega, by go_num, rfl, by omega, by omega, B2, HI2⟩
        case measure => simp [intOf]; omega
      · have HA : Hid (∀ y ∈ L, y.b.l.length ≤ 1048576) := by
          intro y hy
          obtain ⟨j, hj, rfl⟩ := List.getElem_of_mem hy
          exact unhide HI j hj (by omega)
        go_wp2_with fail
        go_ret
        exact ⟨⟨_, rfl, .inr ⟨by omega, by omega, by omega, unhide HA⟩⟩, unhide HB⟩
end Go.Proofs.YtcmekhpphgkglaaDoor
