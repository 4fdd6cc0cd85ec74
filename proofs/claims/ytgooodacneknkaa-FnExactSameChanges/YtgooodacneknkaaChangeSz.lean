/-
  What the laws' own sizes of records (Change) answer.
-/
import Derived.Test.YtgooodacneknkaaChangeMath
import Derived.Test.YtgooodacneknkaaDevSz
import Derived.Test.YtgooodacneknkaaToNodeWalk
namespace Go.Proofs.Ytgooodacneknkaa
open Go.RowKit
set_option linter.unusedVariables false

set_option maxRecDepth 20000 in
set_option maxHeartbeats 2000000 in
theorem szChange_any (k : Int) (u : Int) (i : Int) (nu : Int) (nd : Bool) (np : Int) (nn : ByteArray) (ns : Int) (n : Nat) (a : Option Addr) (c : Nat) (left : Int) (w : World) (h0 : 0 ≤ left) (h1 : left ≤ 1048576) (hs : nn.size ≤ maxLen) (hn : n ≤ maxLen) :
    Calls Try.prog 38 #[.agg #[.int .i64 k, .int .i64 u, .int .i64 i, .int .i64 nu, .bool nd, .int .i64 np, .string nn, .int .i64 ns, .slice a n c], .int .i64 left] w fun r w' => (∃ x : Int, r = .returned (.int .i64 x) ∧ (x < 0 ∨ (0 ≤ x ∧ x ≤ left ∧ (n : Int) ≤ left))) ∧ Below w.heap.size w w' := by
  obtain ⟨W, hW, hWz, HB0, HP0⟩ := boxes1 w [.int .i64 k, .int .i64 u, .int .i64 i, .int .i64 nu, .bool nd, .int .i64 np, .string nn, .int .i64 ns, .slice a n c] 64
  go_enter Try.func38, Try.ntmps38
  go_wp2_with fail
  rw [← hW]
  clear hW
  refine (szNode_any nu nd np nn ns left _ h0 h1 hs).mono ?_
  rintro r w1 ⟨⟨x, rfl, hx⟩, hb1⟩
  have HP1 := hide ((unhide HP0).below hb1)
  have B1 := hide (below_step (unhide HB0) hb1 (by omega))
  have z1 : w.heap.size < w1.heap.size := by have := hb1.size; omega
  clear hb1 HP0 HB0
  by_cases hx0 : x < 0
  · clear hx
    go_wp2_with fail
    go_ret
    exact ⟨⟨_, rfl, .inl (by decide)⟩, unhide B1⟩
  have hx1 : 0 ≤ x ∧ x ≤ left := by
    rcases hx with ⟨h, _⟩ | ⟨h, h'⟩
    · omega
    · omega
  obtain ⟨hx2, hx3⟩ := hx1
  clear hx
  have p8 := (unhide HP1).cell 8
  simp only [List.getElem?_cons_zero, List.getElem?_cons_succ] at p8
  go_wp2_with fail
  refine (szInt64S_any a n c x _ hx2 (by omega) hn).mono ?_
  rintro r w2 ⟨⟨y, rfl, hy⟩, rfl⟩
  by_cases hy0 : y < 0
  · clear hy
    go_wp2_with fail
    go_ret
    exact ⟨⟨_, rfl, .inl (by decide)⟩, unhide B1⟩
  have hy1 : 0 ≤ y ∧ y ≤ left ∧ (n : Int) ≤ left := by
    rcases hy with ⟨h, _⟩ | ⟨h, h'⟩
    · omega
    · omega
  have HY := hide hy1
  clear hy hy1
  go_wp2_with fail
  go_ret
  exact ⟨⟨_, rfl, .inr (unhide HY)⟩, unhide B1⟩
set_option maxRecDepth 20000 in
set_option maxHeartbeats 2000000 in
theorem szChangeS_any (a : Option Addr) (c : Nat) (L : List ChnA) (left : Int) (w : World) (h : ChnsR w a L) (hn : L.length ≤ maxLen) (h0 : 0 ≤ left) (h1 : left ≤ 1048576) :
    Calls Try.prog 19 #[.slice a L.length c, .int .i64 left] w fun r w' => (∃ x : Int, r = .returned (.int .i64 x) ∧ (x < 0 ∨ (0 ≤ x ∧ x ≤ left ∧ (L.length : Int) ≤ left ∧ ∀ y ∈ L, y.b.nl.length ≤ 1048576))) ∧ Below w.heap.size w w' := by
  unfold maxLen at hn
  by_cases hl : left - (L.length : Int) < 0
  · go_enter Try.func19, Try.ntmps19
    go_wp2
    go_ret
    exact ⟨⟨_, rfl, .inl (by decide)⟩, Below.refl _ _⟩
  · go_enter Try.func19, Try.ntmps19
    go_wp2
    go_loopw [1, 5] (fun t i wr => ∃ (k : Nat) (v : Int), k ≤ L.length ∧ i = .int .i64 k ∧ t = .int .i64 v ∧ 0 ≤ v ∧ v ≤ left ∧ Hid (Below w.heap.size w wr) ∧ Hid (∀ j (hj : j < L.length), j < k → L[j].b.nl.length ≤ 1048576)) (fun _ i _ => L.length - (intOf i).toNat)
    case atStart => exact ⟨0, left - L.length, Nat.zero_le _, rfl, rfl, by omega, by omega, Below.refl _ _, fun j _ hj => absurd hj (Nat.not_lt_zero j)⟩
    case round =>
      obtain ⟨k, v, hk, rfl, rfl, v0, v1, HB, HI⟩ := hrel
      by_cases hlt : k < L.length
      · obtain ⟨b1, o1, rfl, hb1, hc1⟩ := h.at hlt
        have hbw := unhide HB
        have hx := hc1 k hlt
        obtain ⟨x, hxe⟩ : ∃ x, L[k] = x := ⟨_, rfl⟩
        rw [hxe] at hx
        have HXE := hide hxe
        clear hxe
        obtain ⟨⟨xk, xu, xi, xnu, xnd, xnp, xnn, xns, xnl⟩, xa, xc⟩ := x
        have zb1 : b1 < wr.heap.size := by have := hbw.size; omega
        have x0 := (hbw.cell (p := ⟨b1, o1 + k * 9, none⟩) hb1).trans (hx.1 0 _ rfl)
        have x1 := (hbw.cell (p := ⟨b1, o1 + k * 9 + 1, none⟩) hb1).trans (hx.1 1 _ rfl)
        have x2 := (hbw.cell (p := ⟨b1, o1 + k * 9 + 2, none⟩) hb1).trans (hx.1 2 _ rfl)
        have x3 := (hbw.cell (p := ⟨b1, o1 + k * 9 + 3, none⟩) hb1).trans (hx.1 3 _ rfl)
        have x4 := (hbw.cell (p := ⟨b1, o1 + k * 9 + 4, none⟩) hb1).trans (hx.1 4 _ rfl)
        have x5 := (hbw.cell (p := ⟨b1, o1 + k * 9 + 5, none⟩) hb1).trans (hx.1 5 _ rfl)
        have x6 := (hbw.cell (p := ⟨b1, o1 + k * 9 + 6, none⟩) hb1).trans (hx.1 6 _ rfl)
        have x7 := (hbw.cell (p := ⟨b1, o1 + k * 9 + 7, none⟩) hb1).trans (hx.1 7 _ rfl)
        have x8 := (hbw.cell (p := ⟨b1, o1 + k * 9 + 8, none⟩) hb1).trans (hx.1 8 _ rfl)
        have s1 := hx.2.2.1
        have s2 := hx.2.2.2
        clear hc1 hx h hbw
        simp only at x0 x1 x2 x3 x4 x5 x6 x7 x8 s1 s2
        go_wp2_with fail
        clear x0 x1 x2 x3 x4 x5 x6 x7 x8
        refine (szChange_any xk xu xi xnu xnd xnp xnn xns xnl.length xa xc v _ v0 (by omega) s2 s1).mono ?_
        rintro r w2 ⟨⟨y, rfl, hy⟩, hb2⟩
        have B2 := hide (below_step (unhide HB) hb2 (unhide HB).size)
        clear hb2 HB
        by_cases hy0 : y < 0
        · clear hy
          go_wp2_with fail
          go_ret
          exact ⟨⟨_, rfl, .inl (by decide)⟩, unhide B2⟩
        have hy1 : 0 ≤ y ∧ y ≤ v ∧ (xnl.length : Int) ≤ v := by
          rcases hy with h | h
          · omega
          · exact h
        obtain ⟨y1, y2, y3⟩ := hy1
        have HI2 : Hid (∀ j (hj : j < L.length), j < k + 1 → L[j].b.nl.length ≤ 1048576) := by
          intro j hj hj1
          by_cases e : j = k
          · subst e
            rw [unhide HXE]
            show xnl.length ≤ 1048576
            omega
          · exact unhide HI j hj (by omega)
        clear hy y3
        go_wp2_with fail
        go_roundw
        case rel => exact ⟨k + 1, y, by omega, by go_num, rfl, by omega, by omega, B2, HI2⟩
        case measure => simp [intOf]; omega
      · have HA : Hid (∀ y ∈ L, y.b.nl.length ≤ 1048576) := by
          intro y hy
          obtain ⟨j, hj, rfl⟩ := List.getElem_of_mem hy
          exact unhide HI j hj (by omega)
        go_wp2_with fail
        go_ret
        exact ⟨⟨_, rfl, .inr ⟨by omega, by omega, by omega, unhide HA⟩⟩, unhide HB⟩
end Go.Proofs.Ytgooodacneknkaa
