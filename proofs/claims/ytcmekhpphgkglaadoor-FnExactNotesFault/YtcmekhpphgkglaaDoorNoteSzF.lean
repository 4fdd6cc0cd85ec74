/-
  The laws' own measure of notes, which tells the sizes of their paths too.
-/
import Derived.Test.YtcmekhpphgkglaaDoorNoteSz
namespace Go.Proofs.YtcmekhpphgkglaaDoor
open Go.RowKit
set_option linter.unusedVariables false

def NteA.full (x : NteA) : Prop := x.small ∧ x.b.op.size ≤ 1048576 ∧ x.b.ot.size ≤ 1048576
set_option maxRecDepth 20000 in
set_option maxHeartbeats 2000000 in
theorem szNote_full (x : NteA) (left : Int) (w : World) (h0 : 0 ≤ left) (h1 : left ≤ 1048576) (h : x.side w) (hm : x.mid) :
    Calls Tryd.prog 24 #[.agg #[.int .i64 x.b.k, .int .i64 x.b.wo, .int .i64 x.b.e, .int .i64 x.b.ok, .string x.b.op, .string x.b.ot, .bool x.b.od, .int .i64 x.b.oi, .slice x.a1 x.b.on.length x.c1, .int .i64 x.b.rc, .slice x.a2 x.b.rn.length x.c2, .slice x.a3 x.b.rs.length x.c3], .int .i64 left] w fun r w' => (∃ y : Int, r = .returned (.int .i64 y) ∧ (y < 0 ∨ (0 ≤ y ∧ y ≤ left ∧ x.full))) ∧ Below w.heap.size w w' := by
  obtain ⟨⟨k, wo, e, ok, op, ot, od, oi, on, rc, rn, rs⟩, a1, c1, a2, c2, a3, c3⟩ := x
  obtain ⟨m1, m2, m3, m4, m5, m6⟩ := hm
  obtain ⟨-, -, h⟩ := h
  simp only at m1 m2 m3 m4 m5 m6 h
  obtain ⟨W, hW, hWz, HB0, HP0⟩ := boxes1 w [.int .i64 k, .int .i64 wo, .int .i64 e, .int .i64 ok, .string op, .string ot, .bool od, .int .i64 oi, .slice a1 on.length c1, .int .i64 rc, .slice a2 rn.length c2, .slice a3 rs.length c3] 58
  have H := hide (h.below (unhide HB0))
  have HM := hide m6
  clear h m6
  go_enter Tryd.func24, Tryd.ntmps24
  go_wp2_with fail
  rw [← hW]
  clear hW
  refine (szOp_any ok op ot od oi on.length a1 c1 left _ h0 h1 m4 m5 m1).mono ?_
  rintro r w1 ⟨⟨y, rfl, hy⟩, hb1⟩
  have HP1 := hide ((unhide HP0).below hb1)
  have H1 := hide ((unhide H).below hb1)
  have B1 := hide (below_step (unhide HB0) hb1 (by omega))
  have z1 : w.heap.size < w1.heap.size := by have := hb1.size; omega
  clear hb1 HP0 HB0 H
  by_cases hy0 : y < 0
  · clear hy
    go_wp2_with fail
    go_ret
    exact ⟨⟨_, rfl, .inl (by decide)⟩, unhide B1⟩
  have hy1 : 0 ≤ y ∧ y ≤ left ∧ (on.length : Int) ≤ left ∧ op.size ≤ 1048576 ∧ ot.size ≤ 1048576 := by
    rcases hy with h | h
    · omega
    · omega
  obtain ⟨y1, y2, y3⟩ := hy1
  have Y3 := hide y3
  clear hy y3
  have p9 := (unhide HP1).cell 9
  have p10 := (unhide HP1).cell 10
  have p11 := (unhide HP1).cell 11
  simp only [List.getElem?_cons_zero, List.getElem?_cons_succ] at p9 p10 p11
  go_wp2_with fail
  refine (szReply_any rc a2 rn.length c2 a3 rs c3 y _ y1 (by omega) m2 (unhide H1) (unhide HM) m3).mono ?_
  rintro r w2 ⟨⟨z, rfl, hz⟩, hb2⟩
  have B2 := hide (below_step (unhide B1) hb2 (by omega))
  clear hb2 B1 HP1 p9 p10 p11
  by_cases hz0 : z < 0
  · clear hz
    go_wp2_with fail
    go_ret
    exact ⟨⟨_, rfl, .inl (by decide)⟩, unhide B2⟩
  have hz1 : 0 ≤ z ∧ z ≤ left ∧ NteA.full ⟨⟨k, wo, e, ok, op, ot, od, oi, on, rc, rn, rs⟩, a1, c1, a2, c2, a3, c3⟩ := by
    have := unhide Y3
    rcases hz with h | h
    · omega
    · exact ⟨h.1, by omega, ⟨by show on.length ≤ 1048576; omega, by show rn.length ≤ 1048576; omega, by show rs.length ≤ 1048576; omega⟩, this.2.1, this.2.2⟩
  have HZ := hide hz1
  clear hz hz1
  go_wp2_with fail
  go_ret
  exact ⟨⟨_, rfl, .inr (unhide HZ)⟩, unhide B2⟩
set_option maxRecDepth 20000 in
set_option maxHeartbeats 2000000 in
theorem szNoteS_full (a : Option Addr) (c : Nat) (L : List NteA) (left : Int) (w : World) (h : NtesR w a L) (hn : L.length ≤ maxLen) (h0 : 0 ≤ left) (h1 : left ≤ 1048576) :
    Calls Tryd.prog 10 #[.slice a L.length c, .int .i64 left] w fun r w' => (∃ x : Int, r = .returned (.int .i64 x) ∧ (x < 0 ∨ (0 ≤ x ∧ x ≤ left ∧ (L.length : Int) ≤ left ∧ ∀ y ∈ L, y.full))) ∧ Below w.heap.size w w' := by
  unfold maxLen at hn
  by_cases hl : left - (L.length : Int) < 0
  · go_enter Tryd.func10, Tryd.ntmps10
    go_wp2
    go_ret
    exact ⟨⟨_, rfl, .inl (by decide)⟩, Below.refl _ _⟩
  · go_enter Tryd.func10, Tryd.ntmps10
    go_wp2
    go_loopw [1, 5] (fun t i wr => ∃ (k : Nat) (v : Int), k ≤ L.length ∧ i = .int .i64 k ∧ t = .int .i64 v ∧ 0 ≤ v ∧ v ≤ left ∧ Hid (Below w.heap.size w wr) ∧ Hid (∀ j (hj : j < L.length), j < k → L[j].full)) (fun _ i _ => L.length - (intOf i).toNat)
    case atStart => exact ⟨0, left - L.length, Nat.zero_le _, rfl, rfl, by omega, by omega, Below.refl _ _, fun j _ hj => absurd hj (Nat.not_lt_zero j)⟩
    case round =>
      obtain ⟨k, v, hk, rfl, rfl, v0, v1, HB, HI⟩ := hrel
      by_cases hlt : k < L.length
      · obtain ⟨b1, o1, rfl, hb1, hc1⟩ := h.at hlt
        have hbw := unhide HB
        have hx := hc1 k hlt
        obtain ⟨x, hxe⟩ : ∃ x, L[k] = x := ⟨_, rfl⟩
        rw [hxe] at hx
        have HXE := hide hxe
        clear hxe
        have zb1 : b1 < wr.heap.size := by have := hbw.size; omega
        have x0 : wr.cell? ⟨b1, o1 + k * 12, none⟩ = some (.int .i64 x.b.k) := (hbw.cell (p := ⟨b1, o1 + k * 12, none⟩) hb1).trans (hx.1 0 _ rfl)
        have x1 : wr.cell? ⟨b1, o1 + k * 12 + 1, none⟩ = some (.int .i64 x.b.wo) := (hbw.cell (p := ⟨b1, o1 + k * 12 + 1, none⟩) hb1).trans (hx.1 1 _ rfl)
        have x2 : wr.cell? ⟨b1, o1 + k * 12 + 2, none⟩ = some (.int .i64 x.b.e) := (hbw.cell (p := ⟨b1, o1 + k * 12 + 2, none⟩) hb1).trans (hx.1 2 _ rfl)
        have x3 : wr.cell? ⟨b1, o1 + k * 12 + 3, none⟩ = some (.int .i64 x.b.ok) := (hbw.cell (p := ⟨b1, o1 + k * 12 + 3, none⟩) hb1).trans (hx.1 3 _ rfl)
        have x4 : wr.cell? ⟨b1, o1 + k * 12 + 4, none⟩ = some (.string x.b.op) := (hbw.cell (p := ⟨b1, o1 + k * 12 + 4, none⟩) hb1).trans (hx.1 4 _ rfl)
        have x5 : wr.cell? ⟨b1, o1 + k * 12 + 5, none⟩ = some (.string x.b.ot) := (hbw.cell (p := ⟨b1, o1 + k * 12 + 5, none⟩) hb1).trans (hx.1 5 _ rfl)
        have x6 : wr.cell? ⟨b1, o1 + k * 12 + 6, none⟩ = some (.bool x.b.od) := (hbw.cell (p := ⟨b1, o1 + k * 12 + 6, none⟩) hb1).trans (hx.1 6 _ rfl)
        have x7 : wr.cell? ⟨b1, o1 + k * 12 + 7, none⟩ = some (.int .i64 x.b.oi) := (hbw.cell (p := ⟨b1, o1 + k * 12 + 7, none⟩) hb1).trans (hx.1 7 _ rfl)
        have x8 : wr.cell? ⟨b1, o1 + k * 12 + 8, none⟩ = some (.slice x.a1 x.b.on.length x.c1) := (hbw.cell (p := ⟨b1, o1 + k * 12 + 8, none⟩) hb1).trans (hx.1 8 _ rfl)
        have x9 : wr.cell? ⟨b1, o1 + k * 12 + 9, none⟩ = some (.int .i64 x.b.rc) := (hbw.cell (p := ⟨b1, o1 + k * 12 + 9, none⟩) hb1).trans (hx.1 9 _ rfl)
        have x10 : wr.cell? ⟨b1, o1 + k * 12 + 10, none⟩ = some (.slice x.a2 x.b.rn.length x.c2) := (hbw.cell (p := ⟨b1, o1 + k * 12 + 10, none⟩) hb1).trans (hx.1 10 _ rfl)
        have x11 : wr.cell? ⟨b1, o1 + k * 12 + 11, none⟩ = some (.slice x.a3 x.b.rs.length x.c3) := (hbw.cell (p := ⟨b1, o1 + k * 12 + 11, none⟩) hb1).trans (hx.1 11 _ rfl)
        have SD := hide (hx.2.1.below hbw)
        have MD := hide hx.2.2
        clear hc1 hx h hbw
        go_wp2_with fail
        clear x0 x1 x2 x3 x4 x5 x6 x7 x8 x9 x10 x11
        refine (szNote_full x v _ v0 (by omega) (unhide SD) (unhide MD)).mono ?_
        rintro r w2 ⟨⟨y, rfl, hy⟩, hb2⟩
        have B2 := hide (below_step (unhide HB) hb2 (unhide HB).size)
        clear hb2 HB
        by_cases hy0 : y < 0
        · clear hy
          go_wp2_with fail
          go_ret
          exact ⟨⟨_, rfl, .inl (by decide)⟩, unhide B2⟩
        have hy1 : 0 ≤ y ∧ y ≤ v ∧ x.full := by
          rcases hy with h | h
          · omega
          · exact h
        obtain ⟨y1, y2, y3⟩ := hy1
        have HI2 : Hid (∀ j (hj : j < L.length), j < k + 1 → L[j].full) := by
          intro j hj hj1
          by_cases e : j = k
          · subst e
            rw [unhide HXE]
            exact y3
          · exact unhide HI j hj (by omega)
        clear hy y3
        go_wp2_with fail
        go_roundw
        case rel => exact ⟨k + 1, y, by omega, by go_num, rfl, by omega, by omega, B2, HI2⟩
        case measure => simp [intOf]; omega
      · have HA : Hid (∀ y ∈ L, y.full) := by
          intro y hy
          obtain ⟨j, hj, rfl⟩ := List.getElem_of_mem hy
          exact unhide HI j hj (by omega)
        go_wp2_with fail
        go_ret
        exact ⟨⟨_, rfl, .inr ⟨by omega, by omega, by omega, unhide HA⟩⟩, unhide HB⟩
end Go.Proofs.YtcmekhpphgkglaaDoor
