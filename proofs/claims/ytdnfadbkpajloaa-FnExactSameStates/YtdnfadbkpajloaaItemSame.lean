/-
  What impl.sameItem and impl.SameItems answer.
-/
import Derived.Test.YtdnfadbkpajloaaItemMath
import Derived.Test.YtdnfadbkpajloaaDevTo
namespace Go.Proofs.Ytdnfadbkpajloaa
open Go.RowKit
set_option linter.unusedVariables false

set_option maxRecDepth 20000 in
set_option maxHeartbeats 4000000 in
theorem sameItem_any (x y : ItmA) (w : World) (h : IntsAt w x.a x.b.l) (h2 : IntsAt w y.a y.b.l) (hn : x.b.l.length ≤ 1048576) :
    Calls Try.prog 189 #[.agg x.cells.toArray, .agg y.cells.toArray] w fun r w' => r = .returned (.bool (sameItm x.b y.b)) ∧ Below w.heap.size w w' := by
  obtain ⟨⟨p, d, l⟩, a, c⟩ := x
  obtain ⟨⟨p', d', l'⟩, a', c'⟩ := y
  simp only [ItmA.cells] at *
  obtain ⟨W, hW, hWz, HB0, HX0, HY0⟩ := boxes2 w [.string p, .bool d, .slice a l.length c] [.string p', .bool d', .slice a' l'.length c'] 236 236
  have H := hide (h.below (unhide HB0))
  have H2 := hide (h2.below (unhide HB0))
  clear h h2
  have hr : sameItm ⟨p, d, l⟩ ⟨p', d', l'⟩ = ((p.toList == p'.toList) && (d == d') && decide (l = l')) := rfl
  have HR := hide hr
  clear hr
  cases hb0 : (p.toList == p'.toList)
  · have HR2 : Hid (sameItm ⟨p, d, l⟩ ⟨p', d', l'⟩ = false) := hide (by rw [unhide HR, hb0]; simp)
    clear HR
    go_enter Try.func189, Try.ntmps189
    go_wp2_with fail
    go_ret
    refine ⟨ret_bool (unhide HR2).symm, ?_⟩
    rw [← hW]
    exact unhide HB0
  cases hb1 : (d == d')
  · have HR2 : Hid (sameItm ⟨p, d, l⟩ ⟨p', d', l'⟩ = false) := hide (by rw [unhide HR, hb0, hb1]; simp)
    clear HR
    go_enter Try.func189, Try.ntmps189
    go_wp2_with fail
    go_ret
    refine ⟨ret_bool (unhide HR2).symm, ?_⟩
    rw [← hW]
    exact unhide HB0
  have HR2 : Hid (sameItm ⟨p, d, l⟩ ⟨p', d', l'⟩ = decide (l = l')) := hide (by rw [unhide HR, hb0, hb1]; simp)
  clear HR
  go_enter Try.func189, Try.ntmps189
  go_wp2_with fail
  rw [← hW]
  clear hW
  refine (eqInts_any a a' c c' l l' _ (unhide H) (unhide H2) hn).mono ?_
  rintro r w1 ⟨rfl, hb1⟩
  have B1 := hide (below_step (unhide HB0) hb1 (by omega))
  clear hb1
  generalize decide (l = l') = b3 at *
  go_wp2_with fail
  go_ret
  exact ⟨ret_bool (unhide HR2).symm, unhide B1⟩
set_option maxRecDepth 20000 in
set_option maxHeartbeats 4000000 in
theorem equalFuncItm_any (a b : Option Addr) (c d : Nat) (L M : List ItmA) (w : World) (h : ItmsAt w a L) (h2 : ItmsAt w b M) (hn : L.length ≤ 1048576) (hm : M.length ≤ 1048576) :
    Calls Try.prog 188 #[.slice a L.length c, .slice b M.length d, .func (.func 189) #[] #[]] w fun r w' => r = .returned (.bool (sameItms L M)) ∧ Below w.heap.size w w' := by
  by_cases hl : L.length = M.length
  · have hlb : ((L.length : Int) != (M.length : Int)) = false := by simp; omega
    have HL := hide hl
    clear hl
    go_enter Try.func188, Try.ntmps188
    go_wp2
    go_loopw [17] (fun i wr => ∃ k : Nat, k ≤ L.length ∧ i = .int .i64 k ∧ Hid (Below w.heap.size w wr) ∧ Hid (sameItms L M = sameItms (L.drop k) (M.drop k))) (fun i _ => L.length - (intOf i).toNat)
    case atStart => exact ⟨0, Nat.zero_le _, rfl, Below.refl _ _, by simp [Hid]⟩
    case round =>
      obtain ⟨k, hk, rfl, HB, HX⟩ := hrel
      by_cases hlt : k < L.length
      · have hlt2 : k < M.length := by have := unhide HL; omega
        have hst := sameItms_drop hlt hlt2
        obtain ⟨b1, o1, rfl, hb1, hc1⟩ := h.at hlt
        obtain ⟨b2, o2, rfl, hb2, hc2⟩ := h2.at hlt2
        have hbw := unhide HB
        have hx := hc1 k hlt
        have hy := hc2 k hlt2
        generalize L[k] = x at *
        generalize M[k] = y at *
        have I1 := hide (hx.2.1.keep hbw.size fun _ _ hl => hbw.block _ hl)
        have I2 := hide (hy.2.1.keep hbw.size fun _ _ hl => hbw.block _ hl)
        have hnl := hx.2.2
        have z0 := hbw.size
        have zb1 : b1 < wr.heap.size := by omega
        have zb2 : b2 < wr.heap.size := by omega
        have x0 : wr.cell? ⟨b1, o1 + k * 3, none⟩ = some (.string x.b.p) := (hbw.cell (p := ⟨b1, o1 + k * 3, none⟩) hb1).trans (hx.1 0 _ rfl)
        have x1 : wr.cell? ⟨b1, o1 + k * 3 + 1, none⟩ = some (.bool x.b.d) := (hbw.cell (p := ⟨b1, o1 + k * 3 + 1, none⟩) hb1).trans (hx.1 1 _ rfl)
        have x2 : wr.cell? ⟨b1, o1 + k * 3 + 2, none⟩ = some (.slice x.a x.b.l.length x.c) := (hbw.cell (p := ⟨b1, o1 + k * 3 + 2, none⟩) hb1).trans (hx.1 2 _ rfl)
        have y0 : wr.cell? ⟨b2, o2 + k * 3, none⟩ = some (.string y.b.p) := (hbw.cell (p := ⟨b2, o2 + k * 3, none⟩) hb2).trans (hy.1 0 _ rfl)
        have y1 : wr.cell? ⟨b2, o2 + k * 3 + 1, none⟩ = some (.bool y.b.d) := (hbw.cell (p := ⟨b2, o2 + k * 3 + 1, none⟩) hb2).trans (hy.1 1 _ rfl)
        have y2 : wr.cell? ⟨b2, o2 + k * 3 + 2, none⟩ = some (.slice y.a y.b.l.length y.c) := (hbw.cell (p := ⟨b2, o2 + k * 3 + 2, none⟩) hb2).trans (hy.1 2 _ rfl)
        have HST := hide ((unhide HX).trans hst)
        clear hst hc1 hc2 hx hy h h2 hbw
        go_wp2_with fail
        clear x0 y0 x1 y1 x2 y2
        obtain ⟨W, hW, hWz, HBw, -, -⟩ := boxes2 wr [.string x.b.p, .bool x.b.d, .slice x.a x.b.l.length x.c] [.string y.b.p, .bool y.b.d, .slice y.a y.b.l.length y.c] 236 236
        rw [← hW]
        clear hW
        refine (sameItem_any x y _ ((unhide I1).below (unhide HBw)) ((unhide I2).below (unhide HBw)) hnl).mono ?_
        rintro r w1 ⟨rfl, hb1'⟩
        have B1 := hide (below_step (unhide HB) (below_step (unhide HBw) hb1' (unhide HBw).size) z0)
        clear hb1' I1 I2 HBw
        cases hq : sameItm x.b y.b
        · have HV : Hid (sameItms L M = false) := by rw [Hid, unhide HST, hq]; rfl
          go_wp2_with fail
          go_ret
          exact ⟨ret_bool (unhide HV).symm, unhide B1⟩
        · have HV : Hid (sameItms L M = sameItms (L.drop (k + 1)) (M.drop (k + 1))) := by rw [Hid, unhide HST, hq]; rfl
          clear hq
          go_wp2_with fail
          go_roundw
          case rel => exact ⟨k + 1, by omega, by go_num, B1, HV⟩
          case measure => simp [intOf]; omega
      · have HV : Hid (sameItms L M = true) := by
          have hle := unhide HL
          rw [Hid, unhide HX, List.drop_of_length_le (by omega), List.drop_of_length_le (by omega)]; rfl
        go_wp2_with fail
        go_ret
        exact ⟨ret_bool (unhide HV).symm, unhide HB⟩
  · have hlb : ((L.length : Int) != (M.length : Int)) = true := by simp; omega
    have HV := hide (sameItms_len hl)
    clear hl
    go_enter Try.func188, Try.ntmps188
    go_wp2
    go_ret
    exact ⟨ret_bool (unhide HV).symm, Below.refl _ _⟩
set_option maxRecDepth 20000 in
set_option maxHeartbeats 1000000 in
theorem implSameItems_any (a b : Option Addr) (c d : Nat) (L M : List ItmA) (w : World) (h : ItmsAt w a L) (h2 : ItmsAt w b M) (hn : L.length ≤ 1048576) (hm : M.length ≤ 1048576) :
    Calls Try.prog 135 #[.slice a L.length c, .slice b M.length d] w fun r w' => r = .returned (.bool (sameItms L M)) ∧ Below w.heap.size w w' := by
  have H := hide h
  have H2 := hide h2
  clear h h2
  go_enter Try.func135, Try.ntmps135
  go_wp2_with fail
  refine (equalFuncItm_any a b c d L M _ (unhide H) (unhide H2) hn hm).mono ?_
  rintro r w1 ⟨rfl, hb1⟩
  have B1 := hide hb1
  clear hb1
  generalize hq : sameItms L M = q at *
  have HQ := hide hq
  clear hq
  go_wp2_with fail
  go_ret
  exact ⟨ret_bool (unhide HQ).symm, unhide B1⟩
end Go.Proofs.Ytdnfadbkpajloaa
