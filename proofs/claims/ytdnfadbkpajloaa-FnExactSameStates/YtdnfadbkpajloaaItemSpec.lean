/-
  What spec.SameItems answers.
-/
import Derived.Test.YtdnfadbkpajloaaItemMath
import Derived.BigQuiet
import Derived.Deep.QuietTactic
import Derived.Deep.RegionHeld3
namespace Go.Proofs.Ytdnfadbkpajloaa
open Go.RowKit
set_option linter.unusedVariables false

theorem keepC6 {W0 w' w1 : World} {b0 b1 b2 b3 b4 b5 o0 o1 o2 o3 o4 o5 : Nat} {v0 v1 v2 v3 v4 v5 : Value} (h0 : b0 < W0.heap.size) (h1 : b1 < W0.heap.size) (h2 : b2 < W0.heap.size) (h3 : b3 < W0.heap.size) (h4 : b4 < W0.heap.size) (h5 : b5 < W0.heap.size) (hS : Below W0.heap.size W0 w' ∧ w'.cell? ⟨b0, o0, none⟩ = some v0 ∧ w'.cell? ⟨b1, o1, none⟩ = some v1 ∧ w'.cell? ⟨b2, o2, none⟩ = some v2 ∧ w'.cell? ⟨b3, o3, none⟩ = some v3 ∧ w'.cell? ⟨b4, o4, none⟩ = some v4 ∧ w'.cell? ⟨b5, o5, none⟩ = some v5) (hb : Below w'.heap.size w' w1) : Below W0.heap.size W0 w1 ∧ w1.cell? ⟨b0, o0, none⟩ = some v0 ∧ w1.cell? ⟨b1, o1, none⟩ = some v1 ∧ w1.cell? ⟨b2, o2, none⟩ = some v2 ∧ w1.cell? ⟨b3, o3, none⟩ = some v3 ∧ w1.cell? ⟨b4, o4, none⟩ = some v4 ∧ w1.cell? ⟨b5, o5, none⟩ = some v5 := by
  obtain ⟨h, d0, d1, d2, d3, d4, d5⟩ := hS
  have hz := h.size
  exact ⟨h.trans (hb.mono hz), ((bcell hb).1 _ _ (by omega)).trans d0, ((bcell hb).1 _ _ (by omega)).trans d1, ((bcell hb).1 _ _ (by omega)).trans d2, ((bcell hb).1 _ _ (by omega)).trans d3, ((bcell hb).1 _ _ (by omega)).trans d4, ((bcell hb).1 _ _ (by omega)).trans d5⟩
set_option maxRecDepth 20000 in
set_option maxHeartbeats 4000000 in
theorem specSameItems_any (a b : Option Addr) (c d : Nat) (L M : List ItmA) (w : World) (h : ItmsAt w a L) (h2 : ItmsAt w b M) (hn : L.length ≤ 1048576) (hm : M.length ≤ 1048576) :
    Calls Try.prog 133 #[.slice a L.length c, .slice b M.length d] w fun r w' => r = .returned (.bool (sameItms L M)) ∧ Below w.heap.size w w' := by
  by_cases hl : L.length = M.length
  · have hlb : ((L.length : Int) != (M.length : Int)) = false := by simp; omega
    have HL := hide hl
    clear hl
    go_enter Try.func133, Try.ntmps133
    go_wp2
    go_loopw [5] (fun i wr => ∃ k : Nat, k ≤ L.length ∧ i = .int .i64 k ∧ Hid (Below w.heap.size w wr) ∧ Hid (sameItms L M = sameItms (L.drop k) (M.drop k))) (fun i _ => L.length - (intOf i).toNat)
    case atStart => exact ⟨0, Nat.zero_le _, rfl, Below.refl _ _, by simp [Hid]⟩
    case round =>
      obtain ⟨k, hk, rfl, HB, HX⟩ := hrel
      by_cases hlt : k < L.length
      · have hlt2 : k < M.length := by have := unhide HL; omega
        have hst := sameItms_drop hlt hlt2
        obtain ⟨b1, o1, rfl, hb1, hc1⟩ := h.at hlt
        obtain ⟨b2, o2, rfl, hb2, hc2⟩ := h2.at hlt2
        have hbw := unhide HB
        have hx := hc1 k hlt
        have hy := hc2 k hlt2
        generalize L[k] = x at *
        generalize M[k] = y at *
        have I1 := hide (hx.2.1.keep hbw.size fun _ _ hl => hbw.block _ hl)
        have I2 := hide (hy.2.1.keep hbw.size fun _ _ hl => hbw.block _ hl)
        have hnl := hx.2.2
        have z0 := hbw.size
        have zb1 : b1 < wr.heap.size := by omega
        have zb2 : b2 < wr.heap.size := by omega
        have x0 : wr.cell? ⟨b1, o1 + k * 3, none⟩ = some (.string x.b.p) := (hbw.cell (p := ⟨b1, o1 + k * 3, none⟩) hb1).trans (hx.1 0 _ rfl)
        have x1 : wr.cell? ⟨b1, o1 + k * 3 + 1, none⟩ = some (.bool x.b.d) := (hbw.cell (p := ⟨b1, o1 + k * 3 + 1, none⟩) hb1).trans (hx.1 1 _ rfl)
        have x2 : wr.cell? ⟨b1, o1 + k * 3 + 2, none⟩ = some (.slice x.a x.b.l.length x.c) := (hbw.cell (p := ⟨b1, o1 + k * 3 + 2, none⟩) hb1).trans (hx.1 2 _ rfl)
        have y0 : wr.cell? ⟨b2, o2 + k * 3, none⟩ = some (.string y.b.p) := (hbw.cell (p := ⟨b2, o2 + k * 3, none⟩) hb2).trans (hy.1 0 _ rfl)
        have y1 : wr.cell? ⟨b2, o2 + k * 3 + 1, none⟩ = some (.bool y.b.d) := (hbw.cell (p := ⟨b2, o2 + k * 3 + 1, none⟩) hb2).trans (hy.1 1 _ rfl)
        have y2 : wr.cell? ⟨b2, o2 + k * 3 + 2, none⟩ = some (.slice y.a y.b.l.length y.c) := (hbw.cell (p := ⟨b2, o2 + k * 3 + 2, none⟩) hb2).trans (hy.1 2 _ rfl)
        have HST := hide ((unhide HX).trans hst)
        clear hst hc1 hc2 hx hy h h2 hbw
        have hsb : sameItm x.b y.b = ((x.b.p.toList == y.b.p.toList) && (x.b.d == y.b.d) && decide (x.b.l = y.b.l)) := rfl
        have HSB := hide hsb
        clear hsb
        cases hb0 : (x.b.p.toList == y.b.p.toList)
        · have HV : Hid (sameItms L M = false) := by rw [Hid, unhide HST, unhide HSB, hb0]; rfl
          go_wp2_with fail
          go_quiet (fail)
          all_goals
            go_wp2_with fail
            go_ret
            exact ⟨ret_bool (unhide HV).symm, below_drewN (unhide HB) _⟩
        cases hb1 : (x.b.d == y.b.d)
        · have HV : Hid (sameItms L M = false) := by rw [Hid, unhide HST, unhide HSB, hb0, hb1]; rfl
          go_wp2_with fail
          go_quiet (fail)
          all_goals
            go_wp2_with fail
            go_ret
            exact ⟨ret_bool (unhide HV).symm, below_drewN (unhide HB) _⟩
        have hD : (fun w' => Below wr.heap.size wr w' ∧ w'.cell? ⟨b1, o1 + k * 3, none⟩ = some (.string x.b.p) ∧ w'.cell? ⟨b1, o1 + k * 3 + 1, none⟩ = some (.bool x.b.d) ∧ w'.cell? ⟨b1, o1 + k * 3 + 2, none⟩ = some (.slice x.a x.b.l.length x.c) ∧ w'.cell? ⟨b2, o2 + k * 3, none⟩ = some (.string y.b.p) ∧ w'.cell? ⟨b2, o2 + k * 3 + 1, none⟩ = some (.bool y.b.d) ∧ w'.cell? ⟨b2, o2 + k * 3 + 2, none⟩ = some (.slice y.a y.b.l.length y.c)) wr.drew := ⟨(Below.refl _ _).drew, x0, x1, x2, y0, y1, y2⟩
        have HD := hide hD
        clear hD x0 x1 x2 y0 y1 y2
        go_wp2_with fail
        go_region_held3 (fun w' => Below wr.heap.size wr w' ∧ w'.cell? ⟨b1, o1 + k * 3, none⟩ = some (.string x.b.p) ∧ w'.cell? ⟨b1, o1 + k * 3 + 1, none⟩ = some (.bool x.b.d) ∧ w'.cell? ⟨b1, o1 + k * 3 + 2, none⟩ = some (.slice x.a x.b.l.length x.c) ∧ w'.cell? ⟨b2, o2 + k * 3, none⟩ = some (.string y.b.p) ∧ w'.cell? ⟨b2, o2 + k * 3 + 1, none⟩ = some (.bool y.b.d) ∧ w'.cell? ⟨b2, o2 + k * 3 + 2, none⟩ = some (.slice y.a y.b.l.length y.c)) (first | exact unhide HD | assumption | exact keepC6 zb1 zb1 zb1 zb2 zb2 zb2 (by assumption) (by assumption))
          (first
            | (go_at_call 101; refine (l1Same_any x.a y.a x.c y.c x.b.l y.b.l _ ((unhide I1).below (And.left (by assumption))) ((unhide I2).below (And.left (by assumption))) hnl).mono ?_; rintro r w5 ⟨rfl, hb5⟩))
        rename_i hSF
        have B5 := hide (below_step (unhide HB) hSF.1 z0)
        clear hSF HD hb5
        cases hq : decide (x.b.l = y.b.l)
        · have HV : Hid (sameItms L M = false) := by rw [Hid, unhide HST, unhide HSB, hb0, hb1, hq]; rfl
          go_wp2_with fail
          go_ret
          exact ⟨ret_bool (unhide HV).symm, unhide B5⟩
        · have HV : Hid (sameItms L M = sameItms (L.drop (k + 1)) (M.drop (k + 1))) := by rw [Hid, unhide HST, unhide HSB, hb0, hb1, hq]; rfl
          clear hq
          go_wp2_with fail
          go_roundw
          case rel => exact ⟨k + 1, by omega, by go_num, B5, HV⟩
          case measure => simp [intOf]; omega
      · have HV : Hid (sameItms L M = true) := by
          have hle := unhide HL
          rw [Hid, unhide HX, List.drop_of_length_le (by omega), List.drop_of_length_le (by omega)]; rfl
        go_wp2_with fail
        go_ret
        exact ⟨ret_bool (unhide HV).symm, unhide HB⟩
  · have hlb : ((L.length : Int) != (M.length : Int)) = true := by simp; omega
    have HV := hide (sameItms_len hl)
    clear hl
    go_enter Try.func133, Try.ntmps133
    go_wp2
    go_ret
    exact ⟨ret_bool (unhide HV).symm, Below.refl _ _⟩
end Go.Proofs.Ytdnfadbkpajloaa
